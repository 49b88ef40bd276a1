import PyProof.Rows.All
import Wide.All
import OpenK.AllK
import Wide.FinOn
import Lean
import PyProof.EqAt
import PyProof.EqKinds
import PyProof.TupleCall
import PyProof.CompFree
import PyProof.CompMap
import PyProof.NeKinds
import PyProof.WalkInts
import PyProof.DictUpdate
import PyProof.ListRange
import PyProof.Conv_int_bool
import PyProof.Rows.SortWalk
import PyProof.Rows.SortRev
import PySem.Challenge.RW_leasehold_k10_whole_never_two
set_option Elab.async false
set_option genSizeOf false
set_option linter.all false
set_option maxRecDepth 100000
namespace L2
open PySem PySem.Spec PyProof.Rows
/-- a key: an int or a str -/
abbrev Key := Sum Int Str
def keyIs : Key → Value → Bool
  | .inl k, v => Value.isInt k v
  | .inr x, v => Value.isStrOf x v
def keyH (w : World) : Key → Int
  | .inl k => hashInt k
  | .inr x => hashStr w x
theorem keyIs_shape : ∀ {k : Key} {v : Value}, keyIs k v = true → (∃ i t, k = Sum.inl i ∧ v = Value.int i t) ∨ (∃ x t, k = Sum.inr x ∧ v = Value.str x t)
  | .inl i, v, h => by
    obtain ⟨t, e⟩ := Value.isInt_shape (k := i) (v := v) h
    exact .inl ⟨i, t, rfl, e⟩
  | .inr x, v, h => by
    obtain ⟨t, e⟩ := Value.isStrOf_shape (x := x) (v := v) h
    exact .inr ⟨x, t, rfl, e⟩
theorem keyIs_int (i : Int) (t : Tok) : keyIs (.inl i) (.int i t) = true := by simp [keyIs, Value.isInt]
theorem keyIs_str (x : Str) (t : Tok) : keyIs (.inr x) (.str x t) = true := by simp [keyIs, Value.isStrOf]
theorem key_ll (a b : Int) : decide ((Sum.inl a : Key) = Sum.inl b) = (a == b) := by
  by_cases e : a = b
  · subst e; simp
  · have h : ¬ (Sum.inl a : Key) = Sum.inl b := fun q => e (Sum.inl.inj q)
    rw [decide_eq_false h]
    exact (beq_eq_false_iff_ne.mpr e).symm
theorem key_rr (a b : Str) : decide ((Sum.inr a : Key) = Sum.inr b) = decide (a = b) := by
  by_cases e : a = b
  · subst e; simp
  · have h : ¬ (Sum.inr a : Key) = Sum.inr b := fun q => e (Sum.inr.inj q)
    rw [decide_eq_false h, decide_eq_false e]
theorem key_lr (a : Int) (b : Str) : decide ((Sum.inl a : Key) = Sum.inr b) = false := decide_eq_false (fun q => nomatch q)
theorem key_rl (a : Str) (b : Int) : decide ((Sum.inr a : Key) = Sum.inl b) = false := decide_eq_false (fun q => nomatch q)
def mixKind (prog : Program) (w : World) : PySem.KeyKind prog w Key where
  is := keyIs
  hash := keyH w
  inj := fun v a b ha hb => by
    rcases keyIs_shape ha with ⟨i, t, rfl, rfl⟩ | ⟨x, t, rfl, rfl⟩
    · rcases keyIs_shape hb with ⟨j, u, rfl, e⟩ | ⟨y, u, rfl, e⟩
      · injection e with e1 _; rw [e1]
      · exact nomatch e
    · rcases keyIs_shape hb with ⟨j, u, rfl, e⟩ | ⟨y, u, rfl, e⟩
      · exact nomatch e
      · injection e with e1 _; rw [e1]
  byValue := fun k v h => by
    rcases keyIs_shape h with ⟨i, t, rfl, rfl⟩ | ⟨x, t, rfl, rfl⟩ <;> rfl
  pyHash := fun hv h => by
    rcases keyIs_shape hv with ⟨i, t, rfl, rfl⟩ | ⟨x, t, rfl, rfl⟩
    · exact wpAny_pyHash_int h
    · exact wpAny_pyHash_str h
  eqBool := fun hu hv h => by
    rcases keyIs_shape hu with ⟨i, t, rfl, rfl⟩ | ⟨x, t, rfl, rfl⟩
    · rcases keyIs_shape hv with ⟨j, u, rfl, rfl⟩ | ⟨y, u, rfl, rfl⟩
      · rw [key_ll] at h; exact wpAny_eqBool_int h
      · rw [key_lr] at h; exact SeqAt.EqAt.int_str i t y u _ _ _ _ h
    · rcases keyIs_shape hv with ⟨j, u, rfl, rfl⟩ | ⟨y, u, rfl, rfl⟩
      · rw [key_rl] at h; exact SeqAt.EqAt.str_int x t j u _ _ _ _ h
      · rw [key_rr] at h; exact wpAny_eqBool_str h
  «strs» := fun k x t v h => by
    rcases keyIs_shape h with ⟨i, u, rfl, e⟩ | ⟨y, u, rfl, e⟩
    · exact nomatch e
    · injection e with e1 _
      subst e1
      cases v <;> rfl
theorem mixKind_int (prog : Program) (w : World) (i : Int) (t : Tok) : (mixKind prog w).is (.inl i) (.int i t) = true := keyIs_int i t
theorem mixKind_str (prog : Program) (w : World) (x : Str) (t : Tok) : (mixKind prog w).is (.inr x) (.str x t) = true := keyIs_str x t
end L2
namespace L2
open PySem PySem.Spec PyProof.Rows
/-- a value, without the heap -/
inductive V where
  | non | bl (b : Bool) | int (i : Int) | str (x : Str) | byt (b : Array UInt8) | flt (b : UInt64) | ref (a : Addr) | ty (n : String)
  deriving DecidableEq
def RelV : V → Value → Prop
  | .non, u => u = Value.none
  | .bl b, u => u = Value.bool b
  | .int i, u => ∃ t, u = Value.int i t
  | .str x, u => ∃ t, u = Value.str x t
  | .byt b, u => ∃ t, u = Value.bytes b t
  | .flt b, u => ∃ t, u = Value.float b t
  | .ref a, u => u = Value.ref a
  | .ty n, u => u = Value.type n
abbrev Vals : List V → List Value → Prop := Paired RelV
theorem Vals.length {xs : List V} {us : List Value} (r : Vals xs us) : xs.length = us.length := Paired.length r
theorem Vals.get : ∀ {xs : List V} {us : List Value} {i : Nat} {x : V}, Vals xs us → xs[i]? = some x → ∃ u, us[i]? = some u ∧ RelV x u
  | _, _, _, _, .nil, e => by simp at e
  | _, _, 0, _, .cons r _, e => by simp at e; subst e; exact ⟨_, rfl, r⟩
  | _, _, i + 1, x, .cons _ t, e => by
    obtain ⟨u, h1, h2⟩ := Vals.get (i := i) (x := x) t (by simpa using e)
    exact ⟨u, by simpa using h1, h2⟩
theorem Vals.set {x : V} {u : Value} (r : RelV x u) : ∀ {xs : List V} {us : List Value} (i : Nat), Vals xs us → Vals (xs.set i x) (us.set i u)
  | _, _, _, .nil => .nil
  | _, _, 0, .cons _ t => .cons r t
  | _, _, i + 1, .cons q t => .cons q (Vals.set r i t)
theorem Vals.append : ∀ {xs ys : List V} {us ws : List Value}, Vals xs us → Vals ys ws → Vals (xs ++ ys) (us ++ ws)
  | _, _, _, _, .nil, s => s
  | _, _, _, _, .cons r t, s => .cons r (Vals.append t s)
def RelO : Option V → Option Value → Prop
  | some v, some u => RelV v u
  | none, none => True
  | _, _ => False
def KV {κ : Type} : List (κ × V) → List (κ × Value) → Prop := Paired fun (p : κ × V) (q : κ × Value) => p.1 = q.1 ∧ RelV p.2 q.2
/-- a key of a dict (00_mix): an int or a text -/
def kV : Key → V
  | .inl i => .int i
  | .inr x => .str x
/-- what stands at a tracked address -/
inductive HO where
  /-- a list -/
  | lst (xs : List V)
  /-- a tuple (never changes) -/
  | tup (xs : List V)
  /-- a dict whose keys are ints and texts; one whose keys are tuples of ints and texts (the empty one is both) -/
  | dK (kvs : List (Key × V)) | dT (kvs : List (List Key × V))
  /-- a set of ints: its members, its size -/
  | set (S : Int → Bool) (n : Nat)
  /-- an instance of the class at C, its dict at dx, its attributes -/
  | ins (C dx : Addr) (fs : List (Str × V))
  /-- the dict of the instance at x -/
  | own (x : Addr)
  /-- the dict of an exception -/
  | xd (fs : List (Str × V))
  /-- a bound method, f of x -/
  | met (f x : Addr)
  /-- a range object lo, lo + 1, .. below hi -/
  | rng (lo hi : Int)
  /-- a thing that is known to the object (the script; a dict while a loop walks it): read, never written while it is so -/
  | frz (o : Obj) (u : HO)
  /-- a code object's table -/
  | tbl (ps : Array Value)
  /-- any other thing, by what is true of its one object (a def of one's own: SetO a S n := HO.ext fun h => ..) -/
  | ext (φ : Heap → Prop)
abbrev Hp := Addr → Option HO
def upd (H : Hp) (a : Addr) (o : HO) : Hp := fun b => if b = a then some o else H b
theorem upd_same {H : Hp} {a : Addr} {o : HO} : upd H a o a = some o := by unfold upd; rw [if_pos rfl]
theorem upd_ne {H : Hp} {a b : Addr} {o : HO} (h : b ≠ a) : upd H a o b = H b := by unfold upd; rw [if_neg h]
theorem upd_upd {H : Hp} {a : Addr} {o u : HO} : upd (upd H a o) a u = upd H a u := by
  funext b; unfold upd; split <;> rfl
/-- two objects of different content stand apart -/
theorem ne_of {H : Hp} {a b : Addr} {o u : HO} (h : H a = some o) (h' : H b = some u) (d : o ≠ u) : a ≠ b := by
  intro e; subst e; rw [h] at h'; exact d (Option.some.inj h')
theorem ne_of_none {H : Hp} {a b : Addr} {o : HO} (h : H a = some o) (h' : H b = none) : a ≠ b := by
  intro e; subst e; rw [h] at h'; cases h'
section
variable (P : Program) (w : World)
def ObjOk (H : Hp) (h : Heap) (a : Addr) : HO → Prop
  | .lst xs => xs.length ≤ sizeLine ∧ ∃ (its : List Value) (n : Nat), Vals xs its ∧ h.get? a = some { cls := .type "list", data := .seq its.toArray n }
  | .tup xs => xs.length ≤ sizeLine ∧ ∃ its : List Value, Vals xs its ∧ IsTup h a its.toArray
  | .dK kvs => kvs.length ≤ sizeLine ∧ (a == sysModules) = false ∧ ∃ vs, KV kvs vs ∧ h.DictOf (mixKind P w) a vs
  | .dT kvs => kvs.length ≤ sizeLine ∧ (a == sysModules) = false ∧ ∃ xs : List (List Key × Addr × Value),
      Paired (fun (p : List Key × V) (q : List Key × Addr × Value) => p.1 = q.1 ∧ H q.2.1 = some (.tup (p.1.map kV)) ∧ RelV p.2 q.2.2) kvs xs ∧
      ∃ o es ep, h.get? a = some o ∧ o.ExactDict ∧ o.data = .dict es ep ∧ es.toList = xs.map (entryOfKey (tupleKind (mixKind P w))) ∧ (xs.map (·.1)).Nodup
  | .set S n => h.SetOf (intKind P w) a S n
  | .ins C dx fs => H dx = some (.own a) ∧ fs.length ≤ 1000 ∧ dx ≠ a ∧ h.get? a = some (PySem.W.instObj C dx) ∧
      ∃ mA, h.Ns1 dx mA ∧ (∀ f, RelO (fs.lookup f) (mA f)) ∧ PySem.Within mA (fs.map (·.1))
  | .own _ => ∃ o, h.get? a = some o
  | .xd fs => ∃ mA, h.Ns1 a mA ∧ ∀ f, RelO (fs.lookup f) (mA f)
  | .rng lo hi => ∃ t u v, h.get? a = some { cls := .type "range", data := .fields #[.int lo t, .int hi u, .int 1 v] }
  | .frz o u => h.get? a = some o ∧ ObjOk H h a u
  | .tbl ps => h.get? a = some { cls := .none, data := .fields ps }
  | .met f x => h.get? a = some (PySem.W.methodObj (.ref f) (.ref x))
  | .ext φ => φ h ∧ (∃ o, h.get? a = some o) ∧ ∀ h1 h2 : Heap, φ h1 → (∀ o, h1.get? a = some o → h2.get? a = some o) → φ h2
/-- the abstract heap is held -/
def HOk (H : Hp) (h : Heap) : Prop := ∀ a o, H a = some o → ObjOk P w H h a o
end
section
variable {P : Program} {w : World} {H H' : Hp} {h h' : Heap} {a : Addr} {o : HO}
theorem ObjOk.lt (x : ObjOk P w H h a o) : a < h.objs.size := by
  cases o with
  | lst xs => obtain ⟨_, _, _, _, e⟩ := x; exact Heap.lt_size e
  | tup xs => obtain ⟨_, _, _, p⟩ := x; exact p.lt
  | dK kvs => obtain ⟨_, _, _, _, o, _, _, e, _⟩ := x; exact Heap.lt_size e
  | dT kvs => obtain ⟨_, _, _, _, o, _, _, e, _⟩ := x; exact Heap.lt_size e
  | set S n => obtain ⟨o, _, _, _, e, _⟩ := x; exact Heap.lt_size e
  | ins C dx fs => obtain ⟨_, _, _, e, _⟩ := x; exact Heap.lt_size e
  | own y => obtain ⟨_, e⟩ := x; exact Heap.lt_size e
  | xd fs => obtain ⟨_, ⟨_, _, _, e, _⟩, _⟩ := x; exact Heap.lt_size e
  | rng lo hi => obtain ⟨_, _, _, e⟩ := x; exact Heap.lt_size e
  | frz ob u => obtain ⟨e, _⟩ := x; exact Heap.lt_size e
  | tbl ps => exact Heap.lt_size (show h.get? a = some _ from x)
  | met f y => exact Heap.lt_size (show h.get? a = some _ from x)
  | ext φ => obtain ⟨_, ⟨_, e⟩, _⟩ := x; exact Heap.lt_size e
theorem Paired.mapP {α β : Type} {F G : α → β → Prop} : ∀ {l₁ : List α} {l₂ : List β}, Paired F l₁ l₂ → (∀ a b, F a b → G a b) → Paired G l₁ l₂
  | _, _, .nil, _ => .nil
  | _, _, .cons r t, f => .cons (f _ _ r) (Paired.mapP t f)
/-- what an object's description leans on: its own object, its own dict, the tuples -/
theorem ObjOk.stay (x : ObjOk P w H h a o) (k : ∀ b u, (b = a ∨ H b = some (.own a)) → h.get? b = some u → h'.get? b = some u)
    (ho : ∀ b, H b = some (.own a) → H' b = some (.own a)) (ht : ∀ b xs, H b = some (.tup xs) → H' b = some (.tup xs)) : ObjOk P w H' h' a o := by
  induction o with
  | lst xs => obtain ⟨z, its, n, r, e⟩ := x; exact ⟨z, its, n, r, k _ _ (.inl rfl) e⟩
  | tup xs => obtain ⟨z, its, r, ob, e, c⟩ := x; exact ⟨z, its, r, ob, k _ _ (.inl rfl) e, c⟩
  | dK kvs => obtain ⟨z, y, vs, r, ob, es, ep, e, c⟩ := x; exact ⟨z, y, vs, r, ob, es, ep, k _ _ (.inl rfl) e, c⟩
  | dT kvs =>
    obtain ⟨z, y, xs, r, ob, es, ep, e, c⟩ := x
    exact ⟨z, y, xs, Paired.mapP r fun p q z => ⟨z.1, ht _ _ z.2.1, z.2.2⟩, ob, es, ep, k _ _ (.inl rfl) e, c⟩
  | set S n => obtain ⟨ob, es, ep, t, e, c⟩ := x; exact ⟨ob, es, ep, t, k _ _ (.inl rfl) e, c⟩
  | ins C dx fs =>
    obtain ⟨d, z, ne, e, mA, ⟨od, es, ep, e2, c⟩, r⟩ := x
    exact ⟨ho _ d, z, ne, k _ _ (.inl rfl) e, mA, ⟨od, es, ep, k _ _ (.inr d) e2, c⟩, r⟩
  | own y => obtain ⟨ob, e⟩ := x; exact ⟨ob, k _ _ (.inl rfl) e⟩
  | xd fs => obtain ⟨mA, ⟨od, es, ep, e, c⟩, r⟩ := x; exact ⟨mA, ⟨od, es, ep, k _ _ (.inl rfl) e, c⟩, r⟩
  | rng lo hi => obtain ⟨t, u, v, e⟩ := x; exact ⟨t, u, v, k _ _ (.inl rfl) e⟩
  | frz ob u ih => obtain ⟨e, q⟩ := x; exact ⟨k _ _ (.inl rfl) e, ih q⟩
  | tbl ps =>
    have e : h.get? a = some { cls := .none, data := .fields ps } := x
    show h'.get? a = some { cls := .none, data := .fields ps }
    exact k a _ (.inl rfl) e
  | met f y =>
    have e : h.get? a = some (PySem.W.methodObj (.ref f) (.ref y)) := x
    show h'.get? a = some (PySem.W.methodObj (.ref f) (.ref y))
    exact k a _ (.inl rfl) e
  | ext φ => obtain ⟨p, ⟨o, e⟩, st⟩ := x; exact ⟨st _ _ p fun o q => k _ _ (.inl rfl) q, ⟨o, k _ _ (.inl rfl) e⟩, st⟩
theorem HOk.lt (x : HOk P w H h) (e : H a = some o) : a < h.objs.size := (x a o e).lt
theorem HOk.fresh (x : HOk P w H h) (e : h.objs.size ≤ a) : H a = none := by
  cases q : H a with
  | none => rfl
  | some u => exact absurd (Nat.lt_of_lt_of_le (x.lt q) e) (Nat.lt_irrefl _)
/-- every object of the heap is kept -/
theorem HOk.kept (x : HOk P w H h) (k : ∀ b u, h.get? b = some u → h'.get? b = some u) : HOk P w H h' := fun a o e =>
  (x a o e).stay (fun b u _ q => k b u q) (fun _ q => q) fun _ _ q => q
/-- a new object is laid and tracked -/
theorem HOk.laid (x : HOk P w H h) (k : ∀ b u, h.get? b = some u → h'.get? b = some u) (hp : h.objs.size ≤ a) (new : ObjOk P w (upd H a o) h' a o) : HOk P w (upd H a o) h' := fun b u e => by
  have hn := x.fresh hp
  by_cases hb : b = a
  · subst hb; rw [upd_same] at e; cases e; exact new
  · rw [upd_ne hb] at e
    exact (x b u e).stay (fun c v _ q => k c v q) (fun c q => by rw [upd_ne (ne_of_none q hn)]; exact q) fun c xs q => by rw [upd_ne (ne_of_none q hn)]; exact q
end
/-- what may be read as u: it is u, or a known u -/
def Rd (H : Hp) (a : Addr) (u : HO) : Prop := H a = some u ∨ ∃ o, H a = some (.frz o u)
theorem Rd.ok {P : Program} {w : World} {H : Hp} {h : Heap} {a : Addr} {u : HO} (r : Rd H a u) (x : HOk P w H h) : ObjOk P w H h a u := by
  rcases r with r | ⟨o, r⟩
  · exact x a u r
  · obtain ⟨_, q⟩ := x a _ r
    exact q
/-- what may be written -/
def Mut : Option HO → Prop
  | some (.lst _) => True
  | some (.dK _) => True
  | some (.dT _) => True
  | some (.set _ _) => True
  | some (.ins _ _ _) => True
  | some (.ext _) => True
  | _ => False
section
variable {P : Program} {w : World} {H : Hp} {h h' : Heap} {x e : Addr} {o' : HO}
/-- the object at e is changed: x itself, or the dict of the instance x -/
theorem HOk.write (ok : HOk P w H h) (mu : Mut (H x)) (he : e = x ∨ H e = some (.own x)) (k : ∀ b u, b ≠ e → h.get? b = some u → h'.get? b = some u) (heo : ∃ u, h'.get? e = some u)
    (new : ObjOk P w (upd H x o') h' x o') : HOk P w (upd H x o') h' := fun b u q => by
  have nown : ∀ c y, H c = some (.own y) → c ≠ x := fun c y r z => by subst z; rw [r] at mu; exact mu
  have ntup : ∀ c xs, H c = some (.tup xs) → c ≠ x := fun c xs r z => by subst z; rw [r] at mu; exact mu
  by_cases hb : b = x
  · subst hb; rw [upd_same] at q; cases q; exact new
  · rw [upd_ne hb] at q
    by_cases hbe : b = e
    · have q' : H b = some (.own x) := by
        rcases he with z | z
        · exact absurd (hbe.trans z) hb
        · rw [hbe]; exact z
      rw [q] at q'; cases q'
      obtain ⟨v, hv⟩ := heo
      exact ⟨v, by rw [hbe]; exact hv⟩
    · refine (ok b u q).stay (fun c v hc r => k c v ?_ r) (fun c r => by rw [upd_ne (nown c b r)]; exact r) fun c xs r => by rw [upd_ne (ntup c xs r)]; exact r
      rcases hc with rfl | hc
      · exact hbe
      · rintro rfl
        rcases he with z | z
        · exact nown c b hc z
        · rw [hc] at z; cases z; exact hb rfl
end
structure Un (fs ex : List Addr) (H H' : Hp) (h h' : Heap) : Prop where
  keep : ∀ b o, h.get? b = some o → H b = none → b ∉ fs → b ∉ ex → h'.get? b = some o
  slot : ∀ b o, h.get? b = some o → H b = none → b ∈ fs → b ∉ ex → ∃ sl, h'.get? b = some { o with slots := sl }
  free : ∀ b o, h.get? b = some o → H b = none → b ∉ ex → H' b = none
  there : ∀ b o, h.get? b = some o → b ∉ ex → ∃ o', h'.get? b = some o'
  tups : ∀ b xs, H b = some (.tup xs) → H' b = some (.tup xs)
  frzs : ∀ b o u, H b = some (.frz o u) → H' b = some (.frz o u)
  tbls : ∀ b ps, H b = some (.tbl ps) → ∃ more, H' b = some (.tbl (ps ++ more))
section
variable {fs fs' ex ex' : List Addr} {H H1 H2 : Hp} {h h1 h2 h' : Heap} {a x e : Addr} {o : HO}
theorem Un.any (u : Un fs ex H H1 h h1) {b : Addr} {ob : Obj} (q : h.get? b = some ob) (n : H b = none) (hx : b ∉ ex) : ∃ sl, h1.get? b = some { ob with slots := sl } := by
  by_cases hb : b ∈ fs
  · exact u.slot b ob q n hb hx
  · exact ⟨ob.slots, u.keep b ob q n hb hx⟩
theorem Un.kept (k : ∀ b u, h.get? b = some u → h'.get? b = some u) : Un fs ex H H h h' :=
  ⟨fun b ob q _ _ _ => k b ob q, fun b ob q _ _ _ => ⟨ob.slots, k b ob q⟩, fun _ _ _ n _ => n, fun b ob q _ => ⟨ob, k b ob q⟩, fun _ _ q => q, fun _ _ _ q => q, fun _ ps q => ⟨#[], by rw [q]; simp⟩⟩
theorem Un.refl : Un fs ex H H h h := Un.kept fun _ _ q => q
theorem Un.laid (k : ∀ b u, h.get? b = some u → h'.get? b = some u) (hp : h.objs.size ≤ a) (hn : H a = none) : Un fs ex H (upd H a o) h h' where
  keep := fun b u q _ _ _ => k b u q
  slot := fun b u q _ _ _ => ⟨u.slots, k b u q⟩
  free := fun b u q n _ => by rw [upd_ne (Nat.ne_of_lt (Nat.lt_of_lt_of_le (Heap.lt_size q) hp))]; exact n
  there := fun b u q _ => ⟨u, k b u q⟩
  tups := fun b xs q => by rw [upd_ne (ne_of_none q hn)]; exact q
  frzs := fun b u xs q => by rw [upd_ne (ne_of_none q hn)]; exact q
  tbls := fun b ps q => ⟨#[], by rw [upd_ne (ne_of_none q hn), q]; simp⟩
theorem Un.write (mu : Mut (H x)) (he : e = x ∨ H e = some (.own x)) (k : ∀ b u, b ≠ e → h.get? b = some u → h'.get? b = some u) (heo : ∃ u, h'.get? e = some u) : Un fs ex H (upd H x o) h h' := by
  have hx : ∀ b, H b = none → b ≠ x := fun b n z => by subst z; rw [n] at mu; exact mu
  have hb : ∀ b, H b = none → b ≠ e := fun b n z => by
    subst z
    rcases he with r | r
    · exact hx b n r
    · rw [n] at r; cases r
  have hm : ∀ b u, H b = some u → ¬ Mut (some u) → b ≠ x := fun b u q nm z => by subst z; rw [q] at mu; exact nm mu
  refine ⟨fun b u q n _ _ => k b u (hb b n) q, fun b u q n _ _ => ⟨u.slots, k b u (hb b n) q⟩, fun b u q n _ => by rw [upd_ne (hx b n)]; exact n, fun b u q _ => ?_,
    fun b xs q => by rw [upd_ne (hm b _ q fun z => z)]; exact q, fun b u xs q => by rw [upd_ne (hm b _ q fun z => z)]; exact q, fun b ps q => ⟨#[], by rw [upd_ne (hm b _ q fun z => z), q]; simp⟩⟩
  by_cases hbe : b = e
  · subst hbe; exact heo
  · exact ⟨u, k b u hbe q⟩
end
def trk (h : Heap) (H : Hp) : List Addr := (List.range h.objs.size).filter fun a => (H a).isSome
def hidT (h : Heap) (H : Hp) : Heap := PySem.W.hideAll h (trk h H)
theorem hidT_size (h : Heap) (H : Hp) : (hidT h H).objs.size = h.objs.size := PySem.W.hideAll_size _ _
theorem hidT_get {h : Heap} {H : Hp} {b : Addr} {o : Obj} (e : h.get? b = some o) (n : H b = none) : (hidT h H).get? b = some o :=
  PySem.W.hideAll_get _ e fun hm => by
    have q : (H b).isSome = true := (List.mem_filter.mp hm).2
    rw [n] at q; simp at q
theorem of_hidT {h : Heap} {H : Hp} {b : Addr} {o : Obj} (e : (hidT h H).get? b = some o) : h.get? b = some o ∧ H b = none := by
  have e' : h.get? b = some o := PySem.W.of_hideAll (trk h H) e
  refine ⟨e', ?_⟩
  cases q : H b with
  | none => rfl
  | some x =>
    have hm : b ∈ trk h H := List.mem_filter.mpr ⟨List.mem_range.mpr (Heap.lt_size e'), by simp [q]⟩
    have z : (hidT h H).get? b = none := PySem.W.hideAll_none (trk h H) hm
    rw [z] at e; cases e
end L2
namespace L2
open PySem PySem.Spec PyProof.Rows
/-- the module's facts, over the base: the heap at the law's entry without what is tracked there -/
structure Mod (K : PySem.W.Frag) (mg : Str → Option Value) (base : Heap) : Prop where
  kin : K.In base
  glob : base.Ns mainGlobals mg
  blt : ∃ mb, base.Ns builtinsNs mb ∧ ∀ x : Str, x ≠ "__name__" → mb x = bootBuiltins x
  nolimit : base.NoLimit
/-- the context: a def's body (or a comprehension's block) running. base: fixed through the whole law; s₀, H₀: the entry; outer: the frames whose slots others may change (a def's callers); stack: all frames that run;
   ex: iterators that were made ahead of the entry and are walked here (a comprehension's); fn: the names whose cells were made at the entry (a def: all; a comprehension's block: its own); calm: not within an except suite; pn: pins that every state bears; xe: what is wanted of an exception that leaves the code -/
structure Cx where
  prog : Program
  w : World
  K : PySem.W.Frag
  mg : Str → Option Value
  base : Heap
  A : Around
  N : List Str
  s₀ : Shared
  H₀ : Hp
  env : Env
  outer : List Env
  stack : List Env
  ex : List Addr
  fn : Str → Bool
  calm : Bool
  pn : List (Addr × Obj)
  xe : Value → Shared → Prop
/-- the callers' frames -/
def frs (l : List Env) : List Addr := l.filterMap (·.frame)
abbrev Cx.fs (X : Cx) : List Addr := frs X.outer
def Vis (sc : Scope) (x : Str) : Prop := sc.names.lookup x = some .local ∨ sc.names.lookup x = some .cell ∨ sc.names.lookup x = some .free
def Loc (sc : Scope) (x : Str) : Prop := sc.names.lookup x = some .local ∨ sc.names.lookup x = some .cell
def Look (env : Env) (h : Heap) (m : Str → Option Value) (x : Str) (u : Value) : Prop :=
  (env.kindOf x = some .local ∧ m x = some u) ∨ ((env.kindOf x = some .cell ∨ env.kindOf x = some .free) ∧ ∃ c, env.cells.lookup x = some c ∧ h.IsCell c (some u))
structure Cx.Ok (X : Cx) : Prop where
  mod : Mod X.K X.mg X.base
  kind : X.env.scope.kind = .function
  glob : X.env.globals = mainGlobals
  blt : X.env.builtins = builtinsNs
  above : X.s₀.heap.objs.size ≤ X.env.locals
  inj : ∀ x y c, X.env.cells.lookup x = some c → X.env.cells.lookup y = some c → x = y
  has : ∀ x, (X.env.kindOf x = some .cell ∨ X.env.kindOf x = some .free) → ∃ c, X.env.cells.lookup x = some c
  cab : ∀ x c, X.fn x = true → X.env.cells.lookup x = some c → X.s₀.heap.objs.size ≤ c
  hd : X.calm = true → X.A.handled = none
  frames : X.A.frames = some X.stack
  stk : X.stack = X.outer ∨ (X.stack = X.env :: X.outer ∧ X.env.frame = some X.env.locals)
  exf : ∀ b ∈ X.ex, b ≠ X.env.locals ∧ ∀ x c, X.env.cells.lookup x = some c → c ≠ b
  bs : ∀ b o, X.base.get? b = some o → X.s₀.heap.get? b = some o ∧ X.H₀ b = none
  bsz : X.base.objs.size ≤ X.s₀.heap.objs.size
  noex : ∀ b o, X.base.get? b = some o → b ∉ X.ex
  exfs : ∀ b ∈ X.ex, b ∉ X.fs
  funs : X.s₀.heap.FunFrames X.base X.outer
  frf : ∀ b ∈ X.fs, X.H₀ b = none
structure Inv (X : Cx) (pins : List (Addr × Obj)) (σ : List (Option V)) (H : Hp) (s : Shared) : Prop where
  ok : X.Ok
  os : s.os = X.s₀.os
  bare : AllBare s.gens
  base : Un X.fs X.ex X.H₀ H X.s₀.heap s.heap
  loc : ∃ m, s.heap.Ns X.env.locals m ∧ ∀ (i : Nat) (x : Str) (v : V), X.N[i]? = some x → σ[i]? = some (some v) → Vis X.env.scope x → ∃ u, RelV v u ∧ Look X.env s.heap m x u
  cell : ∀ x c, X.env.cells.lookup x = some c → ∃ v, s.heap.IsCell c v
  free : H X.env.locals = none
  freeC : ∀ x c, X.env.cells.lookup x = some c → H c = none
  pin : ∀ p ∈ X.pn ++ pins, s.heap.get? p.1 = some p.2 ∧ H p.1 = none ∧ p.1 ≠ X.env.locals ∧ p.1 ∉ X.fs ∧ ∀ v, p.2.data ≠ .cell v
  hok : HOk X.prog X.w H s.heap
  len : σ.length = X.N.length
section
variable {X : Cx} {pins : List (Addr × Obj)} {σ : List (Option V)} {H H' : Hp} {s : Shared} {h' : Heap}
theorem Cx.Ok.nofr (ok : X.Ok) {b : Addr} {o : Obj} (e : X.base.get? b = some o) : b ∉ X.fs := fun hb => by
  have := (ok.funs.mem hb).1
  rw [e] at this; cases this
theorem Inv.bs (I : Inv X pins σ H s) : ∀ b o, X.base.get? b = some o → s.heap.get? b = some o ∧ H b = none := fun b o e =>
  ⟨I.base.keep b o (I.ok.bs b o e).1 (I.ok.bs b o e).2 (I.ok.nofr e) (I.ok.noex b o e), I.base.free b o (I.ok.bs b o e).1 (I.ok.bs b o e).2 (I.ok.noex b o e)⟩
theorem Inv.bk (I : Inv X pins σ H s) : ∀ b o, X.base.get? b = some o → s.heap.get? b = some o := fun b o e => (I.bs b o e).1
theorem Inv.mod (I : Inv X pins σ H s) : Mod X.K X.mg X.base := I.ok.mod
theorem Inv.kIn (I : Inv X pins σ H s) : X.K.In s.heap := I.ok.mod.kin.keeps I.bk
/-- the frame over the base: for OpenK's rules (K.In X.base is I.mod.kin) -/
theorem Inv.fr (I : Inv X pins σ H s) : ∃ m, Fr X.base X.env.locals s.heap m :=
  let ⟨m, hn, _⟩ := I.loc
  ⟨m, hn, I.bk, Nat.le_trans I.ok.bsz I.ok.above⟩
theorem Inv.lt (I : Inv X pins σ H s) : X.env.locals < s.heap.objs.size := let ⟨_, hn, _⟩ := I.loc; hn.lt
theorem Inv.sz (I : Inv X pins σ H s) : X.s₀.heap.objs.size ≤ s.heap.objs.size := Nat.le_trans I.ok.above (Nat.le_of_lt I.lt)
theorem Inv.nofs (I : Inv X pins σ H s) {a : Addr} (h : s.heap.objs.size ≤ a) : a ∉ X.fs := fun hb => by
  obtain ⟨_, o, ho, _⟩ := I.ok.funs.mem hb
  exact absurd (Nat.lt_of_lt_of_le (Heap.lt_size ho) (Nat.le_trans I.sz h)) (Nat.lt_irrefl _)
theorem Inv.cne (I : Inv X pins σ H s) : ∀ x c, X.env.cells.lookup x = some c → c ≠ X.env.locals := fun x c e z => by
  obtain ⟨v, o, ho, hd⟩ := I.cell x c e
  obtain ⟨m, ⟨o', es, ep, ho', hd', _⟩, _⟩ := I.loc
  rw [z, ho'] at ho; cases ho; rw [hd'] at hd; cases hd
theorem Inv.funs (I : Inv X pins σ H s) : s.heap.FunFrames X.base X.outer := by
  have all : ∀ (l : List Env), (∀ b ∈ frs l, b ∈ X.fs) → X.s₀.heap.FunFrames X.base l → s.heap.FunFrames X.base l := by
    intro l
    induction l with
    | nil => intro _ _; trivial
    | cons env r ih =>
      intro hs hl
      obtain ⟨hk, ⟨L, o, hf, hn, ho, hd⟩, hr⟩ := hl
      have hL : L ∈ X.fs := hs L (by unfold frs; rw [List.filterMap_cons, hf]; exact List.mem_cons_self)
      obtain ⟨sl, e⟩ := I.base.slot L o ho (I.ok.frf L hL) hL fun z => I.ok.exfs L z hL
      exact ⟨hk, ⟨L, _, hf, hn, e, hd⟩, ih (fun b hb => hs b (by unfold frs; rw [List.filterMap_cons, hf]; exact List.mem_cons_of_mem _ hb)) hr⟩
  exact all X.outer (fun _ hb => hb) I.ok.funs
/-- the frames that run, for a call -/
theorem Inv.stack (I : Inv X pins σ H s) : s.heap.FunFrames X.base X.stack := by
  rcases I.ok.stk with e | ⟨e, hf⟩
  · rw [e]; exact I.funs
  · rw [e]
    obtain ⟨m, hn, _⟩ := I.loc
    refine .cons (by rw [I.ok.kind]; decide) hf hn ?_ I.funs
    exact Heap.get?_none_of_le (Nat.le_trans I.ok.bsz I.ok.above)
theorem Inv.stkSub (I : Inv X pins σ H s) : ∀ b ∈ frs X.stack, b ∈ X.env.locals :: X.fs := fun b hb => by
  rcases I.ok.stk with e | ⟨e, hf⟩
  · rw [e] at hb; exact List.mem_cons_of_mem _ hb
  · rw [e] at hb
    unfold frs at hb
    rw [List.filterMap_cons, hf] at hb
    exact hb
theorem Inv.stkFree (I : Inv X pins σ H s) : ∀ b ∈ frs X.stack, H b = none := fun b hb => by
  rcases List.mem_cons.mp (I.stkSub b hb) with e | hb
  · rw [e]; exact I.free
  · obtain ⟨_, o, ho, _⟩ := I.ok.funs.mem hb
    exact I.base.free b o ho (I.ok.frf b hb) fun z => I.ok.exfs b z hb
/-- THE STEP: the untracked objects but the frame and the records at ch are kept (the callers' frames up to slots), the frame's map is kept, the new abstract heap is held -/
theorem Inv.step {g' : Array GenState} {t' : Nat} {d' : Drawn} {ch : List Addr} (I : Inv X pins σ H s)
    (hch : ∀ b ∈ ch, (b ∈ X.ex ∨ X.s₀.heap.objs.size ≤ b) ∧ b ≠ X.env.locals ∧ (∀ x c, X.env.cells.lookup x = some c → c ≠ b) ∧ ∀ p ∈ X.pn ++ pins, p.1 ≠ b)
    (keep : ∀ b o, b ≠ X.env.locals → b ∉ X.fs → b ∉ ch → s.heap.get? b = some o → H b = none → h'.get? b = some o)
    (slot : ∀ b o, b ≠ X.env.locals → b ∈ X.fs → b ∉ ch → s.heap.get? b = some o → H b = none → ∃ sl, h'.get? b = some { o with slots := sl }) (free : ∀ b o, b ∉ ch → s.heap.get? b = some o → H b = none → H' b = none)
    (there : ∀ b o, b ∉ ch → s.heap.get? b = some o → ∃ o', h'.get? b = some o')
    (tups : ∀ b xs, H b = some (.tup xs) → H' b = some (.tup xs)) (frzs : ∀ b o u, H b = some (.frz o u) → H' b = some (.frz o u)) (tbls : ∀ b ps, H b = some (.tbl ps) → ∃ more, H' b = some (.tbl (ps ++ more)))
    (ns : ∀ m, s.heap.Ns X.env.locals m → h'.Ns X.env.locals m) (hok : HOk X.prog X.w H' h') (hg : AllBare g') :
    Inv X pins σ H' { s with heap := h', gens := g', drawn := d', toks := t' } := by
  have neL : ∀ b o, X.s₀.heap.get? b = some o → b ≠ X.env.locals := fun b o e => Nat.ne_of_lt (Nat.lt_of_lt_of_le (Heap.lt_size e) I.ok.above)
  have neC : ∀ b o, X.s₀.heap.get? b = some o → b ∉ X.ex → b ∉ ch := fun b o e hx hb => by
    rcases (hch b hb).1 with z | z
    · exact hx z
    · exact absurd (Nat.lt_of_lt_of_le (Heap.lt_size e) z) (Nat.lt_irrefl _)
  have cellK : ∀ x c, X.env.cells.lookup x = some c → ∀ v, s.heap.IsCell c v → h'.IsCell c v := fun x c e v ⟨o, ho, hd⟩ => by
    have nch : c ∉ ch := fun z => (hch c z).2.2.1 x c e rfl
    by_cases hc : c ∈ X.fs
    · obtain ⟨sl, q⟩ := slot c o (I.cne x c e) hc nch ho (I.freeC x c e)
      exact ⟨_, q, hd⟩
    · exact ⟨o, keep c o (I.cne x c e) hc nch ho (I.freeC x c e), hd⟩
  refine ⟨I.ok, I.os, hg, ⟨fun b o e n hb hx => ?_, fun b o e n hb hx => ?_, fun b o e n hx => ?_, fun b o e hx => ?_, fun b xs e => tups b xs (I.base.tups b xs e), fun b o xs e => frzs b o xs (I.base.frzs b o xs e), fun b ps e => ?_⟩, ?_, fun x c e => ?_, ?_, fun x c e => ?_, fun p hp => ?_, hok, I.len⟩
  · exact keep b o (neL b o e) hb (neC b o e hx) (I.base.keep b o e n hb hx) (I.base.free b o e n hx)
  · obtain ⟨sl, e1⟩ := I.base.slot b o e n hb hx
    obtain ⟨sl', e2⟩ := slot b _ (neL b o e) hb (neC b o e hx) e1 (I.base.free b o e n hx)
    exact ⟨sl', e2⟩
  · obtain ⟨o', e1⟩ := I.base.there b o e hx
    exact free b o' (neC b o e hx) e1 (I.base.free b o e n hx)
  · obtain ⟨o', e1⟩ := I.base.there b o e hx
    exact there b o' (neC b o e hx) e1
  · obtain ⟨m1, e1⟩ := I.base.tbls b ps e
    obtain ⟨m2, e2⟩ := tbls b _ e1
    exact ⟨m1 ++ m2, by rw [e2, Array.append_assoc]⟩
  · obtain ⟨m, hn, hl⟩ := I.loc
    refine ⟨m, ns m hn, fun i x v e1 e2 e3 => ?_⟩
    obtain ⟨u, r, l⟩ := hl i x v e1 e2 e3
    refine ⟨u, r, ?_⟩
    rcases l with l | ⟨k, c, e, z⟩
    · exact .inl l
    · exact .inr ⟨k, c, e, cellK x c e _ z⟩
  · obtain ⟨v, z⟩ := I.cell x c e
    exact ⟨v, cellK x c e v z⟩
  · obtain ⟨m, ⟨o, _, _, ho, _⟩, _⟩ := I.loc
    exact free _ o (fun z => (hch _ z).2.1 rfl) ho I.free
  · obtain ⟨v, o, ho, hd⟩ := I.cell x c e
    exact free c o (fun z => (hch c z).2.2.1 x c e rfl) ho (I.freeC x c e)
  · obtain ⟨e, n, ne, nf, d⟩ := I.pin p hp
    have nch : p.1 ∉ ch := fun z => (hch p.1 z).2.2.2 p hp rfl
    exact ⟨keep p.1 p.2 ne nf nch e n, free p.1 p.2 nch e n, ne, nf, d⟩
/-- .. where the frame's own object is kept too -/
theorem Inv.un {t' : Nat} (I : Inv X pins σ H s) (u : Un X.fs [] H H' s.heap h') (hok : HOk X.prog X.w H' h') : Inv X pins σ H' { s with heap := h', toks := t' } := by
  obtain ⟨m, ⟨o, es, ep, ho, r⟩, _⟩ := id I.loc
  obtain ⟨sl, hL⟩ := u.any ho I.free (by simp)
  exact I.step (g' := s.gens) (d' := s.drawn) (ch := []) (fun _ z => nomatch z) (fun b o _ hb _ e n => u.keep b o e n hb (by simp)) (fun b o _ hb _ e n => u.slot b o e n hb (by simp)) (fun b o _ e n => u.free b o e n (by simp)) (fun b o _ e => u.there b o e (by simp)) u.tups u.frzs u.tbls (fun m' hm => by
    obtain ⟨o', es', ep', ho', r'⟩ := hm
    rw [ho] at ho'; cases ho'
    exact ⟨_, es', ep', hL, r'⟩) hok I.bare
/-- behind a call (or a comprehension's block): the slots of this frame may have changed too, the records at ch may have turned -/
theorem Inv.call {g' : Array GenState} {t' : Nat} {d' : Drawn} {ch : List Addr} (I : Inv X pins σ H s) (u : Un (frs X.stack) ch H H' s.heap h') (hok : HOk X.prog X.w H' h') (hg : AllBare g')
    (hch : ∀ b ∈ ch, (b ∈ X.ex ∨ X.s₀.heap.objs.size ≤ b) ∧ b ≠ X.env.locals ∧ (∀ x c, X.env.cells.lookup x = some c → c ≠ b) ∧ ∀ p ∈ X.pn ++ pins, p.1 ≠ b) :
    Inv X pins σ H' { s with heap := h', gens := g', drawn := d', toks := t' } := by
  obtain ⟨m, ⟨o, es, ep, ho, r⟩, _⟩ := id I.loc
  obtain ⟨sl, hL⟩ := u.any ho I.free fun z => (hch _ z).2.1 rfl
  exact I.step (ch := ch) hch (fun b o hL hb hc e n => u.keep b o e n (fun z => (List.mem_cons.mp (I.stkSub b z)).elim hL hb) hc) (fun b o _ _ hc e n => u.any e n hc) (fun b o hc e n => u.free b o e n hc) (fun b o hc e => u.there b o e hc) u.tups u.frzs u.tbls (fun m' hm => by
    obtain ⟨o', es', ep', ho', r'⟩ := hm
    rw [ho] at ho'; cases ho'
    exact ⟨_, es', ep', hL, r'⟩) hok hg
/-- an untracked record of ours (an iterator) has turned -/
theorem Inv.turned {t' : Nat} {it : Addr} (I : Inv X pins σ H s) (k : ∀ b o, b ≠ it → s.heap.get? b = some o → h'.get? b = some o) (hn : H it = none) (hL : it ≠ X.env.locals)
    (h1 : it ∈ X.ex ∨ X.s₀.heap.objs.size ≤ it) (h2 : ∀ x c, X.env.cells.lookup x = some c → c ≠ it) (h3 : ∀ p ∈ X.pn ++ pins, p.1 ≠ it) : Inv X pins σ H { s with heap := h', toks := t' } := by
  have nit : ∀ b u, H b = some u → b ≠ it := fun b u e z => by rw [z, hn] at e; cases e
  refine I.step (g' := s.gens) (d' := s.drawn) (ch := [it]) (fun b hb => ?_) (fun b o _ _ hc e _ => k b o (fun z => hc (by simp [z])) e) (fun b o _ _ hc e _ => ⟨o.slots, k b o (fun z => hc (by simp [z])) e⟩) (fun _ _ _ _ n => n)
    (fun b o hc e => ⟨o, k b o (fun z => hc (by simp [z])) e⟩) (fun _ _ e => e) (fun _ _ _ e => e) (fun b ps e => ⟨#[], by rw [e]; simp⟩) (fun m hm => ?_) (fun b u e => ?_) I.bare
  · have e : b = it := by simpa using hb
    subst e
    exact ⟨h1, hL, h2, h3⟩
  · obtain ⟨o, es, ep, ho, r⟩ := hm
    exact ⟨o, es, ep, k _ o (Ne.symm hL) ho, r⟩
  · refine (I.hok b u e).stay (fun c v hc q => k c v ?_ q) (fun _ q => q) fun _ _ q => q
    rcases hc with z | z
    · rw [z]; exact nit b u e
    · exact nit c _ z
theorem Inv.tok (I : Inv X pins σ H s) (t : Nat) : Inv X pins σ H { s with toks := t } := I.un (h' := s.heap) (t' := t) Un.refl I.hok
/-- all objects kept -/
theorem Inv.kept {t' : Nat} (I : Inv X pins σ H s) (k : ∀ b u, s.heap.get? b = some u → h'.get? b = some u) : Inv X pins σ H { s with heap := h', toks := t' } := I.un (Un.kept k) (I.hok.kept k)
/-- a new object laid and tracked -/
theorem Inv.laid {a : Addr} {o : HO} {t' : Nat} (I : Inv X pins σ H s) (k : ∀ b u, s.heap.get? b = some u → h'.get? b = some u) (hp : s.heap.objs.size ≤ a) (new : ObjOk X.prog X.w (upd H a o) h' a o) :
    Inv X pins σ (upd H a o) { s with heap := h', toks := t' } := I.un (Un.laid k hp (I.hok.fresh hp)) (I.hok.laid k hp new)
/-- an object written -/
theorem Inv.write {x e : Addr} {o : HO} {t' : Nat} (I : Inv X pins σ H s) (mu : Mut (H x)) (he : e = x ∨ H e = some (.own x)) (k : ∀ b u, b ≠ e → s.heap.get? b = some u → h'.get? b = some u) (heo : ∃ u, h'.get? e = some u)
    (new : ObjOk X.prog X.w (upd H x o) h' x o) : Inv X pins σ (upd H x o) { s with heap := h', toks := t' } := I.un (Un.write mu he k heo) (I.hok.write mu he k heo new)
/-- forgetting slots, pins -/
theorem Inv.weak {σ' : List (Option V)} (I : Inv X pins σ H s) (hl : σ'.length = σ.length) (w : ∀ (i : Nat) v, σ'[i]? = some (some v) → σ[i]? = some (some v)) : Inv X pins σ' H s :=
  ⟨I.ok, I.os, I.bare, I.base, let ⟨m, hn, hl'⟩ := I.loc; ⟨m, hn, fun i x v e1 e2 e3 => hl' i x v e1 (w i v e2) e3⟩, I.cell, I.free, I.freeC, I.pin, I.hok, hl.trans I.len⟩
theorem Inv.pins_of {pins' : List (Addr × Obj)} (I : Inv X pins σ H s) (h : ∀ p ∈ pins', s.heap.get? p.1 = some p.2 ∧ H p.1 = none ∧ p.1 ≠ X.env.locals ∧ p.1 ∉ X.fs ∧ ∀ v, p.2.data ≠ .cell v) : Inv X pins' σ H s :=
  ⟨I.ok, I.os, I.bare, I.base, I.loc, I.cell, I.free, I.freeC, fun p hp => (List.mem_append.mp hp).elim (fun z => I.pin p (List.mem_append_left _ z)) (h p), I.hok, I.len⟩
theorem nodup_ix {N : List Str} (hN : N.Nodup) {i j : Nat} {x : Str} (a : N[i]? = some x) (b : N[j]? = some x) : i = j := by
  obtain ⟨h1, e1⟩ := List.getElem?_eq_some_iff.mp a
  obtain ⟨h2, e2⟩ := List.getElem?_eq_some_iff.mp b
  exact (List.getElem_inj hN).mp (e1.trans e2.symm)
/-- a name is stored; what changed -/
theorem store_ok2 {M : Model} {A : Around} {E : Value → Shared → Prop} {i : Nat} {x : Str} {v : V} {u : Value} {Q : Unit → Shared → Prop} (I : Inv X pins σ H s) (hN : X.N.Nodup) (hi : X.N[i]? = some x) (hx : Loc X.env.scope x) (r : RelV v u)
    (h : ∀ s', Inv X pins (σ.set i (some v)) H s' → (∃ a, Heap.SameBut a s.heap s'.heap ∧ (a = X.env.locals ∨ X.env.cells.lookup x = some a)) → Q () s') (hf : X.fn x = true ∨ X.env.scope.names.lookup x = some .local := by first | exact .inl rfl | exact .inr rfl | assumption) : wpAny M A (storeName X.env x u) Q E s := by
  obtain ⟨m, hn, hl⟩ := id I.loc
  have hcls : (X.env.scope.kind == .class || (X.env.scope.kind == .module && X.env.locals != X.env.globals)) = false := by rw [I.ok.kind]; rfl
  have hiσ : i < σ.length := by rw [I.len]; exact (List.getElem?_eq_some_iff.mp hi).1
  have cne := I.cne
  have tracked : ∀ {a : Addr} {h' : Heap}, (∃ o, s.heap.get? a = some o ∧ H a = none) → Heap.SameBut a s.heap h' → HOk X.prog X.w H h' := fun {a h'} ha hs b ob e => by
    obtain ⟨_, _, hfree⟩ := ha
    refine (I.hok b ob e).stay (fun c w' hc q => (hs.2 c ?_).trans q) (fun _ q => q) fun _ _ q => q
    rintro rfl
    rcases hc with rfl | hc
    · rw [hfree] at e; cases e
    · rw [hfree] at hc; cases hc
  rcases hx with hk | hk
  · refine wpAny_storeName_local hk hn (fun h' hn' hs => ?_) hcls
    obtain ⟨oL, _, _, hoL, _⟩ := id hn
    refine h _ ⟨I.ok, I.os, I.bare, ⟨fun b o e n hb hx => ?_, fun b o e n hb hx => ?_, I.base.free, fun b o e hx => ?_, I.base.tups, I.base.frzs, I.base.tbls⟩, ⟨_, hn', fun j y v' e1 e2 e3 => ?_⟩, fun y c e => ?_, I.free, I.freeC, fun p hp => ?_, tracked ⟨oL, hoL, I.free⟩ hs, by simpa using I.len⟩ ⟨_, hs, .inl rfl⟩
    · exact (hs.2 b (Nat.ne_of_lt (Nat.lt_of_lt_of_le (Heap.lt_size e) I.ok.above))).trans (I.base.keep b o e n hb hx)
    · obtain ⟨sl, e1⟩ := I.base.slot b o e n hb hx
      exact ⟨sl, (hs.2 b (Nat.ne_of_lt (Nat.lt_of_lt_of_le (Heap.lt_size e) I.ok.above))).trans e1⟩
    · obtain ⟨o', e1⟩ := I.base.there b o e hx
      exact ⟨o', (hs.2 b (Nat.ne_of_lt (Nat.lt_of_lt_of_le (Heap.lt_size e) I.ok.above))).trans e1⟩
    · by_cases hj : j = i
      · subst hj
        rw [hi] at e1; cases e1
        rw [List.getElem?_set_self hiσ] at e2
        cases e2
        exact ⟨u, r, .inl ⟨hk, by simp⟩⟩
      · rw [List.getElem?_set_ne (Ne.symm hj)] at e2
        obtain ⟨u', r', q⟩ := hl j y v' e1 e2 e3
        refine ⟨u', r', ?_⟩
        rcases q with ⟨k, e⟩ | ⟨k, c, e, z⟩
        · refine .inl ⟨k, ?_⟩
          have : y ≠ x := fun e => hj (nodup_ix hN e1 (e ▸ hi))
          simp [this, e]
        · exact .inr ⟨k, c, e, z.sameBut hs (cne y c e)⟩
    · obtain ⟨w', z⟩ := I.cell y c e
      exact ⟨w', z.sameBut hs (cne y c e)⟩
    · obtain ⟨e, n, ne, nf, d⟩ := I.pin p hp
      exact ⟨(hs.2 p.1 ne).trans e, n, ne, nf, d⟩
  · have hfn : X.fn x = true := by
      rcases hf with z | z
      · exact z
      · rw [z] at hk; cases hk
    obtain ⟨c, hc⟩ := I.ok.has x (.inl hk)
    obtain ⟨w', z⟩ := I.cell x c hc
    refine wpAny_storeName_cell I.ok.kind hk hc z (fun h' hc' hs => ?_)
    obtain ⟨oc, hoc, hocd⟩ := id z
    refine h { s with heap := h' } ⟨I.ok, I.os, I.bare, ⟨fun b o e n hb hx => ?_, fun b o e n hb hx => ?_, I.base.free, fun b o e hx => ?_, I.base.tups, I.base.frzs, I.base.tbls⟩, ⟨m, hn.sameBut hs (Ne.symm (cne x c hc)), fun j y v' e1 e2 e3 => ?_⟩, fun y c' e => ?_, I.free, I.freeC, fun p hp => ?_, tracked ⟨oc, hoc, I.freeC x c hc⟩ hs, by simpa using I.len⟩ ⟨c, hs, .inr hc⟩
    · exact (hs.2 b (Nat.ne_of_lt (Nat.lt_of_lt_of_le (Heap.lt_size e) (I.ok.cab x c hfn hc)))).trans (I.base.keep b o e n hb hx)
    · obtain ⟨sl, e1⟩ := I.base.slot b o e n hb hx
      exact ⟨sl, (hs.2 b (Nat.ne_of_lt (Nat.lt_of_lt_of_le (Heap.lt_size e) (I.ok.cab x c hfn hc)))).trans e1⟩
    · obtain ⟨o', e1⟩ := I.base.there b o e hx
      exact ⟨o', (hs.2 b (Nat.ne_of_lt (Nat.lt_of_lt_of_le (Heap.lt_size e) (I.ok.cab x c hfn hc)))).trans e1⟩
    · by_cases hj : j = i
      · subst hj
        rw [hi] at e1; cases e1
        rw [List.getElem?_set_self hiσ] at e2
        cases e2
        exact ⟨u, r, .inr ⟨.inl hk, c, hc, hc'⟩⟩
      · rw [List.getElem?_set_ne (Ne.symm hj)] at e2
        obtain ⟨u', r', q⟩ := hl j y v' e1 e2 e3
        refine ⟨u', r', ?_⟩
        rcases q with q | ⟨k, c', e, z'⟩
        · exact .inl q
        · refine .inr ⟨k, c', e, z'.sameBut hs ?_⟩
          rintro rfl
          exact hj (nodup_ix hN e1 (I.ok.inj _ _ _ e hc ▸ hi))
    · by_cases hcc : c' = c
      · subst hcc; exact ⟨_, hc'⟩
      · obtain ⟨w2, z2⟩ := I.cell y c' e
        exact ⟨w2, z2.sameBut hs hcc⟩
    · obtain ⟨e, n, ne, nf, d⟩ := I.pin p hp
      refine ⟨(hs.2 p.1 ?_).trans e, n, ne, nf, d⟩
      intro q
      rw [q, hoc] at e
      have q' : oc = p.2 := Option.some.inj e
      exact d w' (by rw [← q']; exact hocd)
theorem store_ok {M : Model} {A : Around} {E : Value → Shared → Prop} {i : Nat} {x : Str} {v : V} {u : Value} {Q : Unit → Shared → Prop} (I : Inv X pins σ H s) (hN : X.N.Nodup) (hi : X.N[i]? = some x) (hx : Loc X.env.scope x) (r : RelV v u)
    (h : ∀ s', Inv X pins (σ.set i (some v)) H s' → Q () s') (hf : X.fn x = true ∨ X.env.scope.names.lookup x = some .local := by first | exact .inl rfl | exact .inr rfl | assumption) : wpAny M A (storeName X.env x u) Q E s :=
  store_ok2 I hN hi hx r (fun s' I' _ => h s' I') hf
/-- behind a call or a block, the state as it is -/
theorem Inv.call' {s' : Shared} {ch : List Addr} (I : Inv X pins σ H s) (ho : s'.os = s.os) (u : Un (frs X.stack) ch H H' s.heap s'.heap) (hok : HOk X.prog X.w H' s'.heap) (hg : AllBare s'.gens)
    (hch : ∀ b ∈ ch, (b ∈ X.ex ∨ X.s₀.heap.objs.size ≤ b) ∧ b ≠ X.env.locals ∧ (∀ x c, X.env.cells.lookup x = some c → c ≠ b) ∧ ∀ p ∈ X.pn ++ pins, p.1 ≠ b) : Inv X pins σ H' s' := by
  obtain ⟨h', g', d', t', o'⟩ := s'
  have e : o' = s.os := ho
  subst e
  exact I.call (g' := g') (t' := t') (d' := d') u hok hg hch
end
/-- an exception: its class, its own dict's address (where it has one), the abstract heap behind it -/
abbrev XK := Value → Option Addr → Hp → Prop
abbrev St := List (Option V)
abbrev VK := V → Hp → Prop
/-- an expression's reading; a test's; an argument list's -/
abbrev TE := St → Hp → VK → Prop
abbrev TT := St → Hp → (Bool → Hp → Prop) → Prop
abbrev TA := St → Hp → (List V → Hp → Prop) → Prop
/-- what is wanted behind a statement -/
structure Ends where
  nx : St → Hp → Prop
  rt : VK
  bk : St → Hp → Prop := fun _ _ => False
  ct : St → Hp → Prop := fun _ _ => False
abbrev TS := Ends → St → Hp → Prop
inductive EP (X : Cx) (pins : List (Addr × Obj)) (σ : St) (Q : VK) (u : Value) (s' : Shared) : Prop
  | mk (v : V) (H' : Hp) (i_ : Inv X pins σ H' s') (r_ : RelV v u) (q_ : Q v H') : EP X pins σ Q u s'
def TP (X : Cx) (pins : List (Addr × Obj)) (σ : St) (Q : Bool → Hp → Prop) (b : Bool) (s' : Shared) : Prop := ∃ H', Inv X pins σ H' s' ∧ Q b H'
inductive AP (X : Cx) (pins : List (Addr × Obj)) (σ : St) (Q : List V → Hp → Prop) (us : List Value) (s' : Shared) : Prop
  | mk (vs : List V) (H' : Hp) (i_ : Inv X pins σ H' s') (r_ : Vals vs us) (q_ : Q vs H') : AP X pins σ Q us s'
def SP (X : Cx) (pins : List (Addr × Obj)) (D : Ends) (f : Flow) (s' : Shared) : Prop :=
  match f with
  | .next => ∃ σ' H', Inv X pins σ' H' s' ∧ D.nx σ' H'
  | .brk => ∃ σ' H', Inv X pins σ' H' s' ∧ D.bk σ' H'
  | .cont => ∃ σ' H', Inv X pins σ' H' s' ∧ D.ct σ' H'
  | .ret u => ∃ v σ' H', Inv X pins σ' H' s' ∧ RelV v u ∧ D.rt v H'
def PE (X : Cx) (e : Expr) (t : TE) : Prop :=
  ∀ (pins : List (Addr × Obj)) (s : Shared) (σ : St) (H : Hp) (Q : VK), Inv X pins σ H s → t σ H Q → wpAny (model X.prog X.w) X.A (eval e X.env) (EP X pins σ Q) X.xe s
def PT (X : Cx) (e : Expr) (t : TT) : Prop :=
  ∀ (pins : List (Addr × Obj)) (s : Shared) (σ : St) (H : Hp) (Q : Bool → Hp → Prop), Inv X pins σ H s → t σ H Q → wpAny (model X.prog X.w) X.A (isTrue e X.env (eval e X.env)) (TP X pins σ Q) X.xe s
/-- a test whatever its 'whole' is (and, or) -/
def PW (X : Cx) (e : Expr) (t : TT) : Prop :=
  ∀ (whole : Sem Value) (pins : List (Addr × Obj)) (s : Shared) (σ : St) (H : Hp) (Q : Bool → Hp → Prop), Inv X pins σ H s → t σ H Q → wpAny (model X.prog X.w) X.A (isTrue e X.env whole) (TP X pins σ Q) X.xe s
theorem PW.pt {X : Cx} {e : Expr} {t : TT} (h : PW X e t) : PT X e t := h _
/-- an argument list (no star), from the left -/
def PA (X : Cx) (es : List Expr) (t : TA) : Prop :=
  ∀ (pos : Pos) (pins : List (Addr × Obj)) (s : Shared) (σ : St) (H : Hp) (Q : List V → Hp → Prop), Inv X pins σ H s → t σ H Q → wpAny (model X.prog X.w) X.A (spliced (backTo pos (starEach es X.env))) (AP X pins σ Q) X.xe s
def PS (X : Cx) (st : Stmt) (t : TS) : Prop :=
  ∀ (pins : List (Addr × Obj)) (s : Shared) (σ : St) (H : Hp) (D : Ends), Inv X pins σ H s → t D σ H → wpAny (model X.prog X.w) X.A (exec st X.env) (SP X pins D) X.xe s
def PSs (X : Cx) (st : List Stmt) (t : TS) : Prop :=
  ∀ (pins : List (Addr × Obj)) (s : Shared) (σ : St) (H : Hp) (D : Ends), Inv X pins σ H s → t D σ H → wpAny (model X.prog X.w) X.A (execs st X.env) (SP X pins D) X.xe s
/-- weaken the end -/
theorem thn {α : Type} {t : Sem α} {Q Q' : α → Shared → Prop} {M : Model} {A : Around} {E : Value → Shared → Prop} {s : Shared} (h : wpAny M A t Q E s) (hQ : ∀ a s, Q a s → Q' a s) : wpAny M A t Q' E s := wpAny_mono h hQ fun _ _ x => x
end L2
namespace L2
open PySem PySem.Spec PyProof.Rows
section
variable {X : Cx}
def tVar (i : Nat) : TE := fun σ H Q => ∃ v, σ[i]? = some (some v) ∧ Q v H
def tC (v : V) : TE := fun _ H Q => Q v H
theorem pe_var {i : Nat} {x : Str} {pos : Pos} (hN : X.N[i]? = some x) (hv : Vis X.env.scope x) (hd : (x == ("__debug__" : Str)) = false := by decide) (hcd : (x == ("__classdict__" : Str)) = false := by decide) : PE X (.Name x pos) (tVar i) := by
  intro pins s σ H Q I h
  obtain ⟨v, e, h⟩ := h
  obtain ⟨m, hn, hl⟩ := I.loc
  obtain ⟨u, r, l⟩ := hl i x v hN e hv
  have fin : EP X pins σ Q u s := ⟨v, H, I, r, h⟩
  rcases l with ⟨hk, hm⟩ | ⟨hk, c, hc, hcell⟩
  · exact wpAny_Name (wpAny_loadName_local I.ok.kind hk hn hm fin) hd
  · rcases hk with hk | hk
    · exact wpAny_Name (wpAny_loadName_cell I.ok.kind hk hc hcell fin) hd
    · exact wpAny_Name (wpAny_loadName_free I.ok.kind hk hc hcell fin hcd) hd
theorem pe_int {i j pos} : PE X (.Constant (.int i) j pos) (tC (.int i)) := fun _ _ _ H _ I h => wpAny_Constant_int ⟨.int i, H, I.tok _, ⟨_, rfl⟩, h⟩
theorem pe_bl {b j pos} : PE X (.Constant (.bool b) j pos) (tC (.bl b)) := fun _ _ _ H _ I h => Constant_bool ⟨.bl b, H, I, rfl, h⟩
theorem pe_non {j pos} : PE X (.Constant .none j pos) (tC .non) := fun _ _ _ H _ I h => Constant_none ⟨.non, H, I, rfl, h⟩
theorem pe_str {x j pos} : PE X (.Constant (.str x) j pos) (tC (.str x)) := fun _ _ _ H _ I h => Calls.Constant_str ⟨.str x, H, I.tok _, ⟨_, rfl⟩, h⟩
/-- a global name of the def -/
def Gl (X : Cx) (x : Str) : Prop := X.env.kindOf x = some .globalImplicit
theorem ld_glob {E : Value → Shared → Prop} {pins : List (Addr × Obj)} {s : Shared} {σ : St} {H : Hp} {x : Str} {u : Value} {pos : Pos} {Q : Value → Shared → Prop} (I : Inv X pins σ H s) (hg : Gl X x) (hm : X.mg x = some u) (h : Q u s)
    (hd : (x == ("__debug__" : Str)) = false := by decide) : wpAny (model X.prog X.w) X.A (eval (.Name x pos) X.env) Q E s :=
  Calls.Name_function_global I.ok.kind hg (Calls.loadGlobal_global (by rw [I.ok.glob]; exact I.mod.glob.keeps I.bk) hm h) hd
theorem ld_blt {E : Value → Shared → Prop} {pins : List (Addr × Obj)} {s : Shared} {σ : St} {H : Hp} {x : Str} {u : Value} {pos : Pos} {Q : Value → Shared → Prop} (I : Inv X pins σ H s) (hg : Gl X x) (hm : X.mg x = none) (hv : bootBuiltins x = some u) (h : Q u s)
    (hn : x ≠ "__name__" := by decide) (hd : (x == ("__debug__" : Str)) = false := by decide) : wpAny (model X.prog X.w) X.A (eval (.Name x pos) X.env) Q E s := by
  obtain ⟨mb, h1, h2⟩ := I.mod.blt
  exact Calls.Name_function_global I.ok.kind hg (Calls.loadGlobal_builtin (by rw [I.ok.glob]; exact I.mod.glob.keeps I.bk) hm (by rw [I.ok.blt]; exact h1.keeps I.bk) ((h2 x hn).trans hv) h) hd
/-- a module's constant, a class, a function, as a value -/
theorem pe_glob {x : Str} {v : V} {u : Value} {pos : Pos} (hg : Gl X x) (hm : X.mg x = some u) (r : RelV v u) (hd : (x == ("__debug__" : Str)) = false := by decide) : PE X (.Name x pos) (tC v) :=
  fun _ _ _ H _ I h => ld_glob I hg hm ⟨v, H, I, r, h⟩ hd
variable {a b : Expr} {ta tb : TE} {pos : Pos}
def PC (X : Cx) (op : CmpOp) (a b : Expr) (t : TE) : Prop :=
  ∀ (pins : List (Addr × Obj)) (s : Shared) (σ : St) (H : Hp) (Q : VK), Inv X pins σ H s → t σ H Q →
    wpAny (model X.prog X.w) X.A (eval a X.env) (fun v s₁ => wpAny (model X.prog X.w) X.A (eval b X.env) (fun u s₂ => wpAny (model X.prog X.w) X.A (compareOp op v u) (EP X pins σ Q) X.xe s₂) X.xe s₁) X.xe s
theorem nobehind (b : Expr) {op : CmpOp} (h : op ≠ .In) (h2 : op ≠ .NotIn) : behindInMarks op b = false := by
  have e1 : (op == CmpOp.In) = false := by cases op <;> first | rfl | exact absurd rfl h
  have e2 : (op == CmpOp.NotIn) = false := by cases op <;> first | rfl | exact absurd rfl h2
  cases b <;> simp [behindInMarks, e1, e2]
def tNotN (ta : TE) : TE := fun σ H Q => ta σ H fun x H1 => Q (.bl (!decide (x = .non))) H1
theorem RelV.none_iff {x : V} {v : Value} (r : RelV x v) : (v == Value.none) = decide (x = .non) := by
  cases x with
  | non => cases r; rfl
  | bl _ => cases r; rfl
  | int _ => obtain ⟨t, rfl⟩ := r; rfl
  | str _ => obtain ⟨t, rfl⟩ := r; rfl
  | byt _ => obtain ⟨t, rfl⟩ := r; rfl
  | flt _ => obtain ⟨t, rfl⟩ := r; rfl
  | ref _ => cases r; rfl
  | ty _ => cases r; rfl
theorem pc_notN {j pos'} (ha : PE X a ta) : PC X .IsNot a (.Constant .none j pos') (tNotN ta) := by
  intro pins s σ H Q I h
  refine thn (ha pins s σ H _ I h) fun v s1 ⟨x, H1, I1, r1, q1⟩ => ?_
  exact Constant_none (isnot_none_gen ⟨.bl _, H1, I1, by rw [r1.none_iff]; rfl, q1⟩)
/-- a comparison as a value, as a test -/
def tB (t : TE) : TT := fun σ H Q => t σ H fun x H1 => ∃ c, x = .bl c ∧ Q c H1
theorem pe_cmp {op : CmpOp} {t : TE} (h : PC X op a b t) (h1 : behindInMarks op b = false := by first | exact nobehind _ (by decide) (by decide) | rfl) : PE X (.Compare a [op] [b] pos) t := fun pins s σ H Q I hw => wpAny_Compare1 (h pins s σ H Q I hw) h1
theorem pt_cmp {op : CmpOp} {t : TE} (h : PC X op a b t) (h1 : behindInMarks op b = false := by first | exact nobehind _ (by decide) (by decide) | rfl) : PT X (.Compare a [op] [b] pos) (tB t) := by
  intro pins s σ H Q I hw
  refine wpAny_isTrue_Compare1 (thn (h pins s σ H _ I hw) fun v s1 h1 => thn h1 fun u s2 h2 => thn h2 fun c s3 ⟨x, H1, I1, r1, q1⟩ => ?_) h1
  obtain ⟨d, rfl, q⟩ := q1
  cases r1
  exact wpAny_truthy_bool ⟨H1, I1, q⟩
/-- an expression whose value is a bool, as a test -/
theorem pt_val {e : Expr} {t : TE} (h : PE X e t) (he : ∀ whole, isTrue e X.env whole = (do let v ← whole; standAt e.pos; holding [v] (truthy v)) := by intro _; rfl) : PT X e (tB t) := by
  intro pins s σ H Q I hw
  refine isTrue_plain (thn (h pins s σ H _ I hw) fun v s1 ⟨x, H1, I1, r1, q1⟩ => ?_) (he _)
  obtain ⟨d, rfl, q⟩ := q1
  cases r1
  exact wpAny_truthy_bool ⟨H1, I1, q⟩
variable {tA tB' : TT} {rest : List Expr}
def tAnd (t u : TT) : TT := fun σ H Q => t σ H fun c H1 => if c = true then u σ H1 Q else Q false H1
def tOr (t u : TT) : TT := fun σ H Q => t σ H fun c H1 => if c = true then Q true H1 else u σ H1 Q
def tNot (t : TT) : TT := fun σ H Q => t σ H fun c H1 => Q (!c) H1
theorem pw_and1 (ha : PT X a tA) : PW X (.BoolOp .And [a] pos) tA := by
  intro wh pins s σ H Q I h
  refine isTrue_and (thn (ha pins s σ H Q I h) fun c s1 e => ?_)
  cases c with
  | true => exact isTrue_and_nil e
  | false => exact e
theorem pw_or1 (ha : PT X a tA) : PW X (.BoolOp .Or [a] pos) tA := by
  intro wh pins s σ H Q I h
  refine isTrue_or (thn (ha pins s σ H Q I h) fun c s1 e => ?_)
  cases c with
  | false => exact isTrue_or_nil e
  | true => exact e
theorem pw_and (ha : PT X a tA) (hb : PW X (.BoolOp .And (b :: rest) pos) tB') : PW X (.BoolOp .And (a :: b :: rest) pos) (tAnd tA tB') := by
  intro wh pins s σ H Q I h
  refine isTrue_and (thn (ha pins s σ H _ I h) fun c s1 ⟨H1, I1, q1⟩ => ?_)
  cases c with
  | true => exact hb wh pins s1 σ H1 Q I1 q1
  | false => exact ⟨H1, I1, q1⟩
theorem pw_or (ha : PT X a tA) (hb : PW X (.BoolOp .Or (b :: rest) pos) tB') : PW X (.BoolOp .Or (a :: b :: rest) pos) (tOr tA tB') := by
  intro wh pins s σ H Q I h
  refine isTrue_or (thn (ha pins s σ H _ I h) fun c s1 ⟨H1, I1, q1⟩ => ?_)
  cases c with
  | true => exact ⟨H1, I1, q1⟩
  | false => exact hb wh pins s1 σ H1 Q I1 q1
theorem pt_not (ha : PT X a tA) : PT X (.UnaryOp .Not a pos) (tNot tA) := by
  intro pins s σ H Q I h
  exact isTrue_not (ha pins s σ H (fun c H1 => Q (!c) H1) I h)
/-- a if t else b -/
def tIf (t : TT) (ta tb : TE) : TE := fun σ H Q => t σ H fun c H1 => if c = true then ta σ H1 Q else tb σ H1 Q
theorem pe_ifExp {c : Expr} (hc : PT X c tA) (ha : PE X a ta) (hb : PE X b tb) : PE X (.IfExp c a b pos) (tIf tA ta tb) := by
  intro pins s σ H Q I h
  refine wpAny_IfExp (thn (hc pins s σ H _ I h) fun d s1 ⟨H1, I1, q1⟩ => ?_)
  cases d with
  | true => exact ha pins s1 σ H1 Q I1 q1
  | false => exact hb pins s1 σ H1 Q I1 q1
end
end L2
namespace L2
open PySem PySem.Spec PyProof.Rows
def SqL (K : PySem.W.Frag) (H : Hp) (a : Addr) (xs : List V) : Prop :=
  Rd H a (.lst xs) ∨
    ∃ (o : Obj) (its : Array Value) (n : Nat), K.lookup a = some o ∧ o.cls = .type "list" ∧ o.dict = none ∧ o.data = .seq its n ∧ its.size ≤ sizeLine ∧ Vals xs its.toList
def SqT (K : PySem.W.Frag) (H : Hp) (a : Addr) (xs : List V) : Prop :=
  Rd H a (.tup xs) ∨
    ∃ (o : Obj) (its : Array Value) (n : Nat), K.lookup a = some o ∧ o.cls = .type "tuple" ∧ o.data = .seq its n ∧ its.size ≤ sizeLine ∧ Vals xs its.toList
def absV : Value → Option V
  | .none => some .non
  | .bool b => some (.bl b)
  | .int i _ => some (.int i)
  | .str x _ => some (.str x)
  | .bytes b _ => some (.byt b)
  | .float b _ => some (.flt b)
  | .ref a => some (.ref a)
  | .type n => some (.ty n)
  | _ => none
theorem RelV.abs {x : V} {u : Value} (r : RelV x u) : absV u = some x := by
  cases x with
  | non => cases r; rfl
  | bl _ => cases r; rfl
  | int _ => obtain ⟨t, rfl⟩ := r; rfl
  | str _ => obtain ⟨t, rfl⟩ := r; rfl
  | byt _ => obtain ⟨t, rfl⟩ := r; rfl
  | flt _ => obtain ⟨t, rfl⟩ := r; rfl
  | ref _ => cases r; rfl
  | ty _ => cases r; rfl
theorem RelV.inj {x y : V} {u : Value} (r : RelV x u) (q : RelV y u) : x = y := Option.some.inj (r.abs.symm.trans q.abs)
theorem Vals.inj : ∀ {xs ys : List V} {us : List Value}, Vals xs us → Vals ys us → xs = ys
  | _, _, _, .nil, .nil => rfl
  | _, _, _, .cons r t, .cons r' t' => by rw [r.inj r', Vals.inj t t']
section
variable {X : Cx} {pins : List (Addr × Obj)} {σ : St} {H : Hp} {s : Shared} {a : Addr} {xs ys : List V}
theorem SqL.of {K : PySem.W.Frag} (h : H a = some (.lst xs)) : SqL K H a xs := .inl (.inl h)
theorem SqT.of {K : PySem.W.Frag} (h : H a = some (.tup xs)) : SqT K H a xs := .inl (.inl h)
theorem Inv.list (I : Inv X pins σ H s) (h : SqL X.K H a xs) : ∃ its : List Value, Vals xs its ∧ PlainL s.heap a its.toArray ∧ xs.length ≤ sizeLine := by
  rcases h with h | ⟨o, its, n, hk, hc, hd, hs, hz, r⟩
  · obtain ⟨z, its, n, r, e⟩ := h.ok I.hok
    exact ⟨its, r, ⟨_, n, e, rfl, rfl, rfl⟩, z⟩
  · refine ⟨its.toList, r, ⟨o, n, I.kIn a o hk, hc, hd, by simpa using hs⟩, ?_⟩
    have e := r.length
    simp only [Array.length_toList] at e
    omega
theorem Inv.tuple (I : Inv X pins σ H s) (h : SqT X.K H a xs) : ∃ its : List Value, Vals xs its ∧ IsTup s.heap a its.toArray ∧ xs.length ≤ sizeLine := by
  rcases h with h | ⟨o, its, n, hk, hc, hs, hz, r⟩
  · obtain ⟨z, its, r, p⟩ := h.ok I.hok
    exact ⟨its, r, p, z⟩
  · refine ⟨its.toList, r, ⟨o, I.kIn a o hk, hc, n, by simpa using hs⟩, ?_⟩
    have e := r.length
    simp only [Array.length_toList] at e
    omega
theorem Inv.tuple_inj (I : Inv X pins σ H s) (h : SqT X.K H a xs) (h' : SqT X.K H a ys) : xs = ys := by
  obtain ⟨its, r, ⟨o, e, _, n, d⟩, _⟩ := I.tuple h
  obtain ⟨its', r', ⟨o', e', _, n', d'⟩, _⟩ := I.tuple h'
  rw [e] at e'; cases e'
  rw [d] at d'
  injection d' with d1 _
  have : its = its' := by simpa using congrArg Array.toList d1
  subst this
  exact r.inj r'
end
abbrev Cx.wish (X : Cx) (E : Value → Shared → Prop) : Cx := { X with xe := E }
/-- no exception leaves -/
abbrev Cx.nox (X : Cx) : Cx := X.wish fun _ _ => False
theorem Cx.Ok.wish {X : Cx} (ok : X.Ok) (E : Value → Shared → Prop) : (X.wish E).Ok :=
  ⟨ok.mod, ok.kind, ok.glob, ok.blt, ok.above, ok.inj, ok.has, ok.cab, ok.hd, ok.frames, ok.stk, ok.exf, ok.bs, ok.bsz, ok.noex, ok.exfs, ok.funs, ok.frf⟩
theorem Cx.Ok.unwish {X : Cx} {E : Value → Shared → Prop} (ok : (X.wish E).Ok) : X.Ok :=
  ⟨ok.mod, ok.kind, ok.glob, ok.blt, ok.above, ok.inj, ok.has, ok.cab, ok.hd, ok.frames, ok.stk, ok.exf, ok.bs, ok.bsz, ok.noex, ok.exfs, ok.funs, ok.frf⟩
section
variable {X : Cx} {pins : List (Addr × Obj)} {σ : St} {H : Hp} {s : Shared} {E : Value → Shared → Prop}
theorem Inv.wish (I : Inv X pins σ H s) (E : Value → Shared → Prop) : Inv (X.wish E) pins σ H s := ⟨I.ok.wish E, I.os, I.bare, I.base, I.loc, I.cell, I.free, I.freeC, I.pin, I.hok, I.len⟩
theorem Inv.unwish (I : Inv (X.wish E) pins σ H s) : Inv X pins σ H s := ⟨I.ok.unwish, I.os, I.bare, I.base, I.loc, I.cell, I.free, I.freeC, I.pin, I.hok, I.len⟩
theorem SP.unwish {D : Ends} {f : Flow} {s' : Shared} (h : SP (X.wish E) pins D f s') : SP X pins D f s' := by
  cases f with
  | next => obtain ⟨σ', H', I, q⟩ := h; exact ⟨σ', H', I.unwish, q⟩
  | brk => obtain ⟨σ', H', I, q⟩ := h; exact ⟨σ', H', I.unwish, q⟩
  | cont => obtain ⟨σ', H', I, q⟩ := h; exact ⟨σ', H', I.unwish, q⟩
  | ret u => obtain ⟨v, σ', H', I, r, q⟩ := h; exact ⟨v, σ', H', I.unwish, r, q⟩
theorem PSs.nox {st : List Stmt} {t : TS} (h : PSs X.nox st t) : PSs X st t := fun pins s σ H D I hw =>
  wpAny_mono (h pins s σ H D (I.wish _) hw) (fun _ _ q => q.unwish) fun _ _ z => False.elim z
end
section
variable {X : Cx} {st : Stmt} {rest : List Stmt} {t u : TS} {e : Expr} {te : TE} {pos : Pos}
def tNext : TS := fun D σ H => D.nx σ H
def tSeq (t u : TS) : TS := fun D σ H => t { D with nx := u D } σ H
theorem pss_nil : PSs X [] tNext := fun _ _ σ H _ I h => wpAny_execs_nil ⟨σ, H, I, h⟩
theorem pss_cons (h1 : PS X st t) (h2 : PSs X rest u) : PSs X (st :: rest) (tSeq t u) := by
  intro pins s σ H D I h
  refine wpAny_execs_cons (thn (h1 pins s σ H { D with nx := u D } I h) fun f s1 q => ?_)
  cases f with
  | next =>
    obtain ⟨σ', H', I', q⟩ := q
    exact h2 pins s1 σ' H' D I' q
  | ret v => exact q
  | brk => exact q
  | cont => exact q
theorem pss_one (h1 : PS X st t) : PSs X [st] t := by
  intro pins s σ H D I h
  refine wpAny_execs_cons (thn (h1 pins s σ H D I h) fun f s1 q => ?_)
  cases f with
  | next => exact wpAny_execs_nil q
  | ret v => exact q
  | brk => exact q
  | cont => exact q
/-- in a def's body nothing is shown -/
theorem Inv.quiet {pins : List (Addr × Obj)} {σ : St} {H : Hp} {s : Shared} (I : Inv X pins σ H s) : interactive X.env = false := by simp [interactive, I.ok.kind]
/-- an expression whose value is dropped -/
def tDrop (te : TE) : TS := fun D σ H => te σ H fun _ H1 => D.nx σ H1
theorem ps_expr (he : PE X e te) (hs : swapsWith e none pos.line X.env = pure false := by rfl) : PS X (.Expr e pos) (tDrop te) := by
  intro pins s σ H D I h
  exact wpAny_Expr_any (thn (he pins s σ H _ I h) fun v s1 ⟨x, H1, I1, r1, q1⟩ => ⟨σ, H1, I1, q1⟩) I.quiet hs
def tRet (te : TE) : TS := fun D σ H => te σ H D.rt
theorem ps_ret (he : PE X e te) : PS X (.Return (some e) pos) (tRet te) := by
  intro pins s σ H D I h
  exact wpAny_Return_some (thn (he pins s σ H _ I h) fun v s1 ⟨x, H1, I1, r1, q1⟩ => ⟨x, σ, H1, I1, r1, q1⟩)
def tIfS (c : TT) (t u : TS) : TS := fun D σ H => c σ H fun b H1 => if b = true then t D σ H1 else u D σ H1
theorem ps_if {c : Expr} {a b : List Stmt} {tc : TT} (hc : PT X c tc) (ha : PSs X a t) (hb : PSs X b u) : PS X (.If c a b pos) (tIfS tc t u) := by
  intro pins s σ H D I h
  refine wpAny_If (thn (hc pins s σ H _ I h) fun d s1 ⟨H1, I1, q1⟩ => ?_)
  cases d with
  | true => exact ha pins s1 σ H1 D I1 q1
  | false => exact hb pins s1 σ H1 D I1 q1
end
abbrev TG := V → St → Hp → (St → Hp → Prop) → Prop
abbrev TGs := List V → St → Hp → (St → Hp → Prop) → Prop
def PG (X : Cx) (target : Expr) (t : TG) : Prop :=
  ∀ (pins : List (Addr × Obj)) (s : Shared) (σ : St) (H : Hp) (v : V) (u : Value) (Q : St → Hp → Prop), Inv X pins σ H s → RelV v u → t v σ H Q →
    wpAny (model X.prog X.w) X.A (assign target X.env u) (fun _ s' => ∃ σ' H', Inv X pins σ' H' s' ∧ Q σ' H') X.xe s
/-- several targets, one after another -/
def PGs (X : Cx) (ts : List Expr) (t : TGs) : Prop :=
  ∀ (pins : List (Addr × Obj)) (s : Shared) (σ : St) (H : Hp) (vs : List V) (us : List Value) (Q : St → Hp → Prop), Inv X pins σ H s → Vals vs us → t vs σ H Q →
    wpAny (model X.prog X.w) X.A (assignInOrder ((assignEach ts X.env).map (·.2)) us) (fun _ s' => ∃ σ' H', Inv X pins σ' H' s' ∧ Q σ' H') X.xe s
/-- o[i] = v, by values -/
abbrev TSet := V → V → V → Hp → (Hp → Prop) → Prop
def PSet (X : Cx) (t : TSet) : Prop :=
  ∀ (pins : List (Addr × Obj)) (s : Shared) (σ : St) (H : Hp) (o i v : V) (ov iv u : Value) (Q : Hp → Prop), Inv X pins σ H s → RelV o ov → RelV i iv → RelV v u → t o i v H Q →
    wpAny (model X.prog X.w) X.A (setItem ov iv u) (fun _ s' => ∃ H', Inv X pins σ H' s' ∧ Q H') X.xe s
/-- a op= b, by values -/
abbrev TIp := V → V → Hp → VK → Prop
def PIp (X : Cx) (op : Operator) (t : TIp) : Prop :=
  ∀ (pins : List (Addr × Obj)) (s : Shared) (σ : St) (H : Hp) (x y : V) (v u : Value) (Q : VK), Inv X pins σ H s → RelV x v → RelV y u → t x y H Q →
    wpAny (model X.prog X.w) X.A (inplaceOp op v u) (EP X pins σ Q) X.xe s
section
variable {X : Cx} {pos : Pos}
def gName (i : Nat) : TG := fun v σ H Q => Q (σ.set i (some v)) H
theorem pg_name {i : Nat} {x : Str} (hN : X.N.Nodup) (hi : X.N[i]? = some x) (hx : Loc X.env.scope x) (hf : X.fn x = true ∨ X.env.scope.names.lookup x = some .local := by first | exact .inl rfl | exact .inr rfl | assumption) : PG X (.Name x pos) (gName i) := by
  intro pins s σ H v u Q I r h
  exact wpAny_assign_Name (store_ok I hN hi hx r (fun s' I' => ⟨_, H, I', h⟩) hf)
def gNil : TGs := fun vs σ H Q => vs = [] ∧ Q σ H
def gCons (t : TG) (u : TGs) : TGs := fun vs σ H Q => ∃ v r, vs = v :: r ∧ t v σ H fun σ' H' => u r σ' H' Q
theorem pgs_nil : PGs X [] gNil := by
  intro pins s σ H vs us Q I r h
  obtain ⟨e, h⟩ := h
  subst e
  cases r
  exact assignInOrder_nil ⟨σ, H, I, h⟩
theorem pgs_cons {e : Expr} {es : List Expr} {t : TG} {u : TGs} (h1 : PG X e t) (h2 : PGs X es u)
    (hs : (assignEach (e :: es) X.env).map (·.2) = assign e X.env :: (assignEach es X.env).map (·.2) := by rfl) : PGs X (e :: es) (gCons t u) := by
  intro pins s σ H vs us Q I r h
  obtain ⟨v, vr, e1, h⟩ := h
  subst e1
  cases r with
  | cons r rr =>
    rw [hs]
    refine assignInOrder_cons (thn (h1 pins s σ H _ _ _ I r h) fun _ s1 ⟨σ1, H1, I1, q1⟩ => ?_)
    exact h2 pins s1 σ1 H1 _ _ Q I1 rr q1
/-- (a, b, ..) = a tuple of that length -/
def gTup (K : PySem.W.Frag) (n : Nat) (t : TGs) : TG := fun v σ H Q => ∃ a xs, v = .ref a ∧ SqT K H a xs ∧ xs.length = n ∧ t xs σ H Q
theorem pg_tup {es : List Expr} {k : Nat} {t : TGs} {n : Nat} (hc : X.calm = true) (h : PGs X es t)
    (hn : (assignEach es X.env).length = n := by rfl) (hst : (assignEach es X.env).findIdx? (·.1) = none := by rfl) : PG X (.Tuple es k pos) (gTup X.K n t) := by
  intro pins s σ H v u Q I r hw
  obtain ⟨a, xs, e1, hq, hl, hw⟩ := hw
  subst e1
  cases r
  obtain ⟨its, rv, ht, hz⟩ := I.tuple hq
  refine assign_Tuple_tuple (I.ok.hd hc) ht (by simp [hn, ← hl, rv.length]) hst fun h' hx => ?_
  have I1 : Inv X pins σ H { s with heap := h' } := I.kept (t' := s.toks) fun b o e => hx b o (Nat.ne_of_lt (Heap.lt_size e)) e
  exact h pins _ σ H xs _ Q I1 (by simpa using rv) hw
/-- o[i] = .. -/
def gSub (to ti : TE) (t : TSet) : TG := fun v σ H Q => to σ H fun o H1 => ti σ H1 fun i H2 => t o i v H2 fun H3 => Q σ H3
theorem pg_sub {o i : Expr} {to ti : TE} {t : TSet} (ho : PE X o to) (hi : PE X i ti) (hs : PSet X t)
    (ha : ∀ v, assign (.Subscript o i pos) X.env v = (do
      let ov ← holding [v] (eval o X.env)
      let iv ← holding [v, ov] (eval i X.env)
      standAt pos
      holding [v, ov, iv] (setItem ov iv v)
      release [v, ov, iv] []) := by intro _; rfl) : PG X (.Subscript o i pos) (gSub to ti t) := by
  intro pins s σ H v u Q I r h
  rw [ha]
  refine wpAny_bind (wpAny_holding (thn (ho pins s σ H _ I h) fun ov s1 ⟨x, H1, I1, r1, q1⟩ => ?_))
  refine wpAny_bind (wpAny_holding (thn (hi pins s1 σ H1 _ I1 q1) fun iv s2 ⟨y, H2, I2, r2, q2⟩ => ?_))
  refine wpAny_bind (wpAny_standAt (wpAny_bind (wpAny_holding (thn (hs pins s2 σ H2 x y v ov iv u _ I2 r1 r2 r q2) fun _ s3 ⟨H3, I3, q3⟩ => ?_))))
  exact wpAny_release ⟨σ, H3, I3, q3⟩
/-- target = value -/
def tAsg (te : TE) (g : TG) : TS := fun D σ H => te σ H fun x H1 => g x σ H1 D.nx
theorem ps_asg {tg e : Expr} {te : TE} {g : TG} (he : PE X e te) (hg : PG X tg g) (hs : swapsWithSole [tg] e pos.line X.env = pure false := by rfl) (hw : swappedStores [tg] e X.env = pure none := by rfl)
    (h1 : (assignEach [tg] X.env).map (·.2) = [assign tg X.env] := by rfl) : PS X (.Assign [tg] e pos) (tAsg te g) := by
  intro pins s σ H D I h
  refine wpAny_Assign_stores (thn (he pins s σ H _ I h) fun v s1 ⟨x, H1, I1, r1, q1⟩ => ?_) hs hw
  rw [h1]
  exact thn (hg pins s1 σ H1 x v _ I1 r1 q1) fun _ s2 q => q
/-- name = value -/
theorem ps_set {i : Nat} {x : Str} {e : Expr} {te : TE} {pos' : Pos} (hN : X.N.Nodup) (hi : X.N[i]? = some x) (hx : Loc X.env.scope x) (he : PE X e te) (hs : swapsWith e (some (.Name x pos')) pos.line X.env = pure false := by rfl) (hf : X.fn x = true ∨ X.env.scope.names.lookup x = some .local := by first | exact .inl rfl | exact .inr rfl | assumption) :
    PS X (.Assign [.Name x pos'] e pos) (tAsg te (gName i)) := by
  intro pins s σ H D I h
  refine wpAny_Assign_Name (thn (he pins s σ H _ I h) fun v s1 ⟨y, H1, I1, r1, q1⟩ => ?_) hs
  exact store_ok I1 hN hi hx r1 (fun s2 I2 => ⟨_, H1, I2, q1⟩) hf
/-- name op= e -/
def tAug (i : Nat) (te : TE) (ti : TIp) : TS := fun D σ H => ∃ x, σ[i]? = some (some x) ∧ te σ H fun y H1 => ti x y H1 fun z H2 => D.nx (σ.set i (some z)) H2
theorem ps_aug {i : Nat} {x : Str} {e : Expr} {te : TE} {op : Operator} {ti : TIp} {pos' : Pos} (hN : X.N.Nodup) (hi : X.N[i]? = some x) (hx : Loc X.env.scope x) (he : PE X e te) (ho : PIp X op ti) (hf : X.fn x = true ∨ X.env.scope.names.lookup x = some .local := by first | exact .inl rfl | exact .inr rfl | assumption) :
    PS X (.AugAssign (.Name x pos') op e pos) (tAug i te ti) := by
  intro pins s σ H D I h
  obtain ⟨v, e1, h⟩ := h
  obtain ⟨m, hn, hl⟩ := I.loc
  have vis : Vis X.env.scope x := by rcases hx with k | k; exact .inl k; exact .inr (.inl k)
  obtain ⟨u, r, l⟩ := hl i x v hi e1 vis
  refine wpAny_AugAssign_Name ?_
  have go : wpAny (model X.prog X.w) X.A (eval e X.env) (fun w s₂ => wpAny (model X.prog X.w) X.A (inplaceOp op u w) (fun r s₃ => wpAny (model X.prog X.w) X.A (storeName X.env x r) (fun _ => SP X pins D .next) X.xe s₃) X.xe s₂) X.xe s := by
    refine thn (he pins s σ H _ I h) fun w s1 ⟨y, H1, I1, r1, q1⟩ => ?_
    refine thn (ho pins s1 σ H1 v y u w _ I1 r r1 q1) fun z s2 ⟨zv, H2, I2, r2, q2⟩ => ?_
    exact store_ok I2 hN hi hx r2 (fun s3 I3 => ⟨_, H2, I3, q2⟩) hf
  rcases l with ⟨hk, hm⟩ | ⟨hk, c, hc, hcell⟩
  · exact wpAny_loadName_local I.ok.kind hk hn hm go
  · rcases hk with hk | hk
    · exact wpAny_loadName_cell I.ok.kind hk hc hcell go
    · rcases hx with k | k
      · have : X.env.scope.names.lookup x = some .free := hk
        rw [k] at this; cases this
      · have : X.env.scope.names.lookup x = some .free := hk
        rw [k] at this; cases this
/-- ints -/
def ipI (f : Int → Int → Int) : TIp := fun x y H Q => ∃ i j, x = .int i ∧ y = .int j ∧ Q (.int (f i j)) H
theorem ip_add : PIp X .Add (ipI fun i j => i + j) := by
  intro pins s σ H x y v u Q I r1 r2 h
  obtain ⟨i, j, e1, e2, q⟩ := h
  subst e1; subst e2
  obtain ⟨t, rfl⟩ := r1
  obtain ⟨t', rfl⟩ := r2
  exact iadd_int ⟨.int _, H, I.tok _, ⟨_, rfl⟩, q⟩
end
section
variable {X : Cx} {pos : Pos}
/-- the invariant W with its measure -/
def tWhile (c : TT) (tb : TS) : TS := fun D σ H => ∃ W : Nat → St → Hp → Prop, (∃ m, W m σ H) ∧ ∀ m σ H, W m σ H →
  c σ H fun b H1 => if b = true then ∃ N : St → Hp → Prop, (∀ σ' H', N σ' H' → ∃ m', m' < m ∧ W m' σ' H') ∧ tb { D with nx := N, ct := N, bk := D.nx } σ H1 else D.nx σ H1
theorem ps_while {c : Expr} {body : List Stmt} {tc : TT} {tb : TS} (hp : PassesOwn (model X.prog X.w) X.A X.env X.xe) (hc : PT X c tc) (hb : PSs X body tb) : PS X (.While c body [] pos) (tWhile tc tb) := by
  intro pins s σ H D I h
  obtain ⟨W, ⟨m0, w0⟩, turn⟩ := h
  refine wpAny_While (codeAny_whileLoop (fun n s' => ∃ σ' H', Inv X pins σ' H' s' ∧ W n σ' H') ?_ m0 ⟨σ, H, I, w0⟩)
  rintro n s1 ⟨σ1, H1, I1, w1⟩
  refine wpAny_passesOwn hp (thn (hc pins s1 σ1 H1 _ I1 (turn n σ1 H1 w1)) fun b s2 ⟨H2, I2, q2⟩ => ?_)
  cases b with
  | true =>
    obtain ⟨N, hN, q2⟩ := q2
    rw [if_pos rfl]
    refine wpAny_passesOwn hp (thn (hb pins s2 σ1 H2 _ I2 q2) fun f s3 q3 => ?_)
    cases f with
    | next =>
      obtain ⟨σ3, H3, I3, n3⟩ := q3
      obtain ⟨m', hm, w3⟩ := hN σ3 H3 n3
      exact ⟨m', hm, σ3, H3, I3, w3⟩
    | cont =>
      obtain ⟨σ3, H3, I3, n3⟩ := q3
      obtain ⟨m', hm, w3⟩ := hN σ3 H3 n3
      exact ⟨m', hm, σ3, H3, I3, w3⟩
    | brk => exact q3
    | ret v => exact q3
  | false =>
    rw [if_neg Bool.false_ne_true]
    exact wpAny_execs_nil ⟨σ1, H2, I2, q2⟩
end
/-- at turn i: it yields x (the heap may grow), or it stops -/
structure It where
  go : Nat → Hp → Prop
  yld : Nat → Hp → V → Hp → Prop
  stop : Nat → Hp → Prop
/-- the iterator's own objects may turn: they are not the frame's, not pinned, younger than the entry (or a comprehension's own) -/
def FpOk (X : Cx) (pins : List (Addr × Obj)) (H : Hp) (b : Addr) : Prop :=
  H b = none ∧ b ≠ X.env.locals ∧ b ∉ X.fs ∧ (b ∈ X.ex ∨ X.s₀.heap.objs.size ≤ b) ∧ (∀ x c, X.env.cells.lookup x = some c → c ≠ b) ∧ ∀ p ∈ X.pn ++ pins, p.1 ≠ b
theorem Inv.fpOk {X : Cx} {pins : List (Addr × Obj)} {σ : St} {H H' : Hp} {s : Shared} {b : Addr} (I : Inv X pins σ H s) (hb : s.heap.objs.size ≤ b) (hn : H' b = none) : FpOk X pins H' b := by
  refine ⟨hn, Nat.ne_of_gt (Nat.lt_of_lt_of_le I.lt hb), I.nofs hb, .inr (Nat.le_trans I.sz hb), fun x c e z => ?_, fun p hp z => ?_⟩
  · obtain ⟨v, q⟩ := I.cell x c e
    exact absurd (Nat.lt_of_lt_of_le q.lt (by rw [z]; exact hb)) (Nat.lt_irrefl _)
  · exact absurd (Nat.lt_of_lt_of_le (Heap.lt_size (I.pin p hp).1) (by rw [z]; exact hb)) (Nat.lt_irrefl _)
structure Turn (P : Program) (w : World) (K : PySem.W.Frag) (tg : Expr) (J : It) (fp : List Addr) (it : Addr) (tn : Nat → Heap → Prop) : Prop where
  mem : it ∈ fp
  obj : ∀ i h, tn i h → ∀ b ∈ fp, ∃ o, h.get? b = some o ∧ ∀ v, o.data ≠ .cell v
  keep : ∀ i h h', tn i h → (∀ b ∈ fp, ∀ o, h.get? b = some o → h'.get? b = some o) → tn i h'
  item : ∀ (X : Cx), X.prog = P → X.w = w → X.K = K → X.calm = true → ∀ (i : Nat) (pins : List (Addr × Obj)) (s : Shared) (σ : St) (H : Hp) (E : Value → Shared → Prop), Inv X pins σ H s → (∀ b ∈ fp, FpOk X pins H b) → tn i s.heap → J.go i H →
    wpAny (model P w) X.A (pyNext (.ref it)) (fun r s1 => ∃ u, r = some u ∧
      wpAny (model P w) X.A (letOwnedTupleGo tg (.ref it) u) (fun _ s2 => ∃ x H', Inv X pins σ H' s2 ∧ RelV x u ∧ J.yld i H x H' ∧ tn (i + 1) s2.heap ∧ ∀ b ∈ fp, H' b = none) E s1) E s
  done : ∀ (X : Cx), X.prog = P → X.w = w → X.K = K → X.calm = true → ∀ (i : Nat) (pins : List (Addr × Obj)) (s : Shared) (σ : St) (H : Hp) (E : Value → Shared → Prop), Inv X pins σ H s → (∀ b ∈ fp, FpOk X pins H b) → tn i s.heap → J.stop i H →
    wpAny (model P w) X.A (pyNext (.ref it)) (fun r s1 => r = none ∧ Inv X pins σ H s1) E s
  self : ∀ (A : Around) (i : Nat) (s : Shared) (Q : Value → Shared → Prop) (E : Value → Shared → Prop), tn i s.heap → Q (.ref it) s → wpAny (model P w) A (pyIter (.ref it)) Q E s
abbrev TI := St → Hp → (It → Hp → Prop) → Prop
/-- an iterator has come -/
def PIE (X : Cx) (pins : List (Addr × Obj)) (σ : St) (tg : Expr) (R : It → Hp → Prop) (itv : Value) (s2 : Shared) : Prop :=
  ∃ (it : Addr) (fp : List Addr) (tn : Nat → Heap → Prop) (J : It) (H' : Hp), itv = .ref it ∧ Inv X pins σ H' s2 ∧ Turn X.prog X.w X.K tg J fp it tn ∧ tn 0 s2.heap ∧ (∀ b ∈ fp, FpOk X pins H' b) ∧ R J H'
def PI (X : Cx) (tg iter : Expr) (wi : TI) : Prop :=
  ∀ (pins : List (Addr × Obj)) (s : Shared) (σ : St) (H : Hp) (R : It → Hp → Prop), Inv X pins σ H s → wi σ H R →
    wpAny (model X.prog X.w) X.A (eval iter X.env) (fun v s1 => wpAny (model X.prog X.w) X.A (pyIter v) (PIE X pins σ tg R) X.xe s1) X.xe s
/-- the step ahead of the store is nothing for an iterator that keeps no tuple -/
theorem go_of {M : Model} {A : Around} {E : Value → Shared → Prop} {s : Shared} {tg : Expr} {it : Addr} {u : Value} {o : Obj} {n : String} {vs : Array Value} {Q : Unit → Shared → Prop} (ho : s.heap.get? it = some o) (hc : o.cls = .type n) (hd : o.data = .fields vs)
    (hn : ["enumerate", "zip", "dict_itemiterator", "dict_reverseitemiterator", "odict_iterator", "itertools.zip_longest", "itertools.pairwise"].contains n = false) (hQ : Q () s) : wpAny M A (letOwnedTupleGo tg (.ref it) u) Q E s := by
  unfold letOwnedTupleGo
  cases tg <;> first
    | exact wpAny_pure hQ
    | (cases u <;> first
        | exact wpAny_pure hQ
        | (refine wpAny_bind (wpAny_load ho ?_)
           rw [hc, hd]
           show wpAny M A (if (["enumerate", "zip", "dict_itemiterator", "dict_reverseitemiterator", "odict_iterator", "itertools.zip_longest", "itertools.pairwise"].contains n && vs[0]? == some (rawInt _)) = true then _ else _) Q E s
           rw [if_neg (by intro h; rw [hn, Bool.false_and] at h; cases h)]
           exact wpAny_pure hQ))
def Itt (K : PySem.W.Frag) (a : Addr) : It :=
  ⟨fun i H => ∃ xs x, SqT K H a xs ∧ xs[i]? = some x, fun i H x H' => H' = H ∧ ∀ xs, SqT K H a xs → xs[i]? = some x, fun i H => ∃ xs, SqT K H a xs ∧ xs.length ≤ i⟩
/-- lo, lo + 1, .. (n of them) -/
def Itr (lo : Int) (n : Nat) : It := ⟨fun i _ => i < n, fun i H x H' => H' = H ∧ x = .int (lo + i), fun i _ => n ≤ i⟩
theorem turn_tuple {P : Program} {w : World} {K : PySem.W.Frag} {tg : Expr} (a it : Addr) : Turn P w K tg (Itt K a) [it] it (fun i h => h.IsTupleIter it a i) where
  mem := by simp
  obj := fun i h st b hb => by
    have e : b = it := by simpa using hb
    subst e
    obtain ⟨o, e, c, d⟩ := st
    exact ⟨o, e, fun v z => by rw [d] at z; cases z⟩
  keep := fun i h h' st k => st.at fun o e => k it (by simp) o e
  item := by
    intro X hP hw hK hc i pins s σ H E I hf st hg
    subst hP hw hK
    obtain ⟨xs, x, hq, hx⟩ := hg
    obtain ⟨its, rv, p, hz⟩ := I.tuple hq
    obtain ⟨u, hu, ru⟩ := rv.get hx
    obtain ⟨f0, f1, f2, f3, f4, f5⟩ := hf it (by simp)
    refine wpAny_pyNext_tuple_item st (show s.heap.IsTuple a its.toArray from p) (x := u) (by simpa using hu) fun h' st' sb => ?_
    have I1 : Inv X pins σ H { s with heap := h' } := I.turned (t' := s.toks) (fun b o hb e => (sb.2 b hb).trans e) f0 f1 f3 f4 f5
    obtain ⟨o, e, c, d⟩ := id st'
    exact ⟨u, rfl, go_of (s := { s with heap := h' }) e c d (by decide) ⟨x, H, I1, ru, ⟨rfl, fun ys hy => by rw [I.tuple_inj hy hq]; exact hx⟩, st', fun b hb => (hf b hb).1⟩⟩
  done := by
    intro X hP hw hK hc i pins s σ H E I hf st hg
    subst hP hw hK
    obtain ⟨xs, hq, hx⟩ := hg
    obtain ⟨its, rv, p, hz⟩ := I.tuple hq
    obtain ⟨f0, f1, f2, f3, f4, f5⟩ := hf it (by simp)
    have hl := rv.length
    exact wpAny_pyNext_tuple_end (I.ok.hd hc) st (show s.heap.IsTuple a its.toArray from p) (by simp; omega) fun h' eb => ⟨rfl, I.turned (t' := s.toks) (fun b o hb e => eb b o hb e) f0 f1 f3 f4 f5⟩
  self := fun _ _ _ _ _ st h => wpAny_pyIter_tupleiter st h
theorem turn_range {P : Program} {w : World} {K : PySem.W.Frag} {tg : Expr} (it : Addr) (lo : Int) (n : Nat) : Turn P w K tg (Itr lo n) [it] it (fun i h => IsRangeIter h it (lo + (i : Nat) * 1) ((n : Int) - (i : Nat)) 1) where
  mem := by simp
  obj := fun i h st b hb => by
    have e : b = it := by simpa using hb
    subst e
    exact ⟨_, st, fun v z => by
      have z' : Data.fields _ = Data.cell v := z
      cases z'⟩
  keep := fun i h h' st k => k it (by simp) _ st
  item := by
    intro X hP hw hK hc i pins s σ H E I hf st hg
    subst hP hw hK
    obtain ⟨f0, f1, f2, f3, f4, f5⟩ := hf it (by simp)
    have W := Walks.range (prog := X.prog) (w := X.w) (I.ok.hd hc) it lo 1 n
    refine W.item i s _ _ hg st fun v h' tk hv st' kk => ?_
    obtain ⟨t, rfl⟩ := hv
    have I1 : Inv X pins σ H { s with heap := h', toks := tk } := I.turned (fun b o hb e => kk b o (by simpa using hb) e) f0 f1 f3 f4 f5
    refine ⟨_, rfl, go_of (s := { s with heap := h', toks := tk }) (n := "range_iterator") st' rfl rfl (by decide) ⟨.int (lo + i), H, I1, ⟨t, ?_⟩, ⟨rfl, rfl⟩, st', fun b hb => (hf b hb).1⟩⟩
    rw [Int.mul_one]
  done := by
    intro X hP hw hK hc i pins s σ H E I hf st hg
    subst hP hw hK
    obtain ⟨f0, f1, f2, f3, f4, f5⟩ := hf it (by simp)
    exact wpAny_pyNext_range_end (I.ok.hd hc) st (by have : n ≤ i := hg; omega) fun h' eb => ⟨rfl, I.turned (t' := s.toks) (fun b o hb e => eb b o hb e) f0 f1 f3 f4 f5⟩
  self := fun _ _ _ _ _ st h => wpAny_pyIter_rangeiter st h
end L2
namespace L2
open PySem PySem.Spec PyProof.Rows
section
variable {X : Cx} {tg : Expr}
def iTup (K : PySem.W.Frag) (tl : TE) : TI := fun σ H R => tl σ H fun x H1 => ∃ a, x = .ref a ∧ (∃ xs, SqT K H1 a xs) ∧ R (Itt K a) H1
theorem pi_tup {l : Expr} {tl : TE} (hl : PE X l tl) : PI X tg l (iTup X.K tl) := by
  intro pins s σ H R I h
  refine thn (hl pins s σ H _ I h) fun v s1 ⟨x, H1, I1, r1, q1⟩ => ?_
  obtain ⟨a, e, ⟨xs, hq⟩, q⟩ := q1
  subst e
  cases r1
  obtain ⟨its, rv, p, hz⟩ := I1.tuple hq
  refine wpAny_pyIter_tuple (show s1.heap.IsTuple a its.toArray from p) ?_
  refine ⟨s1.heap.objs.size, [s1.heap.objs.size], _, _, H1, rfl, I1.kept (t' := s1.toks) fun b o e => Heap.get?_push_of_some _ e, turn_tuple a _, ⟨_, Heap.get?_push_size _ rfl, rfl, rfl⟩, fun b hb => ?_, q⟩
  have e : b = s1.heap.objs.size := by simpa using hb
  subst e
  exact I1.fpOk (Nat.le_refl _) (I1.hok.fresh (Nat.le_refl _))
/-- a range object just made, walked -/
theorem range_it {pins : List (Addr × Obj)} {σ : St} {H : Hp} {s : Shared} {R : It → Hp → Prop} {E : Value → Shared → Prop} {lo hi : Int} {t u v : Tok} {tk : Nat} (I : Inv X pins σ H s) (h1 : -(2 ^ 62) ≤ lo) (h2 : lo < 2 ^ 62) (h3 : -(2 ^ 62) ≤ hi) (h4 : hi < 2 ^ 62)
    (q : R (Itr lo (hi - lo).toNat) H) : wpAny (model X.prog X.w) X.A (pyIter (.ref s.heap.objs.size)) (PIE X pins σ tg R) E { s with heap := s.heap.push { cls := .type "range", data := .fields #[.int lo t, .int hi u, .int 1 v] }, toks := tk } := by
  refine wpAny_pyIter_range (IsRange.new ..) (small_one h1 h2 h3 h4) ?_
  have I1 : Inv X pins σ H { s with heap := s.heap.push { cls := .type "range", data := .fields #[.int lo t, .int hi u, .int 1 v] }, toks := tk } := I.kept fun b o e => Heap.get?_push_of_some _ e
  refine ⟨(s.heap.push { cls := .type "range", data := .fields #[.int lo t, .int hi u, .int 1 v] }).objs.size, [(s.heap.push { cls := .type "range", data := .fields #[.int lo t, .int hi u, .int 1 v] }).objs.size], _, _, H, rfl,
    I1.kept (t' := tk) fun b o e => Heap.get?_push_of_some _ e, turn_range _ lo (hi - lo).toNat, ?_, fun b hb => ?_, q⟩
  · have e1 : lo + ((0 : Nat) : Int) * 1 = lo := by simp
    have e2 : (((hi - lo).toNat : Nat) : Int) - ((0 : Nat) : Int) = Builtin.Range.rangeSize lo hi 1 := by rw [rangeSize_one]; split <;> omega
    show IsRangeIter _ _ (lo + ((0 : Nat) : Int) * 1) ((((hi - lo).toNat : Nat) : Int) - ((0 : Nat) : Int)) 1
    rw [e1, e2]
    exact Heap.get?_push_size _ rfl
  · have e : b = (s.heap.push { cls := .type "range", data := .fields #[.int lo t, .int hi u, .int 1 v] }).objs.size := by simpa using hb
    subst e
    exact I1.fpOk (Nat.le_refl _) (I1.hok.fresh (Nat.le_refl _))
def iRng1 (ta : TA) : TI := fun σ H R => ta σ H fun vs H1 => ∃ j : Int, vs = [.int j] ∧ -(2 ^ 62) ≤ j ∧ j < 2 ^ 62 ∧ R (Itr 0 j.toNat) H1
theorem pi_range1 {a : Expr} {ta : TA} {p pos : Pos} (hg : Gl X "range") (hm : X.mg "range" = none) (ha : PA X [a] ta) (hs : starEach [a] X.env = [(false, eval a X.env)] := by rfl) : PI X tg (.Call (.Name "range" p) [a] [] pos) (iRng1 ta) := by
  intro pins s σ H R I h
  refine Call_ (ld_blt I hg hm boot_range (PyProof.Rows.callWith_type1 (thn (ha pos pins s σ H _ I h) fun us s1 ⟨vs, H1, I1, r1, q1⟩ => ?_) hs rfl))
  obtain ⟨j, e, q1, q2, q⟩ := q1
  subst e
  cases r1 with
  | cons r rr =>
    cases rr
    obtain ⟨t, rfl⟩ := r
    exact call_range_1 (range_it I1 (by omega) (by omega) q1 q2 (by simpa using q))
/-- W: the invariant by the turn and a measure; N: what the body is to reach -/
def tFor (wi : TI) (g : TG) (tb : TS) : TS := fun D σ H => wi σ H fun J H1 => ∃ W : Nat → Nat → St → Hp → Prop, (∃ m, W 0 m σ H1) ∧ ∀ i m σ H, W i m σ H →
  (J.stop i H ∧ D.nx σ H) ∨ (J.go i H ∧ ∃ N : St → Hp → Prop, (∀ σ' H', N σ' H' → ∃ m', m' < m ∧ W (i + 1) m' σ' H') ∧ ∀ x H', J.yld i H x H' → g x σ H' fun σ2 H2 => tb { D with nx := N, ct := N, bk := D.nx } σ2 H2)
/-- the records at fp as they stand -/
def pinsAt (fp : List Addr) (h : Heap) : List (Addr × Obj) := fp.filterMap fun b => (h.get? b).map fun o => (b, o)
theorem mem_pinsAt {fp : List Addr} {h : Heap} {b : Addr} {o : Obj} (hb : b ∈ fp) (e : h.get? b = some o) : (b, o) ∈ pinsAt fp h := List.mem_filterMap.mpr ⟨b, hb, by rw [e]; rfl⟩
theorem of_pinsAt {fp : List Addr} {h : Heap} {p : Addr × Obj} (hp : p ∈ pinsAt fp h) : p.1 ∈ fp ∧ h.get? p.1 = some p.2 := by
  obtain ⟨b, hb, e⟩ := List.mem_filterMap.mp hp
  cases q : h.get? b with
  | none => rw [q] at e; cases e
  | some o =>
    rw [q] at e
    have e' : (b, o) = p := Option.some.inj e
    subst e'
    exact ⟨hb, q⟩
theorem Inv.pinned {pins : List (Addr × Obj)} {σ : St} {H : Hp} {s : Shared} {fp : List Addr} (I : Inv X pins σ H s) (hf : ∀ b ∈ fp, FpOk X pins H b) (ho : ∀ b ∈ fp, ∃ o, s.heap.get? b = some o ∧ ∀ v, o.data ≠ .cell v) : Inv X (pins ++ pinsAt fp s.heap) σ H s :=
  I.pins_of fun p hp => (List.mem_append.mp hp).elim (fun z => I.pin p (List.mem_append_right _ z)) fun z => by
    obtain ⟨hb, e⟩ := of_pinsAt z
    obtain ⟨f0, f1, f2, _⟩ := hf p.1 hb
    obtain ⟨o, e', d⟩ := ho p.1 hb
    rw [e] at e'; cases e'
    exact ⟨e, f0, f1, f2, d⟩
theorem Inv.unpinned {pins pl : List (Addr × Obj)} {σ : St} {H : Hp} {s : Shared} (I : Inv X (pins ++ pl) σ H s) : Inv X pins σ H s := I.pins_of fun p hp => I.pin p (List.mem_append_right _ (List.mem_append_left _ hp))
theorem ps_for {iter : Expr} {body : List Stmt} {wi : TI} {g : TG} {tb : TS} {pos : Pos} (hp : PassesOwn (model X.prog X.w) X.A X.env X.xe) (hc : X.calm = true) (hi : PI X tg iter wi) (hg : PG X tg g) (hb : PSs X body tb)
    (hs : ∀ x, foldedSetIterable iter X.env x = pure x := by intro _; rfl) : PS X (.For tg iter body [] pos) (tFor wi g tb) := by
  intro pins s σ H D I h
  refine wpAny_For (thn (hi pins s σ H _ I h) fun v s1 h1 => thn h1 fun itv s2 h2 => ?_) hs
  obtain ⟨it, fp, tn, J, H2, e, I2, T, st2, f2, W, ⟨m0, w0⟩, turn⟩ := h2
  subst e
  -- what stays true of the iterator's objects through the loop
  have stat : ∀ {H' : Hp}, (∀ b ∈ fp, H' b = none) → ∀ b ∈ fp, FpOk X pins H' b := fun hn b hb => ⟨hn b hb, (f2 b hb).2⟩
  refine codeAny_forLoop_any (fun n s' => ∃ i σ' H', Inv X pins σ' H' s' ∧ tn i s'.heap ∧ (∀ b ∈ fp, H' b = none) ∧ W i n σ' H') ?_ m0 ⟨0, σ, H2, I2, st2, fun b hb => (f2 b hb).1, w0⟩
  rintro n s3 ⟨i, σ3, H3, I3, st3, fr3, w3⟩
  rcases turn i n σ3 H3 w3 with ⟨stop, qn⟩ | ⟨go, N, hN, step⟩
  · refine wpAny_passesOwn hp (thn (T.done X rfl rfl rfl hc i pins s3 σ3 H3 X.xe I3 (stat fr3) st3 stop) fun r s4 ⟨hr, I4⟩ => ?_)
    subst hr
    exact wpAny_execs_nil ⟨σ3, H3, I4, qn⟩
  · refine wpAny_passesOwn hp (thn (T.item X rfl rfl rfl hc i pins s3 σ3 H3 X.xe I3 (stat fr3) st3 go) fun r s4 ⟨u, hr, h4⟩ => ?_)
    subst hr
    refine wpAny_passesOwn hp (thn h4 fun _ s5 ⟨x, H5, I5, r5, y5, st5, fr5⟩ => ?_)
    have I5' := I5.pinned (stat fr5) (T.obj _ _ st5)
    refine wpAny_passesOwn hp (thn (hg _ s5 σ3 H5 x u _ I5' r5 (step x H5 y5)) fun _ s6 ⟨σ6, H6, I6, q6⟩ => ?_)
    refine wpAny_passesOwn hp (thn (hb _ s6 σ6 H6 _ I6 q6) fun f s7 q7 => ?_)
    have again : ∀ {σ7 : St} {H7 : Hp}, Inv X (pins ++ pinsAt fp s5.heap) σ7 H7 s7 → N σ7 H7 → ∃ m, m < n ∧ ∃ i σ' H', Inv X pins σ' H' s7 ∧ tn i s7.heap ∧ (∀ b ∈ fp, H' b = none) ∧ W i m σ' H' := fun {σ7 H7} I7 n7 => by
      obtain ⟨m', hm, w7⟩ := hN σ7 H7 n7
      refine ⟨m', hm, i + 1, σ7, H7, I7.unpinned, T.keep _ _ _ st5 fun b hb o e => (I7.pin (b, o) (List.mem_append_right _ (List.mem_append_right _ (mem_pinsAt hb e)))).1, fun b hb => ?_, w7⟩
      obtain ⟨o, e, d⟩ := T.obj _ _ st5 b hb
      exact (I7.pin (b, o) (List.mem_append_right _ (List.mem_append_right _ (mem_pinsAt hb e)))).2.1
    cases f with
    | next => obtain ⟨σ7, H7, I7, n7⟩ := q7; exact again I7 n7
    | cont => obtain ⟨σ7, H7, I7, n7⟩ := q7; exact again I7 n7
    | brk => obtain ⟨σ7, H7, I7, q7⟩ := q7; exact ⟨σ7, H7, I7.unpinned, q7⟩
    | ret v => obtain ⟨x7, σ7, H7, I7, r7, q7⟩ := q7; exact ⟨x7, σ7, H7, I7.unpinned, r7, q7⟩
end
theorem for_tup {K : PySem.W.Frag} {a : Addr} {xs : List V} {g : TG} {tb : TS} {D : Ends} {σ : St} {H : Hp} (Pv : Nat → St → Hp → Prop) (h0 : Pv 0 σ H) (hl : ∀ i σ H, i ≤ xs.length → Pv i σ H → SqT K H a xs)
    (hs : ∀ i x σ H, xs[i]? = some x → Pv i σ H → g x σ H fun σ2 H2 => tb { D with nx := Pv (i + 1), ct := Pv (i + 1), bk := D.nx } σ2 H2) (hd : ∀ σ H, Pv xs.length σ H → D.nx σ H) :
    ∃ W : Nat → Nat → St → Hp → Prop, (∃ m, W 0 m σ H) ∧ ∀ i m σ H, W i m σ H →
      ((Itt K a).stop i H ∧ D.nx σ H) ∨ ((Itt K a).go i H ∧ ∃ N : St → Hp → Prop, (∀ σ' H', N σ' H' → ∃ m', m' < m ∧ W (i + 1) m' σ' H') ∧ ∀ x H', (Itt K a).yld i H x H' → g x σ H' fun σ2 H2 => tb { D with nx := N, ct := N, bk := D.nx } σ2 H2) := by
  refine ⟨fun i m σ H => m = xs.length - i ∧ i ≤ xs.length ∧ Pv i σ H, ⟨xs.length, by simp, Nat.zero_le _, h0⟩, ?_⟩
  rintro i m σ H ⟨rfl, hi, p⟩
  have q := hl i σ H hi p
  by_cases hlt : i < xs.length
  · refine .inr ⟨⟨xs, xs[i], q, by simp [hlt]⟩, Pv (i + 1), fun σ' H' p' => ⟨xs.length - (i + 1), by omega, rfl, hlt, p'⟩, fun x H' y => ?_⟩
    obtain ⟨e, y⟩ := y
    subst e
    exact hs i x σ _ (y xs q) p
  · have e : i = xs.length := by omega
    subst e
    exact .inl ⟨⟨xs, q, Nat.le_refl _⟩, hd σ H p⟩
theorem for_range {lo : Int} {n : Nat} {g : TG} {tb : TS} {D : Ends} {σ : St} {H : Hp} (Pv : Nat → St → Hp → Prop) (h0 : Pv 0 σ H)
    (hs : ∀ i σ H, i < n → Pv i σ H → g (.int (lo + i)) σ H fun σ2 H2 => tb { D with nx := Pv (i + 1), ct := Pv (i + 1), bk := D.nx } σ2 H2) (hd : ∀ σ H, Pv n σ H → D.nx σ H) :
    ∃ W : Nat → Nat → St → Hp → Prop, (∃ m, W 0 m σ H) ∧ ∀ i m σ H, W i m σ H →
      ((Itr lo n).stop i H ∧ D.nx σ H) ∨ ((Itr lo n).go i H ∧ ∃ N : St → Hp → Prop, (∀ σ' H', N σ' H' → ∃ m', m' < m ∧ W (i + 1) m' σ' H') ∧ ∀ x H', (Itr lo n).yld i H x H' → g x σ H' fun σ2 H2 => tb { D with nx := N, ct := N, bk := D.nx } σ2 H2) := by
  refine ⟨fun i m σ H => m = n - i ∧ i ≤ n ∧ Pv i σ H, ⟨n, by simp, Nat.zero_le _, h0⟩, ?_⟩
  rintro i m σ H ⟨rfl, hi, p⟩
  by_cases hlt : i < n
  · refine .inr ⟨hlt, Pv (i + 1), fun σ' H' p' => ⟨n - (i + 1), by omega, rfl, hlt, p'⟩, fun x H' y => ?_⟩
    obtain ⟨e, y⟩ := y
    subst e y
    exact hs i σ _ hlt p
  · have e : i = n := by omega
    subst e
    exact .inl ⟨Nat.le_refl _, hd σ H p⟩
end L2
namespace L2
open PySem PySem.Spec PyProof.Rows
abbrev R2 := V → V → Hp → VK → Prop
/-- a two-place operation on values: f is binaryOp op, inplaceOp op or compareOp op -/
def OpR (X : Cx) (f : Value → Value → Sem Value) (r : R2) : Prop :=
  ∀ (pins : List (Addr × Obj)) (s : Shared) (σ : St) (H : Hp) (x y : V) (v u : Value) (Q : VK), Inv X pins σ H s → RelV x v → RelV y u → r x y H Q →
    wpAny (model X.prog X.w) X.A (f v u) (EP X pins σ Q) X.xe s
/-- a call of a value that is known (a builtin, a type) with values -/
def CallR (X : Cx) (f : Value) (r : List V → Hp → VK → Prop) : Prop :=
  ∀ (pins : List (Addr × Obj)) (s : Shared) (σ : St) (H : Hp) (xs : List V) (us : List Value) (Q : VK), Inv X pins σ H s → Vals xs us → r xs H Q →
    wpAny (model X.prog X.w) X.A (call f us) (EP X pins σ Q) X.xe s
/-- a value's truth -/
def TruR (X : Cx) (r : V → Hp → (Bool → Hp → Prop) → Prop) : Prop :=
  ∀ (pins : List (Addr × Obj)) (s : Shared) (σ : St) (H : Hp) (x : V) (v : Value) (Q : Bool → Hp → Prop), Inv X pins σ H s → RelV x v → r x H Q →
    wpAny (model X.prog X.w) X.A (truthy v) (TP X pins σ Q) X.xe s
def tOp (r : R2) (ta tb : TE) : TE := fun σ H Q => ta σ H fun x H1 => tb σ H1 fun y H2 => r x y H2 Q
/-- ints in, under C, and a value out -/
def rI (C : Int → Int → Prop) (g : Int → Int → V) : R2 := fun x y H Q => ∃ i j, x = .int i ∧ y = .int j ∧ C i j ∧ Q (g i j) H
def rI0 (g : Int → Int → V) : R2 := fun x y H Q => ∃ i j, x = .int i ∧ y = .int j ∧ Q (g i j) H
section
variable {X : Cx} {a b c : Expr} {ta tb tc : TE} {pos : Pos}
theorem binT (ha : PE X a ta) (hb : PE X b tb) {pins : List (Addr × Obj)} {s : Shared} {σ : St} {H : Hp} {R : V → V → Hp → Prop} (I : Inv X pins σ H s)
    (h : ta σ H fun x H1 => tb σ H1 fun y H2 => R x y H2) {Q : Value → Shared → Prop} {f : Value → Value → Sem Value}
    (hf : ∀ v u s2 x y H2, Inv X pins σ H2 s2 → RelV x v → RelV y u → R x y H2 → wpAny (model X.prog X.w) X.A (f v u) Q X.xe s2) :
    wpAny (model X.prog X.w) X.A (eval a X.env) (fun v s₁ => wpAny (model X.prog X.w) X.A (eval b X.env) (fun u s₂ => wpAny (model X.prog X.w) X.A (f v u) Q X.xe s₂) X.xe s₁) X.xe s := by
  refine thn (ha pins s σ H _ I h) fun v s1 ⟨x, H1, I1, r1, q1⟩ => ?_
  refine thn (hb pins s1 σ H1 _ I1 q1) fun u s2 ⟨y, H2, I2, r2, q2⟩ => ?_
  exact hf v u s2 x y H2 I2 r1 r2 q2
theorem pe_op {op : Operator} {r : R2} (ho : OpR X (binaryOp op) r) (ha : PE X a ta) (hb : PE X b tb) : PE X (.BinOp a op b pos) (tOp r ta tb) := by
  intro pins s σ H Q I h
  exact wpAny_BinOp (binT ha hb I h fun v u s2 x y H2 I2 rx ry q => ho pins s2 σ H2 x y v u Q I2 rx ry q)
theorem opI {f : Value → Value → Sem Value} {C : Int → Int → Prop} {g : Int → Int → Int}
    (rule : ∀ (i j : Int) (t u : Tok) (s : Shared) (Q : Value → Shared → Prop) (E : Value → Shared → Prop), C i j → Q (.int (g i j) s.toks) { s with toks := s.toks + 1 } → wpAny (model X.prog X.w) X.A (f (.int i t) (.int j u)) Q E s) :
    OpR X f (rI C fun i j => .int (g i j)) := by
  intro pins s σ H x y v u Q I rx ry h
  obtain ⟨i, j, rfl, rfl, hc, q⟩ := h
  obtain ⟨t, rfl⟩ := rx
  obtain ⟨t', rfl⟩ := ry
  exact rule i j t t' s _ _ hc ⟨.int (g i j), H, I.tok _, ⟨_, rfl⟩, q⟩
theorem opI0 {f : Value → Value → Sem Value} {g : Int → Int → Int}
    (rule : ∀ (i j : Int) (t u : Tok) (s : Shared) (Q : Value → Shared → Prop) (E : Value → Shared → Prop), Q (.int (g i j) s.toks) { s with toks := s.toks + 1 } → wpAny (model X.prog X.w) X.A (f (.int i t) (.int j u)) Q E s) :
    OpR X f (rI0 fun i j => .int (g i j)) := by
  intro pins s σ H x y v u Q I rx ry h
  obtain ⟨i, j, rfl, rfl, q⟩ := h
  obtain ⟨t, rfl⟩ := rx
  obtain ⟨t', rfl⟩ := ry
  exact rule i j t t' s _ _ ⟨.int (g i j), H, I.tok _, ⟨_, rfl⟩, q⟩
theorem opB0 {f : Value → Value → Sem Value} {g : Int → Int → Bool}
    (rule : ∀ (i j : Int) (t u : Tok) (s : Shared) (Q : Value → Shared → Prop) (E : Value → Shared → Prop), Q (.bool (g i j)) s → wpAny (model X.prog X.w) X.A (f (.int i t) (.int j u)) Q E s) :
    OpR X f (rI0 fun i j => .bl (g i j)) := by
  intro pins s σ H x y v u Q I rx ry h
  obtain ⟨i, j, rfl, rfl, q⟩ := h
  obtain ⟨t, rfl⟩ := rx
  obtain ⟨t', rfl⟩ := ry
  exact rule i j t t' s _ _ ⟨.bl (g i j), H, I, rfl, q⟩
def CDiv (i j : Int) : Prop := 0 < j ∧ j < 1073741824
def CMul (i j : Int) : Prop := (-(2 ^ 64) < i ∧ i < 2 ^ 64) ∨ (-(2 ^ 64) < j ∧ j < 2 ^ 64)
theorem CMul.ok {i j : Int} (h : CMul i j) : IntMulOk i j := by
  rcases h with ⟨h1, h2⟩ | ⟨h1, h2⟩
  · exact .of_left (intBits_le_64 h1 h2)
  · exact .of_right (intBits_le_64 h1 h2)
theorem op_add : OpR X (binaryOp .Add) (rI0 fun i j => .int (i + j)) := opI0 fun _ _ _ _ _ _ _ q => add_int q
theorem op_sub : OpR X (binaryOp .Sub) (rI0 fun i j => .int (i - j)) := opI0 fun _ _ _ _ _ _ _ q => sub_int q
theorem op_mul : OpR X (binaryOp .Mult) (rI CMul fun i j => .int (i * j)) := opI fun _ _ _ _ _ _ _ hc q => mul_int q hc.ok
/-- // by a positive divisor -/
theorem op_fdiv : OpR X (binaryOp .FloorDiv) (rI CDiv fun i j => .int (i / j)) := opI fun i j _ _ _ _ _ hc q => by
  have h1 : (0 : Int) < j := hc.1
  have h2 : j < 1073741824 := hc.2
  exact floordiv_int (by omega) (by rw [Int.fdiv_eq_ediv_of_nonneg i (by omega)]; exact q) (.inl (PyProof.noPylong_small (by omega)))
/-- % by a positive divisor of any size -/
theorem op_mod : OpR X (binaryOp .Mod) (rI (fun _ j => 0 < j) fun i j => .int (i % j)) := opI fun i j _ _ _ _ _ hc q => by
  have h1 : (0 : Int) < j := hc
  exact mod_int' (by omega) (by rw [Int.fmod_eq_emod_of_nonneg i (by omega)]; exact q)
end
/-- the scalars that == tells apart as data does -/
def scal : V → V → Bool
  | .non, .non => true | .non, .int _ => true | .int _, .non => true | .non, .bl _ => true | .bl _, .non => true | .non, .str _ => true | .str _, .non => true
  | .int _, .int _ => true | .bl _, .bl _ => true | .str _, .str _ => true | .byt _, .byt _ => true
  | .int _, .str _ => true | .str _, .int _ => true | .bl _, .str _ => true | .str _, .bl _ => true
  | _, _ => false
def rEq : R2 := fun x y H Q => scal x y = true ∧ Q (.bl (decide (x = y))) H
def rNe : R2 := fun x y H Q => scal x y = true ∧ Q (.bl (!decide (x = y))) H
theorem dec_int {i j : Int} : decide (V.int i = V.int j) = (i == j) := by
  rw [Bool.eq_iff_iff]
  simp
theorem dec_bl {i j : Bool} : decide (V.bl i = V.bl j) = (i == j) := by
  rw [Bool.eq_iff_iff]
  simp
theorem dec_str {i j : Str} : decide (V.str i = V.str j) = (i == j) := by
  rw [Bool.eq_iff_iff]
  simp
theorem dec_byt {i j : Array UInt8} : decide (V.byt i = V.byt j) = (i.toList == j.toList) := by
  rw [Bool.eq_iff_iff]
  cases i
  cases j
  simp
section
variable {X : Cx} {a b c : Expr} {ta tb tc : TE} {pos : Pos}
theorem fin_bl {pins : List (Addr × Obj)} {σ : St} {H : Hp} {s : Shared} {Q : VK} {k k' : Bool} (I : Inv X pins σ H s) (q : Q (.bl k) H) (e : k = k') : EP X pins σ Q (.bool k') s := by
  subst e
  exact ⟨.bl k, H, I, rfl, q⟩
theorem op_eq : OpR X (compareOp .Eq) rEq := by
  intro pins s σ H x y v u Q I rx ry h
  obtain ⟨hs, q⟩ := h
  cases x with
  | non =>
    cases rx
    cases y with
    | non => cases ry; exact PySem.EqNone.eq_none_none (fin_bl I q (by simp))
    | bl j => cases ry; exact PySem.EqNone.eq_none_bool (fin_bl I q (by simp))
    | int j => obtain ⟨t', rfl⟩ := ry; exact PySem.EqNone.eq_none_int (fin_bl I q (by simp))
    | str j => obtain ⟨t', rfl⟩ := ry; exact PySem.EqNone.eq_none_str (fin_bl I q (by simp))
    | _ => exact absurd (show false = true from hs) Bool.false_ne_true
  | bl i =>
    cases rx
    cases y with
    | non => cases ry; exact PySem.EqNone.eq_bool_none (fin_bl I q (by simp))
    | bl j => cases ry; exact eq_bool (fin_bl I q dec_bl)
    | str j => obtain ⟨t', rfl⟩ := ry; exact PySem.EqMixed.eq_bool_str (fin_bl I q (by simp))
    | _ => exact absurd (show false = true from hs) Bool.false_ne_true
  | int i =>
    obtain ⟨t, rfl⟩ := rx
    cases y with
    | non => cases ry; exact PySem.EqNone.eq_int_none (fin_bl I q (by simp))
    | int j => obtain ⟨t', rfl⟩ := ry; exact eq_int (fin_bl I q dec_int)
    | str j => obtain ⟨t', rfl⟩ := ry; exact PySem.EqMixed.eq_int_str (fin_bl I q (by simp))
    | _ => exact absurd (show false = true from hs) Bool.false_ne_true
  | str i =>
    obtain ⟨t, rfl⟩ := rx
    cases y with
    | non => cases ry; exact PySem.EqNone.eq_str_none (fin_bl I q (by simp))
    | bl j => cases ry; exact PySem.EqMixed.eq_str_bool (fin_bl I q (by simp))
    | int j => obtain ⟨t', rfl⟩ := ry; exact PySem.EqMixed.eq_str_int (fin_bl I q (by simp))
    | str j => obtain ⟨t', rfl⟩ := ry; exact eq_str (fin_bl I q dec_str)
    | _ => exact absurd (show false = true from hs) Bool.false_ne_true
  | byt i =>
    obtain ⟨t, rfl⟩ := rx
    cases y with
    | byt j => obtain ⟨t', rfl⟩ := ry; exact PySem.W.eq_bytes (fin_bl I q dec_byt)
    | _ => exact absurd (show false = true from hs) Bool.false_ne_true
  | _ => cases y <;> exact absurd (show false = true from hs) Bool.false_ne_true
theorem op_ne : OpR X (compareOp .NotEq) rNe := by
  intro pins s σ H x y v u Q I rx ry h
  obtain ⟨hs, q⟩ := h
  cases x with
  | non =>
    cases rx
    cases y with
    | non => cases ry; exact PySem.EqNone.ne_none_none (fin_bl I q (by simp))
    | bl j => cases ry; exact PySem.EqNone.ne_none_bool (fin_bl I q (by simp))
    | int j => obtain ⟨t', rfl⟩ := ry; exact PySem.EqNone.ne_none_int (fin_bl I q (by simp))
    | str j => obtain ⟨t', rfl⟩ := ry; exact PySem.EqNone.ne_none_str (fin_bl I q (by simp))
    | _ => exact absurd (show false = true from hs) Bool.false_ne_true
  | bl i =>
    cases rx
    cases y with
    | non => cases ry; exact PySem.EqNone.ne_bool_none (fin_bl I q (by simp))
    | bl j => cases ry; exact ne_bool (fin_bl I q (congrArg not dec_bl))
    | str j => obtain ⟨t', rfl⟩ := ry; exact PySem.EqMixed.ne_bool_str (fin_bl I q (by simp))
    | _ => exact absurd (show false = true from hs) Bool.false_ne_true
  | int i =>
    obtain ⟨t, rfl⟩ := rx
    cases y with
    | non => cases ry; exact PySem.EqNone.ne_int_none (fin_bl I q (by simp))
    | int j => obtain ⟨t', rfl⟩ := ry; exact ne_int (fin_bl I q (congrArg not dec_int))
    | str j => obtain ⟨t', rfl⟩ := ry; exact PySem.EqMixed.ne_int_str (fin_bl I q (by simp))
    | _ => exact absurd (show false = true from hs) Bool.false_ne_true
  | str i =>
    obtain ⟨t, rfl⟩ := rx
    cases y with
    | non => cases ry; exact PySem.EqNone.ne_str_none (fin_bl I q (by simp))
    | bl j => cases ry; exact PySem.EqMixed.ne_str_bool (fin_bl I q (by simp))
    | int j => obtain ⟨t', rfl⟩ := ry; exact PySem.EqMixed.ne_str_int (fin_bl I q (by simp))
    | str j => obtain ⟨t', rfl⟩ := ry; exact ne_str (fin_bl I q (congrArg not dec_str))
    | _ => exact absurd (show false = true from hs) Bool.false_ne_true
  | byt i =>
    obtain ⟨t, rfl⟩ := rx
    cases y with
    | byt j => obtain ⟨t', rfl⟩ := ry; exact PySem.W.ne_bytes (fin_bl I q (congrArg not dec_byt))
    | _ => exact absurd (show false = true from hs) Bool.false_ne_true
  | _ => cases y <;> exact absurd (show false = true from hs) Bool.false_ne_true
theorem op_lt : OpR X (compareOp .Lt) (rI0 fun i j => .bl (decide (i < j))) := opB0 fun _ _ _ _ _ _ _ q => lt_int q
theorem op_le : OpR X (compareOp .LtE) (rI0 fun i j => .bl (decide (i ≤ j))) := opB0 fun _ _ _ _ _ _ _ q => le_int q
theorem op_gt : OpR X (compareOp .Gt) (rI0 fun i j => .bl (decide (j < i))) := opB0 fun _ _ _ _ _ _ _ q => gt_int q
theorem op_ge : OpR X (compareOp .GtE) (rI0 fun i j => .bl (decide (j ≤ i))) := opB0 fun _ _ _ _ _ _ _ q => ge_int q
theorem nomark (b : Expr) {op : CmpOp} (h : op ≠ .In := by decide) (h2 : op ≠ .NotIn := by decide) : behindInMarks op b = false := by
  have e1 : (op == CmpOp.In) = false := by cases op <;> first | rfl | exact absurd rfl h
  have e2 : (op == CmpOp.NotIn) = false := by cases op <;> first | rfl | exact absurd rfl h2
  cases b <;> simp [behindInMarks, e1, e2]
/-- a comparison as a value; hm: nomark b, or (for in, not in) by with_unfolding_all rfl -/
theorem pe_cmpR {op : CmpOp} {r : R2} (ho : OpR X (compareOp op) r) (ha : PE X a ta) (hb : PE X b tb) (hm : behindInMarks op b = false) : PE X (.Compare a [op] [b] pos) (tOp r ta tb) := by
  intro pins s σ H Q I h
  exact wpAny_Compare1 (binT ha hb I h fun v u s2 x y H2 I2 rx ry q => ho pins s2 σ H2 x y v u Q I2 rx ry q) hm
/-- a reading of a value as a test -/
def tTest (t : TE) : TT := fun σ H Q => t σ H fun x H' => ∃ k, x = .bl k ∧ Q k H'
theorem pt_cmpR {op : CmpOp} {r : R2} (ho : OpR X (compareOp op) r) (ha : PE X a ta) (hb : PE X b tb) (hm : behindInMarks op b = false) : PT X (.Compare a [op] [b] pos) (tTest (tOp r ta tb)) := by
  intro pins s σ H Q I h
  refine wpAny_isTrue_Compare1 (thn (ha pins s σ H _ I h) fun v s1 ⟨x, H1, I1, r1, q1⟩ => thn (hb pins s1 σ H1 _ I1 q1) fun u s2 ⟨y, H2, I2, r2, q2⟩ =>
    thn (ho pins s2 σ H2 x y v u _ I2 r1 r2 q2) fun c s3 ⟨z, H3, I3, r3, k, e, q3⟩ => ?_) hm
  subst e
  cases r3
  exact wpAny_truthy_bool ⟨H3, I3, q3⟩
/-- a value's truth by the abstract heap -/
def TruV (K : PySem.W.Frag) (x : V) (H : Hp) (k : Bool) : Prop :=
  match x with
  | .non => k = false
  | .bl b => k = b
  | .int i => k = (i != 0)
  | .str y => y.length ≤ sizeLine ∧ k = ((y.length : Int) != 0)
  | .byt y => y.size ≤ sizeLine ∧ k = ((y.size : Int) != 0)
  | .ref p => (∃ xs, SqL K H p xs ∧ k = !xs.isEmpty) ∨ (∃ xs, SqT K H p xs ∧ k = !xs.isEmpty) ∨ ∃ kvs, H p = some (.dK kvs) ∧ k = !kvs.isEmpty
  | _ => False
theorem isEmpty_kv {κ : Type} {kvs : List (κ × V)} {vs : List (κ × Value)} (r : KV kvs vs) : (!vs.isEmpty) = !kvs.isEmpty := by
  cases r <;> rfl
theorem isEmpty_of {xs : List V} {its : List Value} (r : Vals xs its) : (!its.toArray.isEmpty) = !xs.isEmpty := by
  cases r <;> simp
theorem line63 : (sizeLine : Nat) < 2 ^ 63 := by rw [sizeLine_eq]; decide
theorem tru_ok : TruR X (fun x H Q => ∃ k, TruV X.K x H k ∧ Q k H) := by
  intro pins s σ H x v Q I rx h
  obtain ⟨k, e, q⟩ := h
  have hl := line63
  have hs : sizeLine = 16777216 := sizeLine_eq
  cases x with
  | non =>
    cases rx
    have e' : k = false := e
    subst e'
    exact truthy_none ⟨H, I, q⟩
  | bl b =>
    cases rx
    have e' : k = b := e
    subst e'
    exact wpAny_truthy_bool ⟨H, I, q⟩
  | int i =>
    obtain ⟨t, rfl⟩ := rx
    have e' : k = (i != 0) := e
    subst e'
    exact PySem.P.truthy_int ⟨H, I, q⟩
  | str y =>
    obtain ⟨t, rfl⟩ := rx
    obtain ⟨hy, e'⟩ : y.length ≤ sizeLine ∧ k = ((y.length : Int) != 0) := e
    subst e'
    exact PySem.P.truthy_str (by omega) ⟨H, I.tok _, q⟩
  | byt y =>
    obtain ⟨t, rfl⟩ := rx
    obtain ⟨hy, e'⟩ : y.size ≤ sizeLine ∧ k = ((y.size : Int) != 0) := e
    subst e'
    exact PySem.W.truthy_bytes (by omega) ⟨H, I.tok _, q⟩
  | ref p =>
    cases rx
    have e' : (∃ xs, SqL X.K H p xs ∧ k = !xs.isEmpty) ∨ (∃ xs, SqT X.K H p xs ∧ k = !xs.isEmpty) ∨ ∃ kvs, H p = some (.dK kvs) ∧ k = !kvs.isEmpty := e
    rcases e' with ⟨xs, hx, e'⟩ | ⟨xs, hx, e'⟩ | ⟨kvs, hx, e'⟩
    · subst e'
      obtain ⟨its, r, pl, hz⟩ := I.list hx
      have hlen := r.length
      exact wpAny_truthy_list pl.isList (by simp only [List.size_toArray]; omega) ⟨H, I.tok _, by rw [isEmpty_of r]; exact q⟩
    · subst e'
      obtain ⟨its, r, pl, hz⟩ := I.tuple hx
      have hlen := r.length
      exact truthy_tuple pl (by simp only [List.size_toArray]; omega) ⟨H, I.tok _, by rw [isEmpty_of r]; exact q⟩
    · subst e'
      obtain ⟨hz, hS, vs, r, m⟩ : kvs.length ≤ sizeLine ∧ (p == sysModules) = false ∧ ∃ vs, KV kvs vs ∧ s.heap.DictOf (mixKind X.prog X.w) p vs := I.hok p _ hx
      have hlen : kvs.length = vs.length := Paired.length r
      exact wpAny_truthy_dict hS m (by omega) ⟨H, I.tok _, by rw [isEmpty_kv r]; exact q⟩
  | _ => exact (show False from e).elim
/-- any expression whose test is its value's truth (a name, a call, a subscript, a field ..: he by fun _ => rfl) -/
theorem pt_truth (ha : PE X a ta) (he : ∀ whole, isTrue a X.env whole = (do let v ← whole; standAt a.pos; holding [v] (truthy v))) :
    PT X a (fun σ H Q => ta σ H fun x H' => ∃ k, TruV X.K x H' k ∧ Q k H') := by
  intro pins s σ H Q I h
  exact isTrue_plain (thn (ha pins s σ H _ I h) fun v s1 ⟨x, H1, I1, r1, q1⟩ => tru_ok pins s1 σ H1 x v Q I1 r1 q1) (he _)
theorem vals1 {x : V} {us : List Value} (r : Vals [x] us) : ∃ u, us = [u] ∧ RelV x u := by
  cases r with
  | cons r1 r2 => cases r2; exact ⟨_, rfl, r1⟩
theorem vals2 {x y : V} {us : List Value} (r : Vals [x, y] us) : ∃ u w', us = [u, w'] ∧ RelV x u ∧ RelV y w' := by
  cases r with
  | cons r1 r2 =>
    cases r2 with
    | cons r3 r4 => cases r4; exact ⟨_, _, rfl, r1, r3⟩
end
end L2
namespace L2
open PySem PySem.Spec PyProof.Rows
structure ObjM (h : Heap) (x dx C : Addr) (mA : Str → Option Value) : Prop where
  obj : h.get? x = some (PySem.W.instObj C dx)
  ns : h.Ns1 dx mA
  ne : dx ≠ x
theorem lookIn_ns {h : Heap} {dx : Addr} {mA : Str → Option Value} (n : h.Ns1 dx mA) : ∃ od, h.get? dx = some od ∧ ∀ name, PySem.W.lookIn name od = some (mA name) := by
  obtain ⟨o, es, ep, ho, hd, hk, _, hm⟩ := n
  refine ⟨o, ho, fun name => ?_⟩
  have e := hm name
  unfold nsFind findBy at e
  rw [← Array.find?_toList] at e
  unfold PySem.W.lookIn
  rw [hd]
  dsimp only
  split
  · rename_i y q
    rw [q] at e
    exact congrArg some e
  · rename_i q
    rw [q] at e
    have a : es.toList.any (·.refKey) = false := by
      rw [List.any_eq_false]
      intro y hy
      obtain ⟨z, t, hkey⟩ := hk y (Array.mem_toList_iff.mp hy)
      simp [DictEntry.refKey, hkey]
    have a' : ¬ es.toList.any (·.refKey) = true := by rw [a]; exact Bool.false_ne_true
    rw [if_neg a']
    exact congrArg some e
theorem ObjM.look {h : Heap} {x dx C : Addr} {mA : Str → Option Value} (I : ObjM h x dx C mA) : ∃ od, PySem.W.InstAt h x (PySem.W.instObj C dx) C (some od) ∧ ∀ name, PySem.W.lookIn name od = some (mA name) :=
  let ⟨od, ho, hl⟩ := lookIn_ns I.ns
  ⟨od, ⟨I.obj, rfl, rfl, ho⟩, hl⟩
section
variable {prog : Program} {w : World} {A : Around} {E : Value → Shared → Prop} {s : Shared} {K : PySem.W.Frag} {x dx C f : Addr} {mA : Str → Option Value} {name : Str} {v : Value}
theorem get_map {expr : Bool} {Q : Value → Shared → Prop} (X : K.In s.heap) (I : ObjM s.heap x dx C mA) (hg : PySem.W.plainGet K C name = true) (hh : PySem.W.hasDictIn K C = true)
    (ha : PySem.W.findIn K (.ref C) name = some none) (hv : mA name = some v) (hv' : PySem.W.handedIn v = true) (h : Q v { s with toks := s.toks + 1 }) :
    wpAny (model prog w) A (getAttr (.ref x) name expr) Q E s := by
  obtain ⟨od, J, hl⟩ := I.look
  exact PySem.W.get_value X J (PySem.W.plainGet_of hg).1 (PySem.W.findObj_own hh ha rfl (by rw [hl, hv])) hv' h
theorem get_meth {pl : Sem Bool} {Q : Value × List Value → Shared → Prop} (X : K.In s.heap) (I : ObjM s.heap x dx C mA) (hg : PySem.W.plainGet K C name = true)
    (hf : PySem.W.findIn K (.ref C) name = some (some (.ref f))) (ht : PySem.W.isFn K (.ref f) = true) (hv : mA name = none) (h : Q (.ref f, [.ref x]) s) :
    wpAny (model prog w) A (getMethod (.ref x) name pl) Q E s := by
  obtain ⟨od, J, hl⟩ := I.look
  exact PySem.W.method_fn X J (PySem.W.plainGet_of hg).1 (PySem.W.plainGet_of hg).2 hf (beq_iff_eq.mp ht) (by show (PySem.W.lookIn name od).map (·.isSome) = some false; rw [hl, hv]; rfl) h
theorem set_map {ns : List Str} {Q : Unit → Shared → Prop} (X : K.In s.heap) (I : ObjM s.heap x dx C mA)
    (hs : PySem.W.findIn K (.ref C) "__setattr__" = some (some (.builtin "object.__setattr__"))) (hp : PySem.W.plainOver K C = true) (ht : PySem.W.takerIn K C name = some none) (hh : PySem.W.hasDictIn K C = true)
    (hw : PySem.Within mA ns) (hsz : ns.length ≤ sizeLine)
    (h : ∀ h', ObjM h' x dx C (fun y => if y = name then some v else mA y) → Heap.SameBut dx s.heap h' → Q () { s with heap := h', toks := s.toks + 2 }) :
    wpAny (model prog w) A (setAttr (.ref x) name v) Q E s := by
  obtain ⟨od, J, hl⟩ := I.look
  refine PySem.W.set_plain X J hs (PySem.W.osa_open (s := { s with toks := s.toks + 1 }) (r := none) X J hp ht fun b => ?_)
  obtain ⟨cd, hc, hd'⟩ := PySem.W.any_some hh
  have hx : s.heap.get? x = some ⟨.ref C, some dx, .plain, #[]⟩ := I.obj
  refine wpAny_bind (wpAny_pure (wpAny_bind (wpAny_bind (wpAny_loadPart hx (wpAny_bind (PySem.W.Looks.here (s := { s with toks := s.toks + 1 }) (PySem.W.looks_clsIn X hc) ?_))))))
  rw [hd']
  refine wpAny_pure (a := some dx) (wpAny_bind (wpAny_pure (wpAny_bind ?_)))
  refine wpAny_nsSet1 (s := { s with toks := s.toks + 1 }) I.ns fun h' hn2 hs2 => ?_
  obtain ⟨oD, esD, epD, hoD, hdD, hcD⟩ := hn2.count (PySem.Within.cons name v hw)
  refine wpAny_bind (wpAny_lookBehind hoD (by rw [hdD]; exact pastItsLine_dict (Nat.le_trans hcD (by rw [List.length_cons]; omega))) ?_)
  exact wpAny_pure (h _ ⟨(hs2.2 _ (Ne.symm I.ne)).trans I.obj, hn2, I.ne⟩ hs2)
/-- C(..): the dict at the heap's end, the instance behind it; then its __init__ -/
theorem make_map {R : Result → Shared → Prop} {vs : List Value} {kw : List (Str × Value)} (X : K.In s.heap) (hm : PySem.W.makesIn K C = true)
    (hi : PySem.W.findIn K (.ref C) "__init__" = some (some (.ref f))) (hf : PySem.W.typeIn K (.ref f) = some (.type "function"))
    (h : codeAny (model prog w) (A.under (.builtin "type.__call__" ⟨.ref C :: vs, kw⟩)) (.call (.ref f) ⟨.ref (s.heap.objs.size + 1) :: vs, kw⟩) (PySem.W.InitBack (s.heap.objs.size + 1) R)
      { s with heap := (s.heap.push PySem.W.emptyDict).push (PySem.W.instObj C s.heap.objs.size) }) :
    codeAny (model prog w) A (.call (.ref C) ⟨vs, kw⟩) R s := by
  obtain ⟨hh, g, d, t, os⟩ := s
  exact PySem.W.make_core (PySem.W.makes_of X hm) (PySem.W.looks_findIn X hi) (fun self => PySem.W.bind_fn X self hf) (.inl rfl) h
end
def putF (f : Str) (v : V) : List (Str × V) → List (Str × V)
  | [] => [(f, v)]
  | (g, x) :: r => if g = f then (g, v) :: r else (g, x) :: putF f v r
theorem lookup_putF (f g : Str) (v : V) : ∀ fs : List (Str × V), (putF f v fs).lookup g = if g = f then some v else fs.lookup g
  | [] => by
    show List.lookup g [(f, v)] = _
    by_cases h : g = f
    · have hb : (g == f) = true := beq_iff_eq.mpr h
      simp only [List.lookup, hb, if_pos h]
    · have hb : (g == f) = false := beq_eq_false_iff_ne.mpr h
      simp only [List.lookup, hb, if_neg h]
  | (k, x) :: r => by
    have ih := lookup_putF f g v r
    rw [show putF f v ((k, x) :: r) = (if k = f then (k, v) :: r else (k, x) :: putF f v r) from rfl]
    by_cases hk : k = f
    · rw [if_pos hk]
      by_cases h : g = k
      · have hb : (g == k) = true := beq_iff_eq.mpr h
        simp only [List.lookup, hb, if_pos (h.trans hk)]
      · have hb : (g == k) = false := beq_eq_false_iff_ne.mpr h
        simp only [List.lookup, hb, if_neg (fun e : g = f => h (e.trans hk.symm))]
    · rw [if_neg hk]
      by_cases h : g = k
      · have hb : (g == k) = true := beq_iff_eq.mpr h
        simp only [List.lookup, hb, if_neg (fun e : g = f => hk (h.symm.trans e))]
      · have hb : (g == k) = false := beq_eq_false_iff_ne.mpr h
        simp only [List.lookup, hb]
        exact ih
theorem keys_putF (f : Str) (v : V) : ∀ fs : List (Str × V), f ∈ (putF f v fs).map (·.1) ∧ ∀ g, g ∈ fs.map (·.1) → g ∈ (putF f v fs).map (·.1)
  | [] => ⟨by simp [putF], fun g h => by simp at h⟩
  | (k, x) :: r => by
    obtain ⟨i1, i2⟩ := keys_putF f v r
    rw [show putF f v ((k, x) :: r) = (if k = f then (k, v) :: r else (k, x) :: putF f v r) from rfl]
    by_cases hk : k = f
    · rw [if_pos hk]
      subst hk
      exact ⟨by simp, fun g h => by simpa using h⟩
    · rw [if_neg hk]
      refine ⟨?_, fun g h => ?_⟩
      · rw [List.map_cons]
        exact List.mem_cons_of_mem _ i1
      · rw [List.map_cons] at h ⊢
        rcases List.mem_cons.mp h with e | e
        · exact List.mem_cons.mpr (.inl e)
        · exact List.mem_cons_of_mem _ (i2 g e)
theorem length_putF (f : Str) (v : V) : ∀ fs : List (Str × V), (putF f v fs).length ≤ fs.length + 1
  | [] => by simp [putF]
  | (k, x) :: r => by
    have ih := length_putF f v r
    rw [show putF f v ((k, x) :: r) = (if k = f then (k, v) :: r else (k, x) :: putF f v r) from rfl]
    by_cases hk : k = f
    · rw [if_pos hk, List.length_cons, List.length_cons]; omega
    · rw [if_neg hk, List.length_cons, List.length_cons]; omega
theorem RelO.some_of {v : V} {o : Option Value} (r : RelO (some v) o) : ∃ u, o = some u ∧ RelV v u := by
  cases o with
  | none => exact (show False from r).elim
  | some u => exact ⟨u, rfl, r⟩
theorem RelO.none_of {o : Option Value} (r : RelO none o) : o = none := by
  cases o with
  | none => rfl
  | some u => exact (show False from r).elim
theorem handed_of {v : V} {u : Value} (r : RelV v u) : PySem.W.handedIn u = true := by
  cases v with
  | non => cases (show u = Value.none from r); rfl
  | bl b => cases (show u = Value.bool b from r); rfl
  | int i => obtain ⟨t, e⟩ := (show ∃ t, u = Value.int i t from r); cases e; rfl
  | str x => obtain ⟨t, e⟩ := (show ∃ t, u = Value.str x t from r); cases e; rfl
  | byt b => obtain ⟨t, e⟩ := (show ∃ t, u = Value.bytes b t from r); cases e; rfl
  | flt b => obtain ⟨t, e⟩ := (show ∃ t, u = Value.float b t from r); cases e; rfl
  | ref a => cases (show u = Value.ref a from r); rfl
  | ty n => cases (show u = Value.type n from r); rfl
section
variable {P : Program} {w : World} {H H' : Hp} {h h' : Heap} {a C dx : Addr} {fs fs' : List (Str × V)}
theorem ins_get (hok : HOk P w H h) (e : H a = some (.ins C dx fs)) : ∃ mA, ObjM h a dx C mA ∧ (∀ f, RelO (fs.lookup f) (mA f)) ∧ PySem.Within mA (fs.map (·.1)) ∧ fs.length ≤ 1000 ∧ H dx = some (.own a) := by
  obtain ⟨d, z, ne, ob, mA, n, r, q⟩ := (show ObjOk P w H h a (.ins C dx fs) from hok a _ e)
  exact ⟨mA, ⟨ob, n, ne⟩, r, q, z, d⟩
end
structure Cls (K : PySem.W.Frag) (C : Addr) : Prop where
  pg : PySem.W.plainGet K C Str.empty = true
  hd : PySem.W.hasDictIn K C = true
  po : PySem.W.plainOver K C = true
  sa : PySem.W.findIn K (.ref C) "__setattr__" = some (some (.builtin "object.__setattr__"))
theorem Cls.get {K : PySem.W.Frag} {C : Addr} (c : Cls K C) (f : Str) : PySem.W.plainGet K C f = true := c.pg
/-- no class of it has the name -/
def NoAttr (K : PySem.W.Frag) (C : Addr) (f : Str) : Prop := PySem.W.findIn K (.ref C) f = some none
theorem NoAttr.taker {K : PySem.W.Frag} {C : Addr} {f : Str} (n : NoAttr K C f) : PySem.W.takerIn K C f = some none := by
  unfold PySem.W.takerIn
  rw [show PySem.W.findIn K (.ref C) f = some none from n]
  rfl
/-- a method: a plain def of the class or of one above it -/
structure Meth (K : PySem.W.Frag) (C : Addr) (m : Str) (f : Addr) : Prop where
  at_ : PySem.W.findIn K (.ref C) m = some (some (.ref f))
  fn : PySem.W.isFn K (.ref f) = true
  kp : PySem.W.keepIn K (.ref f) = true
section
variable {X : Cx} {pins : List (Addr × Obj)} {σ : St} {H : Hp} {s : Shared} {a C dx : Addr} {fs : List (Str × V)} {f : Str} {v : V} {A : Around} {E : Value → Shared → Prop}
theorem getattr_ok {b : Bool} {Q : Value → Shared → Prop} (I : Inv X pins σ H s) (e : H a = some (.ins C dx fs)) (c : Cls X.K C) (n : NoAttr X.K C f) (l : fs.lookup f = some v)
    (h : ∀ u s', Inv X pins σ H s' → RelV v u → Q u s') : wpAny (model X.prog X.w) A (getAttr (.ref a) f b) Q E s := by
  obtain ⟨mA, O, r, _, _, _⟩ := ins_get I.hok e
  obtain ⟨u, hu, ru⟩ := RelO.some_of (v := v) (o := mA f) (by rw [← l]; exact r f)
  exact get_map I.kIn O (c.get f) c.hd n hu (handed_of ru) (h u _ (I.tok _) ru)
theorem getmeth_ok {m : Str} {g : Addr} {pl : Sem Bool} {Q : Value × List Value → Shared → Prop} (I : Inv X pins σ H s) (e : H a = some (.ins C dx fs)) (c : Cls X.K C) (k : Meth X.K C m g) (l : fs.lookup m = none)
    (h : Q (.ref g, [.ref a]) s) : wpAny (model X.prog X.w) A (getMethod (.ref a) m pl) Q E s := by
  obtain ⟨mA, O, r, _, _, _⟩ := ins_get I.hok e
  have hn : mA m = none := RelO.none_of (by rw [← l]; exact r m)
  exact get_meth I.kIn O (c.get m) k.at_ k.fn hn h
theorem setattr_ok {y : V} {u : Value} {Q : Unit → Shared → Prop} (I : Inv X pins σ H s) (e : H a = some (.ins C dx fs)) (c : Cls X.K C) (n : NoAttr X.K C f) (hl : fs.length < 1000) (ry : RelV y u)
    (h : ∀ s', Inv X pins σ (upd H a (.ins C dx (putF f y fs))) s' → Q () s') : wpAny (model X.prog X.w) A (setAttr (.ref a) f u) Q E s := by
  obtain ⟨mA, O, r, wi, _, ho⟩ := ins_get I.hok e
  have hz : (fs.map (·.1)).length ≤ sizeLine := by rw [List.length_map, sizeLine_eq]; omega
  refine set_map I.kIn O c.sa c.po n.taker c.hd wi hz fun h' O' sb => h _ ?_
  have hd : ∃ o, h'.get? dx = some o := let ⟨o, _, _, e', _⟩ := O'.ns; ⟨o, e'⟩
  refine I.write (x := a) (e := dx) (by rw [e]; exact True.intro) (.inr ho) (fun b q hb z => (sb.2 b hb).trans z) hd ?_
  refine ⟨by rw [upd_ne O.ne]; exact ho, ?_, O.ne, O'.obj, _, O'.ns, fun g => ?_, fun g hg => ?_⟩
  · have := length_putF f y fs; omega
  · show RelO ((putF f y fs).lookup g) (if g = f then some u else mA g)
    rw [lookup_putF]
    by_cases q : g = f
    · rw [if_pos q, if_pos q]; exact ry
    · rw [if_neg q, if_neg q]; exact r g
  · by_cases q : g = f
    · rw [q]; exact (keys_putF f y fs).1
    · refine (keys_putF f y fs).2 g (wi g fun z => hg ?_)
      show (if g = f then some u else mA g) = none
      rw [if_neg q]; exact z
/-- a new instance, tracked, without attributes -/
theorem Inv.made (I : Inv X pins σ H s) : Inv X pins σ (upd (upd H s.heap.objs.size (.own (s.heap.objs.size + 1))) (s.heap.objs.size + 1) (.ins C s.heap.objs.size []))
    { s with heap := (s.heap.push PySem.W.emptyDict).push (PySem.W.instObj C s.heap.objs.size) } := by
  have e1 : (s.heap.push PySem.W.emptyDict).get? s.heap.objs.size = some PySem.W.emptyDict := Heap.get?_push_size s.heap rfl
  have e2 : ((s.heap.push PySem.W.emptyDict).push (PySem.W.instObj C s.heap.objs.size)).get? (s.heap.objs.size + 1) = some (PySem.W.instObj C s.heap.objs.size) := by
    have := Heap.get?_push_size (s.heap.push PySem.W.emptyDict) (o := PySem.W.instObj C s.heap.objs.size) rfl
    rwa [Heap.size_push] at this
  have e3 : (s.heap.push PySem.W.emptyDict).Ns s.heap.objs.size (fun _ => none) := ⟨PySem.W.emptyDict, #[], _, e1, rfl, (fun e he => absurd he (by simp)), fun _ => rfl⟩
  have I1 := I.laid (a := s.heap.objs.size) (o := .own (s.heap.objs.size + 1)) (h' := s.heap.push PySem.W.emptyDict) (t' := s.toks) (fun b u q => Heap.get?_push_of_some _ q) (Nat.le_refl _) ⟨_, e1⟩
  refine I1.laid (a := s.heap.objs.size + 1) (o := .ins C s.heap.objs.size []) (t' := s.toks) (fun b u q => Heap.get?_push_of_some _ q) (Nat.le_of_eq (Heap.size_push _ _)) ?_
  have ne : s.heap.objs.size ≠ s.heap.objs.size + 1 := Nat.ne_of_lt (Nat.lt_succ_self _)
  refine ⟨by rw [upd_ne ne, upd_same], Nat.zero_le _, ne, e2, fun _ => none, (Heap.Ns1.of_empty e3).at fun o q => Heap.get?_push_of_some _ q, fun _ => True.intro, fun y hy => absurd rfl hy⟩
/-- e.f where nothing but the object is asked: through attributeBase (super) and the last hold -/
theorem attr_of {prog : Program} {w : World} {env : Env} {e : Expr} {f : Str} {pos : Pos} {s : Shared} {Q : Value → Shared → Prop} (hb : attributeBase e f env (eval e env) = eval e env)
    (h : wpAny (model prog w) A (eval e env) (fun o s₁ => wpAny (model prog w) A (getAttr o f true) Q E s₁) E s) : wpAny (model prog w) A (eval (.Attribute e f pos) env) Q E s :=
  Attribute_any_ h (by rw [arm_eval_Attribute, hb])
end
/-- e.f, an attribute of the instance -/
def tFld (K : PySem.W.Frag) (ta : TE) (f : Str) : TE := fun σ H Q => ta σ H fun x H1 => ∃ a C dx fs v, x = .ref a ∧ H1 a = some (.ins C dx fs) ∧ Cls K C ∧ NoAttr K C f ∧ fs.lookup f = some v ∧ Q v H1
/-- e.f = value -/
def sFld (K : PySem.W.Frag) (ta tv : TE) (f : Str) : TS := fun D σ H => tv σ H fun y H1 => ta σ H1 fun x H2 => ∃ a C dx fs, x = .ref a ∧ H2 a = some (.ins C dx fs) ∧ Cls K C ∧ NoAttr K C f ∧ fs.length < 1000 ∧
  D.nx σ (upd H2 a (.ins C dx (putF f y fs)))
/-- an augmented operator on two values -/
def InOp (X : Cx) (op : Operator) (rd : V → V → Hp → VK → Prop) : Prop :=
  ∀ (pins : List (Addr × Obj)) (s : Shared) (σ : St) (H : Hp) (x y : V) (u v : Value) (Q : VK), Inv X pins σ H s → RelV x u → RelV y v → rd x y H Q → wpAny (model X.prog X.w) X.A (inplaceOp op u v) (EP X pins σ Q) X.xe s
/-- e.f op= value -/
def sFldAug (K : PySem.W.Frag) (ta tv : TE) (rd : V → V → Hp → VK → Prop) (f : Str) : TS := fun D σ H => ta σ H fun x H1 => ∃ a C dx fs v, x = .ref a ∧ H1 a = some (.ins C dx fs) ∧ Cls K C ∧ NoAttr K C f ∧ fs.lookup f = some v ∧
  tv σ H1 fun y H2 => rd v y H2 fun z H3 => ∃ dx' fs', H3 a = some (.ins C dx' fs') ∧ fs'.length < 1000 ∧ D.nx σ (upd H3 a (.ins C dx' (putF f z fs')))
section
variable {X : Cx} {o e value : Expr} {f : Str} {pos pos' tpos : Pos} {ta tv : TE}
theorem pe_fld (he : PE X e ta) (hb : attributeBase e f X.env (eval e X.env) = eval e X.env) : PE X (.Attribute e f pos) (tFld X.K ta f) := by
  intro pins s σ H Q I h
  refine attr_of hb (thn (he pins s σ H _ I h) fun u s1 ⟨x, H1, I1, rx, a, C, dx, fs, v, ex, ea, c, n, l, q⟩ => ?_)
  subst ex
  obtain rfl : u = Value.ref a := rx
  exact getattr_ok I1 ea c n l fun u' s2 I2 ru => ⟨v, H1, I2, ru, q⟩
theorem ps_fld (ha : PE X o ta) (hv : PE X value tv) (hs : swapsWith value (some (.Attribute o f pos')) pos.line X.env = pure false) : PS X (.Assign [.Attribute o f pos'] value pos) (sFld X.K ta tv f) := by
  intro pins s σ H D I h
  refine plainObj_wpAny_Assign_Attribute (thn (hv pins s σ H _ I h) fun u s1 ⟨y, H1, I1, ry, q⟩ => thn (ha pins s1 σ H1 _ I1 q) fun ov s2 ⟨x, H2, I2, rx, a, C, dx, fs, ex, ea, c, n, l, q2⟩ => ?_) hs
  subst ex
  obtain rfl : ov = Value.ref a := rx
  exact setattr_ok I2 ea c n l ry fun s3 I3 => ⟨σ, _, I3, q2⟩
theorem ps_fldaug {op : Operator} {rd : V → V → Hp → VK → Prop} (ha : PE X o ta) (hv : PE X value tv) (hop : InOp X op rd) : PS X (.AugAssign (.Attribute o f tpos) op value pos) (sFldAug X.K ta tv rd f) := by
  intro pins s σ H D I h
  refine wpAny_AugAssign_AttributeAny (thn (ha pins s σ H _ I h) fun ov s1 ⟨x, H1, I1, rx, a, C, dx, fs, v, ex, ea, c, n, l, q⟩ => ?_)
  subst ex
  obtain rfl : ov = Value.ref a := rx
  refine getattr_ok I1 ea c n l fun u s2 I2 ru => thn (hv pins s2 σ H1 _ I2 q) fun w3 s3 ⟨y, H2, I3, ry, q3⟩ => thn (hop pins s3 σ H2 v y u w3 _ I3 ru ry q3) fun w4 s4 ⟨z, H3, I4, rz, dx', fs', ea', l', q4⟩ => ?_
  exact setattr_ok I4 ea' c n l' rz fun s5 I5 => ⟨σ, _, I5, q4⟩
def rAdd : V → V → Hp → VK → Prop := fun x y H Q => ∃ i j, x = .int i ∧ y = .int j ∧ Q (.int (i + j)) H
theorem in_add : InOp X .Add rAdd := by
  rintro pins s σ H x y u v Q I rx ry ⟨i, j, rfl, rfl, q⟩
  obtain ⟨t, rfl⟩ := (show ∃ t, u = Value.int i t from rx)
  obtain ⟨t', rfl⟩ := (show ∃ t', v = Value.int j t' from ry)
  exact PyProof.Rows.iadd_int ⟨.int (i + j), H, I.tok _, ⟨_, rfl⟩, q⟩
end
section
variable {X : Cx} {pins : List (Addr × Obj)} {σ : St} {H : Hp} {s : Shared} {A : Around} {E : Value → Shared → Prop} {Q : Value → Shared → Prop} {c : Value} {b : Bool}
end
end L2
namespace L2
open PySem PySem.Spec PyProof.Rows
structure Room (k : Nat) (A : Around) : Prop where
  hd : A.handled = none
  dp : A.depth + 3 * k + 5 < recursionLimit
  un : A.units + 16 * k + 200 < cLine
theorem Room.mono {j k : Nat} {A : Around} (r : Room k A) (h : j ≤ k) : Room j A := ⟨r.hd, by have := r.dp; omega, by have := r.un; omega⟩
theorem Room.deeper {k : Nat} {A : Around} (r : Room (k + 1) A) (env : Env) : Room k (A.deeper env) :=
  ⟨r.hd, by have := r.dp; show A.depth + 1 + 3 * k + 5 < _; omega, by have := r.un; show A.units + 3 + 16 * k + 200 < _; omega⟩
theorem make_depth {A : Around} {C : Addr} {us : List Value} {kw : List (Str × Value)} : (A.under (.builtin "type.__call__" ⟨.ref C :: us, kw⟩)).depth = A.depth + 1 := by
  first | rfl | simp [Around.under, Code.weight, Code.isCreation, Code.isGuard, Code.isCaller, Code.frames, Code.isFrame, guardIds]
theorem make_units {A : Around} {C : Addr} {us : List Value} {kw : List (Str × Value)} : (A.under (.builtin "type.__call__" ⟨.ref C :: us, kw⟩)).units = A.units + 1 := by
  first | rfl | simp [Around.under, Code.cUnits, Code.frames, Code.isFrame]
theorem Room.make {k : Nat} {A : Around} (r : Room (k + 1) A) (C : Addr) (us : List Value) (kw : List (Str × Value)) : Room k (A.under (.builtin "type.__call__" ⟨.ref C :: us, kw⟩)) :=
  ⟨r.hd, by have := r.dp; rw [make_depth]; omega, by have := r.un; rw [make_units]; omega⟩
theorem Room.depth {k : Nat} {A : Around} (r : Room k A) : A.depth < recursionLimit := by have := r.dp; omega
theorem Room.units {k : Nat} {A : Around} (r : Room k A) : A.units + 64 < cLine := by have := r.un; omega
def tNil : TA := fun _ H Q => Q [] H
def tCons (ta : TE) (tr : TA) : TA := fun σ H Q => ta σ H fun x H1 => tr σ H1 fun xs H2 => Q (x :: xs) H2
section
variable {X : Cx} {e : Expr} {es : List Expr} {te : TE} {t : TA} {pos : Pos}
theorem pa_nil : PA X [] tNil := fun _ _ _ _ H Q I h => Calls.spliced_nil ⟨[], H, I, .nil, h⟩
theorem pa_cons (ha : PE X e te) (hr : PA X es t) (hs : starEach (e :: es) X.env = (false, eval e X.env) :: starEach es X.env := by rfl) : PA X (e :: es) (tCons te t) := by
  intro pos pins s σ H Q I h
  rw [hs]
  show wpAny _ _ (spliced ((false, eval e X.env) :: backTo pos (starEach es X.env))) _ _ s
  refine Calls.spliced_cons (thn (ha pins s σ H _ I h) fun u s1 ⟨x, H1, I1, r1, q1⟩ => ?_)
  exact thn (hr pos pins s1 σ H1 _ I1 q1) fun us s2 ⟨xs, H2, I2, r2, q2⟩ => ⟨x :: xs, H2, I2, .cons r1 r2, q2⟩
/-- a tuple, a list of written items -/
def tTup (t : TA) : TE := fun σ H Q => t σ H fun xs H1 => xs.length ≤ sizeLine ∧ ∀ p, H1 p = none → Q (.ref p) (upd H1 p (.tup xs))
def tLst (t : TA) : TE := fun σ H Q => t σ H fun xs H1 => xs.length ≤ sizeLine ∧ ∀ p, H1 p = none → Q (.ref p) (upd H1 p (.lst xs))
theorem pe_tup {x1} (h : PA X es t) : PE X (.Tuple es x1 pos) (tTup t) := by
  intro pins s σ H Q I hq
  refine wpAny_Tuple_spliced (thn (h pos pins s σ H _ I hq) fun us s1 ⟨xs, H1, I1, r, z, q⟩ => ⟨by rw [← r.length]; exact z, ?_⟩)
  have hf : H1 s1.heap.objs.size = none := I1.hok.fresh (Nat.le_refl _)
  refine ⟨.ref s1.heap.objs.size, upd H1 s1.heap.objs.size (.tup xs), I1.laid (t' := s1.toks) (fun b u e => Heap.get?_push_of_some _ e) (Nat.le_refl _) ?_, rfl, q _ hf⟩
  exact ⟨z, us, r, ⟨_, Heap.get?_push_size _ rfl, rfl, _, rfl⟩⟩
theorem pe_lst (h : PA X es t) : PE X (.List es pos) (tLst t) := by
  intro pins s σ H Q I hq
  refine wpAny_List_spliced (thn (h pos pins s σ H _ I hq) fun us s1 ⟨xs, H1, I1, r, z, q⟩ => ⟨by rw [← r.length]; exact z, ?_⟩)
  have hf : H1 s1.heap.objs.size = none := I1.hok.fresh (Nat.le_refl _)
  refine ⟨.ref s1.heap.objs.size, upd H1 s1.heap.objs.size (.lst xs), I1.laid (t' := s1.toks) (fun b u e => Heap.get?_push_of_some _ e) (Nat.le_refl _) ?_, rfl, q _ hf⟩
  exact ⟨z, us, 0, r, Heap.get?_push_size _ rfl⟩
end
/-- a def's promise: the bound arguments in the parameters' order, the heap, the wanted end, the wanted exception -/
abbrev Sp := List V → Hp → VK → XK → Prop
/-- how an exception lies behind a call (file 08 gives it): the callers' frames, abstract heap and state ahead of the call, the wish, the exception, the state -/
abbrev CXT := List Env → Hp → Shared → XK → Value → Shared → Prop
/-- the state at a call -/
structure Env0 (P : Program) (w : World) (K : PySem.W.Frag) (mg : Str → Option Value) (base : Heap) (A : Around) (outer : List Env) (s : Shared) (H : Hp) : Prop where
  frames : A.frames = some outer
  mod : Mod K mg base
  bs : ∀ b o, base.get? b = some o → s.heap.get? b = some o ∧ H b = none
  bsz : base.objs.size ≤ s.heap.objs.size
  funs : s.heap.FunFrames base outer
  frf : ∀ b ∈ frs outer, H b = none
  hok : HOk P w H s.heap
  bare : AllBare s.gens
/-- a call's end -/
def CE (outer : List Env) (P : Program) (w : World) (H : Hp) (s : Shared) (Q : VK) (u : Value) (s' : Shared) : Prop :=
  ∃ v H', s'.os = s.os ∧ AllBare s'.gens ∧ Un (frs outer) [] H H' s.heap s'.heap ∧ HOk P w H' s'.heap ∧ RelV v u ∧ Q v H'
def CR (CX : CXT) (outer : List Env) (P : Program) (w : World) (H : Hp) (s : Shared) (Q : VK) (E : XK) (r : Result) (s' : Shared) : Prop :=
  match r with
  | .ok (.ret u) => CE outer P w H s Q u s'
  | .ok _ => False
  | .error e => CX outer H s E e s'
structure FnOk (P : Program) (w : World) (K : PySem.W.Frag) (mg : Str → Option Value) (base : Heap) (CX : CXT) (k : Nat) (f : Addr) (fd : FuncData) (ps : List Str) (sp : Sp) : Prop where
  len : ∀ vs H Q E, sp vs H Q E → vs.length = ps.length
  run : ∀ (A : Around) (outer : List Env) (s : Shared) (H : Hp) (args : Args) (us : List Value) (vs : List V) (Q : VK) (E : XK), Room k A → Env0 P w K mg base A outer s H → BindsTo s fd args (ps.zip us) → Vals vs us → sp vs H Q E →
    codeAny (model P w) A (.call (.ref f) args) (CR CX outer P w H s Q E) s
theorem Env0.make {P : Program} {w : World} {K : PySem.W.Frag} {mg : Str → Option Value} {base : Heap} {A : Around} {outer : List Env} {s : Shared} {H : Hp} (e : Env0 P w K mg base A outer s H) (C : Addr) (us : List Value) (kw : List (Str × Value)) :
    Env0 P w K mg base (A.under (.builtin "type.__call__" ⟨.ref C :: us, kw⟩)) outer s H := ⟨by first | exact e.frames | (simpa [Around.under, Code.envs, Code.isFrame, pushEnvs] using e.frames), e.mod, e.bs, e.bsz, e.funs, e.frf, e.hok, e.bare⟩
section
variable {X : Cx} {pins : List (Addr × Obj)} {σ : St} {H : Hp} {s s' : Shared}
/-- from a body: what a callee wants -/
theorem Inv.env0 (I : Inv X pins σ H s) : Env0 X.prog X.w X.K X.mg X.base X.A X.stack s H :=
  ⟨I.ok.frames, I.ok.mod, I.bs, Nat.le_trans I.ok.bsz I.sz, I.stack, I.stkFree, I.hok, I.bare⟩
/-- behind a call -/
theorem Inv.after {Q : VK} {u : Value} (I : Inv X pins σ H s) (h : CE X.stack X.prog X.w H s Q u s') : EP X pins σ Q u s' := by
  obtain ⟨v, H', os, bare, un, hok, r, q⟩ := h
  obtain ⟨hh, g, d, t, os'⟩ := s'
  obtain rfl : os' = s.os := os
  exact ⟨v, H', I.call (h' := hh) (g' := g) (d' := d) (t' := t) (ch := []) un hok bare (fun b z => absurd z (by simp)), r, q⟩
end
/-- f(..): the written arguments, then the defaults dvs; E: what is wanted of an exception -/
def tCall (sp : Sp) (dvs : List V) (E : XK) (t : TA) : TE := fun σ H Q => t σ H fun vs H1 => sp (vs ++ dvs) H1 Q E
/-- o.m(..) of an instance of the class at C -/
def tMeth (C : Addr) (m : Str) (sp : Sp) (dvs : List V) (E : XK) (ta : TE) (t : TA) : TE := fun σ H Q => ta σ H fun x H1 => ∃ a dx fs, x = .ref a ∧ H1 a = some (.ins C dx fs) ∧ fs.lookup m = none ∧
  t σ H1 fun vs H2 => sp (x :: (vs ++ dvs)) H2 Q E
/-- C(..): a new instance and its dict, then __init__ -/
def tMake (C : Addr) (sp : Sp) (dvs : List V) (E : XK) (t : TA) : TE := fun σ H Q => t σ H fun vs H1 => ∀ x dx, H1 x = none → H1 dx = none → dx ≠ x →
  sp (.ref x :: (vs ++ dvs)) (upd (upd H1 dx (.own x)) x (.ins C dx [])) (fun v H2 => v = .non ∧ Q (.ref x) H2) E
/-- how the parameters are bound: us the positional arguments, kw the keywords' values by name, ds the defaults that fill up -/
def Binds (K : PySem.W.Frag) (fd : FuncData) (ps : List Str) (ds : List Value) : Prop :=
  ∀ (s : Shared) (us : List Value), K.In s.heap → (us ++ ds).length = ps.length → BindsTo s fd ⟨us, []⟩ (ps.zip (us ++ ds))
/-- every parameter is given -/
theorem Binds.all {K : PySem.W.Frag} {fd : FuncData} {ps : List Str} (h : ∀ us : List Value, us.length = ps.length → bindArgs fd ⟨us, []⟩ = pure (ps.zip us)) : Binds K fd ps [] := fun s us _ hl => by
  rw [List.append_nil] at hl ⊢
  exact .of_eq (h us hl)
/-- an exception of a callee reaches what this body wants of exceptions -/
def Passes (CX : CXT) (X : Cx) (E : XK) : Prop := ∀ (pins : List (Addr × Obj)) (σ : St) (H : Hp) (s : Shared) (e : Value) (s' : Shared), Inv X pins σ H s → CX X.stack H s E e s' → X.xe e s'
section
variable {X : Cx} {CX : CXT} {k : Nat} {f C : Addr} {fd : FuncData} {ps : List Str} {sp : Sp} {dvs : List V} {ds : List Value} {E : XK} {x m : Str} {p pos apos : Pos} {e o : Expr} {es : List Expr} {ta : TE} {t : TA}
/-- the callee runs -/
theorem run_fn {pins : List (Addr × Obj)} {σ : St} {H : Hp} {s : Shared} {Q : VK} {us : List Value} {vs : List V} (F : FnOk X.prog X.w X.K X.mg X.base CX k f fd ps sp) (hr : Room k X.A) (hb : Binds X.K fd ps ds) (hd : Vals dvs ds) (hx : Passes CX X E)
    (I : Inv X pins σ H s) (r : Vals vs us) (h : sp (vs ++ dvs) H Q E) : wpAny (model X.prog X.w) X.A (call (.ref f) us) (EP X pins σ Q) X.xe s := by
  have r2 : Vals (vs ++ dvs) (us ++ ds) := r.append hd
  have hl : (us ++ ds).length = ps.length := by rw [← r2.length]; exact F.len _ _ _ _ h
  refine wpAny_call (codeAny_mono (F.run X.A X.stack s H ⟨us, []⟩ (us ++ ds) (vs ++ dvs) Q E hr I.env0 (hb s us I.kIn hl) r2 h) fun r s' hq => ?_)
  cases r with
  | error e => exact hx pins σ H s e s' I hq
  | ok fl =>
    cases fl with
    | ret u => exact I.after hq
    | next => exact False.elim hq
    | brk => exact False.elim hq
    | cont => exact False.elim hq
theorem pe_call (F : FnOk X.prog X.w X.K X.mg X.base CX k f fd ps sp) (hr : Room k X.A) (hg : Gl X x) (hm : X.mg x = some (.ref f)) (hk : PySem.W.keepIn X.K (.ref f) = true) (hb : Binds X.K fd ps ds) (hd : Vals dvs ds) (hx : Passes CX X E)
    (ha : PA X (e :: es) t) (hdb : (x == ("__debug__" : Str)) = false := by decide) (he : starEach (e :: es) X.env = (false, eval e X.env) :: starEach es X.env := by rfl) (hpl : (backTo pos (starEach es X.env)).any (·.1) = false := by rfl) :
    PE X (.Call (.Name x p) (e :: es) [] pos) (tCall sp dvs E t) := by
  intro pins s σ H Q I h
  refine wpAny_Call_Name_kw (ld_glob I hg hm ?_ hdb)
  refine PySem.W.callWith_K (h₀ := X.base) I.ok.mod.kin hk (thn (ha pos pins s σ H _ I h) fun us s1 ⟨vs, H1, I1, r, q⟩ => ⟨I1.kIn, ?_⟩) he hpl
  exact run_fn F hr hb hd hx I1 r q
/-- o.m(e, ..) -/
theorem pe_meth {pl : Sem Bool} (he : PE X o ta) (c : Cls X.K C) (hm : Meth X.K C m f) (F : FnOk X.prog X.w X.K X.mg X.base CX k f fd ps sp) (hr : Room k X.A) (hb : Binds X.K fd ps ds) (hd : Vals dvs ds) (hx : Passes CX X E) (ha : PA X (e :: es) t)
    (hst : starEach (e :: es) X.env = (false, eval e X.env) :: starEach es X.env := by rfl) (hpl : (backTo pos (starEach es X.env)).any (·.1) = false := by rfl)
    (ht : eval (.Call (.Attribute o m apos) (e :: es) [] pos) X.env = (do
      let ov ← eval o X.env
      standAt apos.atName
      let (f, first) ← holding [ov] (getMethod ov m pl)
      callWith pos f first (backTo pos (starEach (e :: es) X.env)) (backToKw pos (keywordEach [] X.env))) := by rfl) :
    PE X (.Call (.Attribute o m apos) (e :: es) [] pos) (tMeth C m sp dvs E ta t) := by
  intro pins s σ H Q I h
  refine PySem.W.methodCall_KW (pl := pl) (thn (he pins s σ H _ I h) fun u s1 ⟨x, H1, I1, rx, a, dx, fs, ex, ea, l, q⟩ => ?_) ht
  subst ex
  obtain rfl : u = Value.ref a := rx
  refine getmeth_ok I1 ea c hm l ?_
  refine PySem.W.callWith_K (first := [.ref a]) (h₀ := X.base) I.ok.mod.kin hm.kp (thn (ha pos pins s1 σ H1 _ I1 q) fun us s2 ⟨vs, H2, I2, r, q2⟩ => ⟨I2.kIn, ?_⟩) hst hpl
  exact run_fn (us := .ref a :: us) (vs := .ref a :: vs) F hr hb hd hx I2 (.cons rfl r) q2
/-- o.m() -/
theorem pe_meth0 {pl : Sem Bool} (he : PE X o ta) (c : Cls X.K C) (hm : Meth X.K C m f) (F : FnOk X.prog X.w X.K X.mg X.base CX k f fd ps sp) (hr : Room k X.A) (hb : Binds X.K fd ps ds) (hd : Vals dvs ds) (hx : Passes CX X E)
    (ht : eval (.Call (.Attribute o m apos) [] [] pos) X.env = (do
      let ov ← eval o X.env
      standAt apos.atName
      let (f, first) ← holding [ov] (getMethod ov m pl)
      callWith pos f first (backTo pos (starEach [] X.env)) (backToKw pos (keywordEach [] X.env))) := by rfl) :
    PE X (.Call (.Attribute o m apos) [] [] pos) (tMeth C m sp dvs E ta tNil) := by
  intro pins s σ H Q I h
  refine PySem.W.methodCall_KW (pl := pl) (thn (he pins s σ H _ I h) fun u s1 ⟨x, H1, I1, rx, a, dx, fs, ex, ea, l, q⟩ => ?_) ht
  subst ex
  obtain rfl : u = Value.ref a := rx
  refine getmeth_ok I1 ea c hm l ?_
  exact PySem.W.callWith_K0 (first := [.ref a]) I1.kIn hm.kp (run_fn (us := [.ref a]) (vs := [.ref a]) F hr hb hd hx I1 (.cons rfl .nil) q)
/-- what a class must have to be made -/
structure Mk (K : PySem.W.Frag) (C f : Addr) : Prop where
  makes : PySem.W.makesIn K C = true
  init : PySem.W.findIn K (.ref C) "__init__" = some (some (.ref f))
  fn : PySem.W.isFn K (.ref f) = true
  kp : PySem.W.keepIn K (.ref C) = true
theorem run_make {pins : List (Addr × Obj)} {σ : St} {H : Hp} {s : Shared} {Q : VK} {us : List Value} {vs : List V} (M : Mk X.K C f) (F : FnOk X.prog X.w X.K X.mg X.base CX k f fd ps sp) (hr : Room (k + 1) X.A) (hb : Binds X.K fd ps ds) (hd : Vals dvs ds)
    (hx : Passes CX X E) (I : Inv X pins σ H s) (r : Vals vs us)
    (h : ∀ x dx, H x = none → H dx = none → dx ≠ x → sp (.ref x :: (vs ++ dvs)) (upd (upd H dx (.own x)) x (.ins C dx [])) (fun v H2 => v = .non ∧ Q (.ref x) H2) E) :
    wpAny (model X.prog X.w) X.A (call (.ref C) us) (EP X pins σ Q) X.xe s := by
  have hq := h (s.heap.objs.size + 1) s.heap.objs.size (I.hok.fresh (Nat.le_succ _)) (I.hok.fresh (Nat.le_refl _)) (Nat.ne_of_lt (Nat.lt_succ_self _))
  have I2 := Inv.made (C := C) I
  have r2 : Vals (V.ref (s.heap.objs.size + 1) :: (vs ++ dvs)) (Value.ref (s.heap.objs.size + 1) :: (us ++ ds)) := .cons rfl (r.append hd)
  have hl : (Value.ref (s.heap.objs.size + 1) :: us ++ ds).length = ps.length := by
    have e := r2.length
    rw [F.len _ _ _ _ hq] at e
    exact e.symm
  refine wpAny_call (make_map (f := f) I.kIn M.makes M.init (beq_iff_eq.mp M.fn) (codeAny_mono (F.run _ X.stack _ _ ⟨Value.ref (s.heap.objs.size + 1) :: us, []⟩ (Value.ref (s.heap.objs.size + 1) :: (us ++ ds)) _ _ E (hr.make C us [])
    (I2.env0.make C us []) (hb _ (Value.ref (s.heap.objs.size + 1) :: us) I2.kIn hl) r2 hq) fun r s' hq' => ?_))
  cases r with
  | error e => exact hx pins σ _ _ e s' I2 hq'
  | ok fl =>
    cases fl with
    | ret u =>
      obtain ⟨v, H', I3, rv, ev, q3⟩ := I2.after hq'
      subst ev
      exact ⟨rv, ⟨V.ref (s.heap.objs.size + 1), H', I3, rfl, q3⟩⟩
    | next => exact False.elim hq'
    | brk => exact False.elim hq'
    | cont => exact False.elim hq'
theorem pe_make (M : Mk X.K C f) (F : FnOk X.prog X.w X.K X.mg X.base CX k f fd ps sp) (hr : Room (k + 1) X.A) (hg : Gl X x) (hm : X.mg x = some (.ref C)) (hb : Binds X.K fd ps ds) (hd : Vals dvs ds) (hx : Passes CX X E)
    (ha : PA X (e :: es) t) (hdb : (x == ("__debug__" : Str)) = false := by decide) (he : starEach (e :: es) X.env = (false, eval e X.env) :: starEach es X.env := by rfl) (hpl : (backTo pos (starEach es X.env)).any (·.1) = false := by rfl) :
    PE X (.Call (.Name x p) (e :: es) [] pos) (tMake C sp dvs E t) := by
  intro pins s σ H Q I h
  refine wpAny_Call_Name_kw (ld_glob I hg hm ?_ hdb)
  refine PySem.W.callWith_K (h₀ := X.base) I.ok.mod.kin M.kp (thn (ha pos pins s σ H _ I h) fun us s1 ⟨vs, H1, I1, r, q⟩ => ⟨I1.kIn, ?_⟩) he hpl
  exact run_make M F hr hb hd hx I1 r q
end
section
variable {X : Cx} {CX : CXT} {k : Nat} {f C : Addr} {fd : FuncData} {ps ks : List Str} {sp : Sp} {E : XK} {x m : Str} {p pos apos kpos : Pos} {e o : Expr} {es : List Expr} {kws : List Keyword} {te ta : TE} {t tk : TA} {nm : Option Str}
variable {g : List Value → List Value → List Value} {gV : List V → List V → List V}
end
/-- names: the parameters first -/
structure FnScope (N P : List Str) (sc : Scope) : Prop where
  kind : sc.kind = .function
  co : sc.isCoroutine = false
  gen : sc.isGenerator = false
  nd : N.Nodup
  pre : N.take P.length = P
  par : ∀ x ∈ P, sc.names.lookup x = some .local ∨ sc.names.lookup x = some .cell
  nofree : ∀ y ∈ sc.names, y.2 ≠ .free
theorem bindL_out {kindOf : Str → Option NameKind} {x : Str} : ∀ {binds : List (Str × Value)} {m : Str → Option Value}, (∀ v, (x, v) ∉ binds) → bindL kindOf binds m x = m x
  | [], _, _ => rfl
  | (n, v) :: r, m, h => by
    unfold bindL
    rw [bindL_out fun w hw => h w (List.mem_cons_of_mem _ hw)]
    split
    · have : x ≠ n := by rintro rfl; exact h v List.mem_cons_self
      simp [this]
    · rfl
theorem bindC_out {kindOf : Str → Option NameKind} {x : Str} : ∀ {binds : List (Str × Value)} {m : Str → Option Value}, (∀ v, (x, v) ∉ binds) → bindC kindOf binds m x = m x
  | [], _, _ => rfl
  | (n, v) :: r, m, h => by
    unfold bindC
    rw [bindC_out fun w hw => h w (List.mem_cons_of_mem _ hw)]
    split
    · rfl
    · have : x ≠ n := by rintro rfl; exact h v List.mem_cons_self
      simp [this]
theorem bindL_get {kindOf : Str → Option NameKind} {x : Str} {v : Value} : ∀ {P : List Str} {vs : List Value} {i : Nat} {m : Str → Option Value}, P.Nodup → P[i]? = some x → vs[i]? = some v → kindOf x = some .local →
    bindL kindOf (P.zip vs) m x = some v
  | [], _, _, _, _, h, _, _ => by simp at h
  | _ :: _, [], _, _, _, _, h, _ => by simp at h
  | p :: P, w :: vs, 0, m, nd, h1, h2, hk => by
    simp at h1 h2; subst h1; subst h2
    show bindL kindOf ((p, w) :: P.zip vs) m p = _
    unfold bindL
    rw [bindL_out fun v hv => (List.nodup_cons.mp nd).1 (List.of_mem_zip hv).1, if_pos hk]
    simp
  | p :: P, w :: vs, i + 1, m, nd, h1, h2, hk => by
    show bindL kindOf ((p, w) :: P.zip vs) m x = _
    unfold bindL
    exact bindL_get (i := i) (List.nodup_cons.mp nd).2 (by simpa using h1) (by simpa using h2) hk
theorem bindC_get {kindOf : Str → Option NameKind} {x : Str} {v : Value} : ∀ {P : List Str} {vs : List Value} {i : Nat} {m : Str → Option Value}, P.Nodup → P[i]? = some x → vs[i]? = some v → kindOf x ≠ some .local →
    bindC kindOf (P.zip vs) m x = some v
  | [], _, _, _, _, h, _, _ => by simp at h
  | _ :: _, [], _, _, _, _, h, _ => by simp at h
  | p :: P, w :: vs, 0, m, nd, h1, h2, hk => by
    simp at h1 h2; subst h1; subst h2
    show bindC kindOf ((p, w) :: P.zip vs) m p = _
    unfold bindC
    rw [bindC_out fun v hv => (List.nodup_cons.mp nd).1 (List.of_mem_zip hv).1, if_neg hk]
    simp
  | p :: P, w :: vs, i + 1, m, nd, h1, h2, hk => by
    show bindC kindOf ((p, w) :: P.zip vs) m x = _
    unfold bindC
    exact bindC_get (i := i) (List.nodup_cons.mp nd).2 (by simpa using h1) (by simpa using h2) hk
/-- the names' values at the entry -/
def start (N : List Str) (vs : List V) : St := vs.map some ++ List.replicate (N.length - vs.length) none
/-- the context of a def's body, at its entry; an exception leaves the frame, then lies as CX says -/
def cxOf (CX : CXT) (P : Program) (w : World) (K : PySem.W.Frag) (mg : Str → Option Value) (base : Heap) (N : List Str) (qual : Str) (scope : Scope) (f : Addr) (cd : Value) (A : Around) (outer : List Env) (s : Shared) (H : Hp) (E : XK) : Cx where
  prog := P
  w := w
  K := K
  mg := mg
  base := base
  A := A.deeper (envOfC qual scope s.heap.objs.size f cd)
  N := N
  s₀ := s
  H₀ := H
  env := envOfC qual scope s.heap.objs.size f cd
  outer := outer
  stack := envOfC qual scope s.heap.objs.size f cd :: outer
  ex := []
  calm := true
  fn := fun _ => true
  pn := []
  xe := fun e s' => wpAny (model P w) (A.deeper (envOfC qual scope s.heap.objs.size f cd)) (leaving (envOfC qual scope s.heap.objs.size f cd) e) (fun _ s'' => CX outer H s E e s'') (fun e' s'' => CX outer H s E e' s'') s'
theorem cell_has {sc : Scope} {n : Nat} {x : Str} (h : sc.names.lookup x = some .cell) : ∃ c, (cellsFrom n sc.names []).lookup x = some c := by
  have q := PySem.W.cellsFrom_some sc.names n [] (.inl h)
  exact Option.isSome_iff_exists.mp q
theorem inv_start {CX : CXT} {P : Program} {w : World} {K : PySem.W.Frag} {mg : Str → Option Value} {base : Heap} {N ps : List Str} {qual : Str} {scope : Scope} {f : Addr} {cd : Value} {A : Around} {outer : List Env} {s s1 : Shared} {H : Hp} {E : XK} {us : List Value} {vs : List V}
    (S : FnScope N ps scope) (hd : A.handled = none) (e0 : Env0 P w K mg base A outer s H) (hl : vs.length = ps.length) (r : Vals vs us)
    (x : InCallC s s.heap.objs.size (bindL (envOfC qual scope s.heap.objs.size f cd).kindOf (ps.zip us) fun _ => none) (cellsFrom (s.heap.objs.size + 1) scope.names []) (bindC (envOfC qual scope s.heap.objs.size f cd).kindOf (ps.zip us) fun _ => none) s1) :
    Inv (cxOf CX P w K mg base N qual scope f cd A outer s H E) [] (start N vs) H s1 := by
  have hpl : ps.length ≤ N.length := by have := congrArg List.length S.pre; rw [List.length_take] at this; omega
  obtain ⟨h1, tk, rfl, hk⟩ := x.done
  have noA : ∀ b : Addr, b ∉ (cxOf CX P w K mg base N qual scope f cd A outer s H E).ex := fun b z => absurd (show b ∈ ([] : List Addr) from z) (by simp)
  refine ⟨⟨e0.mod, S.kind, rfl, rfl, Nat.le_refl _, fun y z c h1 h2 => ?_, fun y hy => ?_, fun y c _ h => ?_, fun _ => hd, Around.frames_deeper e0.frames, .inr ⟨rfl, rfl⟩, fun b z => absurd z (noA b), e0.bs, e0.bsz, fun b _ _ => noA b, fun b z => absurd z (noA b), e0.funs, e0.frf⟩,
    rfl, e0.bare, Un.kept hk, ⟨_, x.toInCall.ns, fun i y v h1 h2 h3 => ?_⟩, fun y c h => ⟨_, x.cell y c h⟩, e0.hok.fresh (Nat.le_refl _), fun y c h => ?_, fun p hp => absurd (show p ∈ ([] : List (Addr × Obj)) from hp) (by simp), e0.hok.kept hk, ?_⟩
  · exact name_of_addr x.apart (PySem.mem_of_lookup h1) (PySem.mem_of_lookup h2)
  · have hy : scope.names.lookup y = some .cell ∨ scope.names.lookup y = some .free := hy
    rcases hy with hy | hy
    · exact cell_has hy
    · exact absurd rfl (S.nofree _ (PySem.mem_of_lookup hy))
  · exact Nat.le_of_lt (x.above y c (PySem.mem_of_lookup h))
  · have hi : i < vs.length := by
      unfold start at h2
      by_cases hi : i < vs.length
      · exact hi
      · rw [List.getElem?_append_right (by simpa using hi)] at h2
        rw [List.getElem?_replicate] at h2
        split at h2 <;> cases h2
    have ha : vs[i]? = some v := by
      unfold start at h2
      rw [List.getElem?_append_left (by simpa using hi), List.getElem?_map] at h2
      cases e : vs[i]? with
      | none => rw [e] at h2; cases h2
      | some a => rw [e] at h2; cases h2; rfl
    obtain ⟨u, hu, rv⟩ := r.get ha
    have hp : ps[i]? = some y := by
      rw [← S.pre, List.getElem?_take_of_lt (by omega)]; exact h1
    have ndP : ps.Nodup := by rw [← S.pre]; exact S.nd.sublist (List.take_sublist _ _)
    refine ⟨u, rv, ?_⟩
    rcases S.par y (List.mem_of_getElem? hp) with k | k
    · exact .inl ⟨k, bindL_get ndP hp hu k⟩
    · obtain ⟨c, e⟩ := cell_has (n := s.heap.objs.size + 1) k
      refine .inr ⟨.inl k, c, e, ?_⟩
      have q := x.cell y c e
      rw [bindC_get ndP hp hu (by show scope.names.lookup y ≠ _; rw [k]; decide)] at q
      exact q
  · exact e0.hok.fresh (Nat.le_of_lt (x.above y c (PySem.mem_of_lookup h)))
  · unfold start
    show _ = N.length
    rw [List.length_append, List.length_map, List.length_replicate]
    omega
/-- THE RULE: a def (or a method) of the text, by its body. The body's reading t is chosen for each entry; it is run at the parameters' values -/
theorem fn_of {CX : CXT} {P : Program} {w : World} {K : PySem.W.Frag} {mg : Str → Option Value} {base : Heap} {k : Nat} {f : Addr} {name qual : Str} {params : Arguments} {body : List Stmt} {scope : Scope} {dV kV doc pm cdv ct oc : Value} {an od : Option Addr}
    {osl : Array (Option Value)} {N ps : List Str} {sp : Sp} (lk : K.lookup f = some ⟨oc, od, .func (PySem.W.fnOf name qual params body scope dV kV doc pm an cdv ct), osl⟩) (hcd : PySem.W.codeIn K cdv qual = true) (S : FnScope N ps scope)
    (len : ∀ vs H Q E, sp vs H Q E → vs.length = ps.length)
    (hbody : ∀ (A : Around) (outer : List Env) (s : Shared) (H : Hp) (vs : List V) (Q : VK) (E : XK), Room k (A.deeper (envOfC qual scope s.heap.objs.size f cdv)) → sp vs H Q E →
      ∃ t, PSs (cxOf CX P w K mg base N qual scope f cdv A outer s H E) body t ∧ t { nx := fun _ H' => Q .non H', rt := Q } (start N vs) H) :
    FnOk P w K mg base CX (k + 1) f (PySem.W.fnOf name qual params body scope dV kV doc pm an cdv ct) ps sp := by
  refine ⟨len, fun A outer s H args us vs Q E hr e0 hb r hsp => ?_⟩
  have hl := len _ _ _ _ hsp
  have KX : K.In s.heap := e0.mod.kin.keeps fun b o e => (e0.bs b o e).1
  have lim : s.heap.NoLimit := e0.mod.nolimit.keeps fun b o e => (e0.bs b o e).1
  have hkind : ∀ y ∈ ps.zip us, scope.names.lookup y.1 = some .local ∨ (scope.names.lookup y.1 = some .cell ∧ ((cellsFrom (s.heap.objs.size + 1) scope.names []).lookup y.1).isSome = true) := fun ⟨n, v⟩ hy => by
    rcases S.par n (List.of_mem_zip hy).1 with q | q
    · exact .inl q
    · exact .inr ⟨q, PySem.W.cellsFrom_some _ _ _ (.inl q)⟩
  refine codeAny_call_function hr.depth (KX _ _ lk) rfl S.co S.gen rfl (PySem.W.codeRec_of KX hcd) (hb _ _ _ _ ?_)
  refine wpAny_newFunctionEnv_cells S.kind hkind fun env he s1 x => ?_
  subst he
  refine ⟨lim.keeps x.toInCall.keep, codeAny_func ?_⟩
  obtain ⟨t, ht, hq⟩ := hbody A outer s H vs Q E (hr.deeper _) hsp
  have I : Inv (cxOf CX P w K mg base N qual scope f cdv A outer s H E) [] (start N vs) H s1 := inv_start S hr.hd e0 hl r x
  refine wpAny_mono (ht [] s1 (start N vs) H _ I hq) (fun fl s' hs => ?_) fun e s' hs => hs
  have fin : ∀ {σ' : St} {H' : Hp} {v : V} {u : Value}, Inv (cxOf CX P w K mg base N qual scope f cdv A outer s H E) [] σ' H' s' → RelV v u → Q v H' → CE outer P w H s Q u s' :=
    fun {σ' H' v u} J rv q => ⟨v, H', J.os, J.bare, J.base, J.hok, rv, q⟩
  cases fl with
  | ret u =>
    obtain ⟨v, σ', H', J, rv, q⟩ := hs
    exact fin J rv q
  | next =>
    obtain ⟨σ', H', J, q⟩ := hs
    exact fin (v := V.non) (u := Value.none) J rfl q
  | brk =>
    obtain ⟨_, _, _, q⟩ := hs
    exact False.elim q
  | cont =>
    obtain ⟨_, _, _, q⟩ := hs
    exact False.elim q
end L2
namespace L2
open PySem PySem.Spec PyProof.Rows
section
variable {X : Cx} {x : Str} {p pos : Pos} {e : Expr} {es : List Expr} {t : TA} {id T : String} {r : List V → Hp → VK → Prop}
def tCB (r : List V → Hp → VK → Prop) (t : TA) : TE := fun σ H Q => t σ H fun vs H1 => r vs H1 Q
/-- f(e, ..), f a built-in function -/
theorem pe_callB (hc : CallR X (.builtin id) r) (hg : Gl X x) (hm : X.mg x = none) (hv : bootBuiltins x = some (.builtin id)) (ha : PA X (e :: es) t) (hn : x ≠ "__name__" := by decide) (hdb : (x == ("__debug__" : Str)) = false := by decide)
    (he : starEach (e :: es) X.env = (false, eval e X.env) :: starEach es X.env := by rfl) (hpl : (backTo pos (starEach es X.env)).any (·.1) = false := by rfl) : PE X (.Call (.Name x p) (e :: es) [] pos) (tCB r t) := by
  intro pins s σ H Q I h
  refine wpAny_Call_Name_kw (ld_blt I hg hm hv ?_ hn hdb)
  exact PyProof.Rows.callWith_builtin1 (thn (ha pos pins s σ H _ I h) fun us s1 ⟨vs, H1, I1, r1, q1⟩ => hc pins s1 σ H1 vs us Q I1 r1 q1) he hpl
/-- T(e, ..), T a built-in type -/
theorem pe_callTy (hc : CallR X (.type T) r) (hg : Gl X x) (hm : X.mg x = none) (hv : bootBuiltins x = some (.type T)) (ha : PA X (e :: es) t) (hn : x ≠ "__name__" := by decide) (hdb : (x == ("__debug__" : Str)) = false := by decide)
    (he : starEach (e :: es) X.env = (false, eval e X.env) :: starEach es X.env := by rfl) (hpl : (backTo pos (starEach es X.env)).any (·.1) = false := by rfl) : PE X (.Call (.Name x p) (e :: es) [] pos) (tCB r t) := by
  intro pins s σ H Q I h
  refine wpAny_Call_Name_kw (ld_blt I hg hm hv ?_ hn hdb)
  exact PyProof.Rows.callWith_type1 (thn (ha pos pins s σ H _ I h) fun us s1 ⟨vs, H1, I1, r1, q1⟩ => hc pins s1 σ H1 vs us Q I1 r1 q1) he hpl
end
end L2
namespace HT
open PySem PyProof.Rows
/-- t < u of tuples of ints -/
def lexLt : List Int → List Int → Bool
  | [], [] => false
  | [], _ :: _ => true
  | _ :: _, [] => false
  | x :: xs, y :: ys => if x = y then lexLt xs ys else decide (x < y)
theorem lexLt_cons (x y : Int) (xs ys : List Int) : lexLt (x :: xs) (y :: ys) = if x = y then lexLt xs ys else decide (x < y) := rfl
theorem lexLt_nil_nil : lexLt [] [] = false := rfl
theorem lexLt_nil_cons (y : Int) (ys : List Int) : lexLt [] (y :: ys) = true := rfl
theorem lexLt_cons_nil (x : Int) (xs : List Int) : lexLt (x :: xs) [] = false := rfl
theorem eqAt_int (A : Around) (s : Shared) (a : Int) (t : Tok) (c : Int) (u : Tok) : ∃ e, SeqAt.EqAt A s (.int a t) (.int c u) e ∧ (e = true ↔ a = c) :=
  ⟨(a == c), SeqAt.EqAt.int_int a t c u, by simp⟩
theorem rcLt_int (A : Around) (s : Shared) (a : Int) (t : Tok) (c : Int) (u : Tok) (prog : Program) (w : World) (E : Value → Shared → Prop) (Q : Value → Shared → Prop) (h : Q (.bool (decide (a < c))) s) :
    wpAny (model prog w) A (richCompare .Lt (.int a t) (.int c u)) Q E s :=
  (PyProof.Rows.lt_int h : wpAny (model prog w) A (compareOp .Lt (.int a t) (.int c u)) Q E s)
section
open PySem.SeqAt
open PySem.AutoSeq1 (wpAny_loadPart')
open PySem.MeetsSeq PySem.MeetsSeq2 PySem.MeetsSeq3
theorem tuple_lt_ints (l b : Addr) (items items2 : Array Value) (n n2 : Nat) (dd dd2 : Option Addr) (sl sl2 : Array (Option Value)) (ns ms : List Int) (hi : IntsAre items.toList ns) (hj : IntsAre items2.toList ms) :
    Meets (Builtin.«tuple.__lt__» ⟨[.ref l, .ref b], []⟩)
      (fun _ R s => s.heap.get? l = some { cls := .type "tuple", dict := dd, data := .seq items n, slots := sl } ∧ s.heap.get? b = some { cls := .type "tuple", dict := dd2, data := .seq items2 n2, slots := sl2 } ∧
        R (.ok (.ret (.bool (lexLt ns ms)))) s) :=
  .of_wp fun prog w A R s h => by
    obtain ⟨hp, g, d, tk, os⟩ := s; obtain ⟨hl, hb, h⟩ := h
    have f2 := AutoSeq1.sub_tuple_tuple
    have z1 : items.size = ns.length := by rw [← hi.length]; simp
    have z2 : items2.size = ms.length := by rw [← hj.length]; simp
    wp_walk using wpAny_loadPart' hl, wpAny_loadPart' hb, wpAny_forIn_list _ (fun rest b s' => b.1 = none ∧ s' = ⟨hp, g, d, tk, os⟩ ∧ ∃ (vs ws : List Value) (ns' ms' : List Int), rest = vs.zip ws ∧
      IntsAre vs ns' ∧ IntsAre ws ms' ∧ ns'.length + items2.size = ms'.length + items.size ∧ R (.ok (.ret (.bool (lexLt ns' ms')))) ⟨hp, g, d, tk, os⟩) _
    case turn =>
      rintro ⟨y, x⟩ rest b s' ⟨hb', rfl, vs, ws, ns', ms', hz, hvi, hwi, hlen, hR⟩
      cases hvi with
      | nil => rw [List.zip_nil_left] at hz; cases hz
      | cons a t hvi' =>
        cases hwi with
        | nil => rw [List.zip_nil_right] at hz; cases hz
        | cons c u hwi' =>
          rw [List.zip_cons_cons] at hz
          injection hz with hyx hrest
          injection hyx with hy hx
          subst hy hx
          rw [lexLt_cons] at hR
          simp only [List.length_cons] at hlen
          obtain ⟨e, he, hiff⟩ := eqAt_int A.in1 ⟨hp, g, d, tk, os⟩ a t c u
          refine wpAny_bind (he prog w _ _ ?_)
          cases e with
          | true =>
            rw [if_pos (hiff.mp rfl)] at hR
            wp_walk
            exact ⟨rfl, rfl, _, _, _, _, hrest, hvi', hwi', by omega, hR⟩
          | false =>
            rw [if_neg (fun q => absurd (hiff.mpr q) Bool.false_ne_true)] at hR
            have hri := rcLt_int A.in1 ⟨hp, g, d, tk, os⟩ a t c u prog w
            wp_walk using hri
            exact ⟨_, rfl, by simpa using hR⟩
    case fin =>
      rintro ⟨b1, b2⟩ s' ⟨hb', rfl, vs, ws, ns', ms', hz, hvi, hwi, hlen, hR⟩
      simp only at hb'
      subst hb'
      have hv : lexLt ns' ms' = decide (items.size < items2.size) := by
        cases hvi with
        | nil =>
          cases hwi with
          | nil =>
            simp only [List.length_nil] at hlen
            rw [lexLt_nil_nil]
            exact (decide_eq_false (by omega)).symm
          | cons c u hw =>
            simp only [List.length_nil, List.length_cons] at hlen
            rw [lexLt_nil_cons]
            exact (decide_eq_true (by omega)).symm
        | cons a t hv =>
          cases hwi with
          | nil =>
            simp only [List.length_nil, List.length_cons] at hlen
            rw [lexLt_cons_nil]
            exact (decide_eq_false (by omega)).symm
          | cons c u hw =>
            rw [List.zip_cons_cons] at hz
            cases hz
      rw [hv] at hR
      wp_walk
      exact ⟨_, rfl, by simpa [Builtin.Tuple.tupleCompareSizes] using hR⟩
    case h =>
      exact ⟨rfl, rfl, items.toList, items2.toList, ns, ms, rfl, hi, hj, by omega, h⟩
end
section
variable {prog : Program} {w : World} {A : Around} {E : Value → Shared → Prop} {s : Shared}
theorem lt_tupInts {l b : Addr} {items items2 : Array Value} {ns ms : List Int} {Q : Value → Shared → Prop} (hl : IsTup s.heap l items) (hb : IsTup s.heap b items2) (hi : IntsAre items.toList ns) (hj : IntsAre items2.toList ms)
    (hu : A.units < cLine) (h : Q (.bool (lexLt ns ms)) s) : wpAny (model prog w) A (compareOp .Lt (.ref l) (.ref b)) Q E s := by
  obtain ⟨⟨cls, dd, data, sl⟩, ho, hc, n, hd⟩ := id hl
  obtain ⟨⟨cls2, dd2, data2, sl2⟩, ho2, hc2, n2, hd2⟩ := id hb
  simp only at hc hd hc2 hd2
  subst hc hd hc2 hd2
  exact richCompare_meets_room (op := .Lt) ⟨_, ho, rfl⟩ ⟨_, ho2, rfl⟩ PySem.F.slot_tuple_lt PySem.F.entry_tuple_lt (PySem.F.args_tuple_lt_2 _ _) (tuple_lt_ints l b items items2 n n2 dd dd2 sl sl2 ns ms hi hj)
    ⟨ho, ho2, show Value.bool (lexLt ns ms) ≠ Value.notImplemented ∧ Q (.bool (lexLt ns ms)) s from ⟨(fun x => nomatch x), h⟩⟩ hu
end
end HT
namespace L2
open PySem PySem.Spec PyProof.Rows
theorem intsAre_of {ns : List Int} : ∀ {us : List Value}, Vals (ns.map V.int) us → IntsAre us ns := by
  induction ns with
  | nil => intro us r; rw [List.map_nil] at r; cases r; exact .nil
  | cons n ns ih =>
    intro us r
    rw [List.map_cons] at r
    cases r with
    | cons r1 r2 =>
      obtain ⟨t, e⟩ := r1
      subst e
      exact .cons n t (ih r2)
section
variable {X : Cx} {e : Expr} {te : TE} {lo hi : Option Expr} {tl th : TO} {pos p2 : Pos}
def rLtT (K : PySem.W.Frag) : R2 := fun x y H Q => ∃ a b ns ms, x = .ref a ∧ y = .ref b ∧ SqT K H a (ns.map V.int) ∧ SqT K H b (ms.map V.int) ∧ Q (.bl (HT.lexLt ns ms)) H
theorem op_ltT (hu : X.A.units < cLine) : OpR X (compareOp .Lt) (rLtT X.K) := by
  intro pins s σ H x y v u Q I rx ry h
  obtain ⟨a, b, ns, ms, rfl, rfl, ha, hb, q⟩ := h
  cases rx
  cases ry
  obtain ⟨its, r1, p1, _⟩ := I.tuple ha
  obtain ⟨its2, r2, p2, _⟩ := I.tuple hb
  have i1 : IntsAre its.toArray.toList ns := intsAre_of r1
  have i2 : IntsAre its2.toArray.toList ms := intsAre_of r2
  exact HT.lt_tupInts p1 p2 i1 i2 hu ⟨.bl (HT.lexLt ns ms), H, I, rfl, q⟩
end
end L2
namespace L2
open PySem PySem.Spec PyProof.Rows
/-- the place that an index of any sign means -/
def ixN (n : Nat) (i : Int) : Option Nat := if 0 ≤ i then (if i < n then some i.toNat else none) else if -(n : Int) ≤ i then some (i + n).toNat else none
def atI {α : Type} (xs : List α) (i : Int) : Option α := (ixN xs.length i).bind fun j => xs[j]?
theorem ixN_seq {n : Nat} {i : Int} {j : Nat} (h : ixN n i = some j) : seqIndex? i n = some j ∧ j < n ∧ -(n : Int) ≤ i ∧ i < n := by
  unfold ixN at h
  by_cases h0 : 0 ≤ i
  · rw [if_pos h0] at h
    by_cases h1 : i < n
    · rw [if_pos h1] at h
      have e : i.toNat = j := Option.some.inj h
      exact ⟨by rw [seqIndex_of h0 h1, e], by omega, by omega, h1⟩
    · rw [if_neg h1] at h; cases h
  · rw [if_neg h0] at h
    by_cases h1 : -(n : Int) ≤ i
    · rw [if_pos h1] at h
      have e : (i + n).toNat = j := Option.some.inj h
      exact ⟨by rw [seqIndex_neg (by omega) h1, e], by omega, h1, by omega⟩
    · rw [if_neg h1] at h; cases h
theorem atI_get {α : Type} {xs : List α} {i : Int} {v : α} (h : atI xs i = some v) : ∃ j, seqIndex? i xs.length = some j ∧ xs[j]? = some v ∧ j < xs.length ∧ -(xs.length : Int) ≤ i ∧ i < xs.length := by
  unfold atI at h
  cases e : ixN xs.length i with
  | none => rw [e] at h; cases h
  | some j =>
    rw [e] at h
    obtain ⟨h1, h2, h3, h4⟩ := ixN_seq e
    exact ⟨j, h1, h, h2, h3, h4⟩
theorem atI_nat {α : Type} {xs : List α} {j : Nat} {v : α} (h : xs[j]? = some v) : atI xs (j : Int) = some v := by
  have hj : j < xs.length := (List.getElem?_eq_some_iff.mp h).1
  have e : ixN xs.length (j : Int) = some j := by
    unfold ixN
    rw [if_pos (by omega), if_pos (by omega)]; simp
  unfold atI; rw [e]; exact h
/-- what stands as an index of a plain subscript -/
def PlainIx (b : Expr) : Prop := ∀ o i, subscripted b false o i = operate [o, i] (getItem o i)
/-- a subscript by values -/
def IxR (X : Cx) (r : R2) : Prop :=
  ∀ (value slice : Expr) (pins : List (Addr × Obj)) (s : Shared) (σ : St) (H : Hp) (x y : V) (v u : Value) (Q : VK), Inv X pins σ H s → RelV x v → RelV y u → r x y H Q →
    subscripted slice false v u = operate [v, u] (getItem v u) → wpAny (model X.prog X.w) X.A (subscriptTail value slice v u) (EP X pins σ Q) X.xe s
/-- a call of a builtin's method by values: the receiver, the arguments -/
def MtR (X : Cx) (id : String) (r : V → List V → Hp → VK → Prop) : Prop :=
  ∀ (pins : List (Addr × Obj)) (s : Shared) (σ : St) (H : Hp) (x : V) (xs : List V) (v : Value) (us : List Value) (Q : VK), Inv X pins σ H s → RelV x v → Vals xs us → r x xs H Q →
    wpAny (model X.prog X.w) X.A (call (.builtin id) (v :: us)) (EP X pins σ Q) X.xe s
section
variable {X : Cx} {a b : Expr} {ta tb : TE} {pos : Pos}
/-- a[b] -/
theorem pe_ix {r : R2} (hr : IxR X r) (ha : PE X a ta) (hb : PE X b tb) (hs : PlainIx b) : PE X (.Subscript a b pos) (tOp r ta tb) := by
  intro pins s σ H Q I h
  exact Subscript_ (binT ha hb I h fun v u s2 x y H2 I2 rx ry q => hr a b pins s2 σ H2 x y v u Q I2 rx ry q (hs _ _))
def rIxL (K : PySem.W.Frag) : R2 := fun x y H Q => ∃ p xs i v, x = .ref p ∧ y = .int i ∧ SqL K H p xs ∧ atI xs i = some v ∧ Q v H
def rIxT (K : PySem.W.Frag) : R2 := fun x y H Q => ∃ p xs i v, x = .ref p ∧ y = .int i ∧ SqT K H p xs ∧ atI xs i = some v ∧ Q v H
theorem ix_list : IxR X (rIxL X.K) := by
  intro value slice pins s σ H x y v u Q I rx ry h hs
  obtain ⟨p, xs, i, z, rfl, rfl, hq, he, q⟩ := h
  cases rx
  obtain ⟨t, rfl⟩ := ry
  obtain ⟨its, r, pl, hz⟩ := I.list hq
  obtain ⟨j, h1, h2, h3, h4, h5⟩ := atI_get he
  obtain ⟨w, ew, rw'⟩ := r.get h2
  have hl := r.length
  have hn := line63
  have fin : EP X pins σ Q w s := ⟨z, H, I, rw', q⟩
  by_cases h0 : 0 ≤ i
  · have hj : i.toNat = j := by
      rw [seqIndex_of h0 h5] at h1
      exact Option.some.inj h1
    exact item_listR pl.isList h0 (by omega) (by rw [hj]; simpa using ew) fin hs
  · have hj : (i + (its.toArray.size : Int)).toNat = j := by
      rw [seqIndex_neg (by omega) h4] at h1
      rw [List.size_toArray, ← hl]
      exact Option.some.inj h1
    exact subscriptTail_builtinR (x := w) pl.isList.typeIs slot_list_getitem.lookup
      (wpAny_getItem_list_neg (Q := fun r s' => r = w ∧ EP X pins σ Q r s') pl.isList (by omega) (by rw [List.size_toArray] <;> omega) (by omega) (by rw [hj]; simpa using ew) ⟨rfl, fin⟩) hs
theorem ix_tup : IxR X (rIxT X.K) := by
  intro value slice pins s σ H x y v u Q I rx ry h hs
  obtain ⟨p, xs, i, z, rfl, rfl, hq, he, q⟩ := h
  cases rx
  obtain ⟨t, rfl⟩ := ry
  obtain ⟨its, r, pl, hz⟩ := I.tuple hq
  obtain ⟨j, h1, h2, h3, h4, h5⟩ := atI_get he
  obtain ⟨w, ew, rw'⟩ := r.get h2
  have hl := r.length
  have hn := line63
  have fin : EP X pins σ Q w s := ⟨z, H, I, rw', q⟩
  exact subscriptTail_builtinR (x := w) pl.typeIs slot_tuple_getitem.lookup
    (getItem_tuple (j := j) (Q := fun r s' => r = w ∧ EP X pins σ Q r s') pl (by omega) (by omega) (by rw [List.size_toArray, ← hl]; exact h1) (by simpa using ew) ⟨rfl, fin⟩) hs
/-- the list's object behind a store -/
theorem mapSeq_set (its : List Value) (n j : Nat) (u : Value) : Obj.mapSeq (·.setIfInBounds j u) { cls := .type "list", data := .seq its.toArray n } = { cls := .type "list", data := .seq (its.set j u).toArray n } := by
  simp [Obj.mapSeq]
theorem Inv.lst {pins : List (Addr × Obj)} {σ : St} {H : Hp} {s : Shared} {p : Addr} {xs : List V} (I : Inv X pins σ H s) (h : H p = some (.lst xs)) :
    ∃ (its : List Value) (n : Nat), Vals xs its ∧ s.heap.get? p = some { cls := .type "list", data := .seq its.toArray n } ∧ xs.length ≤ sizeLine := by
  obtain ⟨z, its, n, r, e⟩ := I.hok p _ h
  exact ⟨its, n, r, e, z⟩
/-- the list at p is written by an update of its object -/
theorem Inv.lstUpd {pins : List (Addr × Obj)} {σ : St} {H : Hp} {s : Shared} {p : Addr} {xs ys : List V} {its its' : List Value} {n n' : Nat} {f : Obj → Obj} (I : Inv X pins σ H s) (h : H p = some (.lst xs))
    (ho : s.heap.get? p = some { cls := .type "list", data := .seq its.toArray n }) (hf : f { cls := .type "list", data := .seq its.toArray n } = { cls := .type "list", data := .seq its'.toArray n' }) (r : Vals ys its') (hz : ys.length ≤ sizeLine) (t : Nat) :
    Inv X pins σ (upd H p (.lst ys)) { s with heap := s.heap.update p f, toks := t } := by
  have e : (s.heap.update p f).get? p = some { cls := .type "list", data := .seq its'.toArray n' } := by
    rw [Heap.get?_update_self f ho (by rw [hf] <;> rfl), hf]
  refine I.write (x := p) (e := p) (by rw [h]; trivial) (.inl rfl) (fun b u hb q => (Heap.get?_update_other _ _ (Ne.symm hb)).trans q) ⟨_, e⟩ ?_
  exact ⟨hz, its', n', r, e⟩
def rSetL : V → V → V → Hp → (Hp → Prop) → Prop := fun o i v H Q => ∃ p xs k j, o = .ref p ∧ i = .int k ∧ H p = some (.lst xs) ∧ ixN xs.length k = some j ∧ Q (upd H p (.lst (xs.set j v)))
theorem set_list : PSet X rSetL := by
  intro pins s σ H o i v ov iv u Q I ro ri rv h
  obtain ⟨p, xs, k, j, rfl, rfl, hp, hj, q⟩ := h
  cases ro
  obtain ⟨t, rfl⟩ := ri
  obtain ⟨its, n, r, ho, hz⟩ := I.lst hp
  obtain ⟨h1, h2, h3, h4⟩ := ixN_seq hj
  have hl := r.length
  have hn := line63
  have I' : Inv X pins σ (upd H p (.lst (xs.set j v))) { s with heap := s.heap.update p (Obj.mapSeq (·.setIfInBounds j u)) } :=
    I.lstUpd hp ho (mapSeq_set its n j u) (r.set rv j) (by rw [List.length_set]; exact hz) s.toks
  by_cases h0 : 0 ≤ k
  · have hk : k.toNat = j := by
      rw [seqIndex_of h0 h4] at h1
      exact Option.some.inj h1
    exact PySem.W.ki_setAt ho h0 (by omega) (by rw [List.size_toArray, ← hl]; exact h4) (by rw [hk]; exact ⟨_, I', q⟩)
  · have hk : (k + (its.toArray.size : Int)).toNat = j := by
      rw [seqIndex_neg (by omega) h3] at h1
      rw [List.size_toArray, ← hl]
      exact Option.some.inj h1
    exact PySem.W.ki_setBack ho (by omega) (by rw [List.size_toArray, ← hl]; exact h3) (by omega) (by rw [hk]; exact ⟨_, I', q⟩)
def flatV : V → Bool
  | .non => true
  | .bl _ => true
  | .int _ => true
  | .str _ => true
  | _ => false
/-- == of flat values -/
def eqV : V → V → Bool
  | .non, .non => true
  | .bl a, .bl b => a == b
  | .bl a, .int b => (if a then 1 else 0) == b
  | .int a, .bl b => a == (if b then 1 else 0)
  | .int a, .int b => a == b
  | .str a, .str b => a == b
  | _, _ => false
theorem eqAt_V {A : Around} {s : Shared} {y x : V} {u v : Value} (ry : RelV y u) (rx : RelV x v) (fy : flatV y = true) (fx : flatV x = true) : SeqAt.EqAt A s u v (eqV y x) := by
  cases y with
  | non =>
    cases ry
    cases x with
    | non => cases rx; exact SeqAt.EqAt.same _
    | bl b => cases rx; exact SeqAt.EqAt.none_bool b
    | int b => obtain ⟨t, rfl⟩ := rx; exact SeqAt.EqAt.none_int b t
    | str b => obtain ⟨t, rfl⟩ := rx; exact SeqAt.EqAt.none_str b t
    | _ => exact absurd (show false = true from fx) Bool.false_ne_true
  | bl a =>
    cases ry
    cases x with
    | non => cases rx; exact SeqAt.EqAt.bool_none a
    | bl b => cases rx; exact SeqAt.EqAt.bool_bool a b
    | int b => obtain ⟨t, rfl⟩ := rx; exact SeqAt.EqAt.bool_int a b t
    | str b => obtain ⟨t, rfl⟩ := rx; exact SeqAt.EqAt.bool_str a b t
    | _ => exact absurd (show false = true from fx) Bool.false_ne_true
  | int a =>
    obtain ⟨t', rfl⟩ := ry
    cases x with
    | non => cases rx; exact SeqAt.EqAt.int_none a t'
    | bl b => cases rx; exact SeqAt.EqAt.int_bool a t' b
    | int b => obtain ⟨t, rfl⟩ := rx; exact SeqAt.EqAt.int_int a t' b t
    | str b => obtain ⟨t, rfl⟩ := rx; exact SeqAt.EqAt.int_str a t' b t
    | _ => exact absurd (show false = true from fx) Bool.false_ne_true
  | str a =>
    obtain ⟨t', rfl⟩ := ry
    cases x with
    | non => cases rx; exact SeqAt.EqAt.str_none a t'
    | bl b => cases rx; exact SeqAt.EqAt.str_bool a t' b
    | int b => obtain ⟨t, rfl⟩ := rx; exact SeqAt.EqAt.str_int a t' b t
    | str b => obtain ⟨t, rfl⟩ := rx; exact SeqAt.EqAt.str_str a t' b t
    | _ => exact absurd (show false = true from fx) Bool.false_ne_true
  | _ => exact absurd (show false = true from fy) Bool.false_ne_true
theorem call_len_seq : CallR X (.builtin "len") (fun xs H Q => ∃ p ys, xs = [.ref p] ∧ (SqL X.K H p ys ∨ SqT X.K H p ys) ∧ Q (.int ys.length) H) := by
  intro pins s σ H xs us Q I r h
  obtain ⟨p, ys, rfl, hq, q⟩ := h
  obtain ⟨u, rfl, rx⟩ := vals1 r
  cases rx
  have hn := line63
  rcases hq with hq | hq
  · obtain ⟨its, r', pl, hz⟩ := I.list hq
    have hlen := r'.length
    exact Calls.call_len_list pl.isList (by simp only [List.size_toArray] <;> omega) ⟨.int ys.length, H, I.tok _, ⟨s.toks + 1, by rw [List.size_toArray, hlen]⟩, q⟩
  · obtain ⟨its, r', pl, hz⟩ := I.tuple hq
    have hlen := r'.length
    exact len_tuple pl (by simp only [List.size_toArray] <;> omega) ⟨.int ys.length, H, I.tok _, ⟨s.toks + 1, by rw [List.size_toArray, hlen]⟩, q⟩
/-- the value is of that builtin type -/
def tyV (K : PySem.W.Frag) (T : String) (x : V) (H : Hp) : Prop := match x with
  | .str _ => T = "str"
  | .int _ => T = "int"
  | .ref p => (T = "list" ∧ ∃ xs, SqL K H p xs) ∨ (T = "tuple" ∧ ∃ o, K.lookup p = some o ∧ o.cls = .type "tuple" ∧ o.dict = none) ∨
      (T = "dict" ∧ ((∃ kvs, H p = some (.dK kvs)) ∨ ∃ kvs, H p = some (.dT kvs))) ∨ (T = "set" ∧ ∃ S n, H p = some (.set S n))
  | _ => False
theorem tyV_is {pins : List (Addr × Obj)} {σ : St} {H : Hp} {s : Shared} {T : String} {x : V} {v : Value} (I : Inv X pins σ H s) (r : RelV x v) (ty : tyV X.K T x H) :
    s.TypeIs v T ∧ ∀ a, v = .ref a → ∃ ob, s.heap.get? a = some ob ∧ ob.dict = none := by
  cases x with
  | str z =>
    obtain ⟨t, rfl⟩ := r
    cases (show T = "str" from ty)
    exact ⟨typeIs_str s z t, fun _ e => nomatch e⟩
  | int i =>
    obtain ⟨t, rfl⟩ := r
    cases (show T = "int" from ty)
    exact ⟨typeIs_int s i t, fun _ e => nomatch e⟩
  | ref p =>
    cases r
    rcases ty with ⟨rfl, xs, hq⟩ | ⟨rfl, o, hk, hc, hd⟩ | ⟨rfl, hk⟩ | ⟨rfl, S, n, hk⟩
    · obtain ⟨its, _, pl, _⟩ := I.list hq
      refine ⟨pl.isList.typeIs, fun a e => ?_⟩
      cases e
      obtain ⟨o, n, e, c, hd, _⟩ := pl
      exact ⟨o, e, hd⟩
    · refine ⟨⟨o, I.kIn p o hk, hc⟩, fun a e => ?_⟩
      cases e
      exact ⟨o, I.kIn _ o hk, hd⟩
    · have z : ∃ o, s.heap.get? p = some o ∧ o.ExactDict := by
        rcases hk with ⟨kvs, hk⟩ | ⟨kvs, hk⟩
        · obtain ⟨_, _, _, _, o, _, _, e, ex, _⟩ := I.hok p _ hk
          exact ⟨o, e, ex⟩
        · obtain ⟨_, _, _, _, o, _, _, e, ex, _⟩ := I.hok p _ hk
          exact ⟨o, e, ex⟩
      obtain ⟨o, e, ex⟩ := z
      refine ⟨⟨o, e, ex.1⟩, fun a e2 => ?_⟩
      cases e2
      exact ⟨o, e, ex.2.1⟩
    · obtain ⟨o, _, _, _, e, ex, _⟩ := I.hok p _ hk
      refine ⟨⟨o, e, ex.1⟩, fun a e2 => ?_⟩
      cases e2
      exact ⟨o, e, ex.2.1⟩
  | _ => exact False.elim ty
def tBM (K : PySem.W.Frag) (T : String) (r : V → List V → Hp → VK → Prop) (to : TE) (t : TA) : TE := fun σ H Q => to σ H fun x H1 => tyV K T x H1 ∧ t σ H1 fun xs H2 => r x xs H2 Q
variable {o e : Expr} {es : List Expr} {to : TE} {t : TA} {name : Str} {apos cpos : Pos} {T id : String} {r : V → List V → Hp → VK → Prop}
theorem pe_bm (pa : PlainAttrs T) (slot : Slot T name id) (hty : typeOf (.builtin id) = pure (.type "method_descriptor")) (hm : MtR X id r) (ho : PE X o to) (ha : PA X (e :: es) t)
    (hbase : attributeBase o name X.env (eval o X.env) = eval o X.env := by rfl)
    (hfew : ((backTo cpos (starEach (e :: es) X.env)).all (fun x => !x.1) && (backToKw cpos (keywordEach [] X.env)).all (fun x => x.1.isSome)
      && decide ((e :: es).length + ([] : List Keyword).length + (if ([] : List Keyword).isEmpty then 0 else 1) < 30)) = true := by rfl)
    (hline : (apos.endLine == cpos.line) = true := by rfl) (hs : starEach (e :: es) X.env = (false, eval e X.env) :: starEach es X.env := by rfl) (hplain : (backTo cpos (starEach es X.env)).any (·.1) = false := by rfl) :
    PE X (.Call (.Attribute o name apos) (e :: es) [] cpos) (tBM X.K T r to t) := by
  intro pins s σ H Q I h
  refine wpAny_Call_method_late hbase hfew hline rfl (thn (ho pins s σ H _ I h) fun v s1 ⟨x, H1, I1, r1, ty, q1⟩ => ?_)
  obtain ⟨h1, h2⟩ := tyV_is I1 r1 ty
  refine ⟨T, id, pa, slot, hty, h1, h2, ?_⟩
  have hA := ha cpos pins s1 σ H1 _ I1 q1
  rw [hs] at hA ⊢
  refine Calls.callWith_builtin (by show (false || (backTo cpos (starEach es X.env)).any (·.1)) = false; rw [hplain] <;> rfl) (Calls.evalArgs_plain ?_)
  exact thn hA fun us s2 ⟨vs, H2, I2, r2, q2⟩ => hm pins s2 σ H2 x vs v us Q I2 r1 r2 q2
/- xs.append(e), list.index on a module's tuple .. are MtR facts of 06m -/
end
end L2
namespace L2
open PySem PySem.Spec PyProof.Rows
def MtM (X : Cx) (id : String) (r : V → List V → Hp → VK → Prop) : Prop :=
  ∀ (pins : List (Addr × Obj)) (s : Shared) (σ : St) (H : Hp) (x : V) (xs : List V) (v : Value) (us : List Value) (Q : VK), Inv X pins σ H s → RelV x v → Vals xs us → r x xs H Q →
    wpAny (model X.prog X.w) X.A (call (.builtin id) (v :: us)) (EP X pins σ Q) X.xe s
theorem Vals.one : ∀ {x : V} {us : List Value}, Vals [x] us → ∃ u, us = [u] ∧ RelV x u
  | _, _, .cons r .nil => ⟨_, rfl, r⟩
theorem Vals.eraseIdx : ∀ {xs : List V} {us : List Value} (i : Nat), Vals xs us → Vals (xs.eraseIdx i) (us.eraseIdx i)
  | _, _, _, .nil => .nil
  | _, _, 0, .cons _ t => t
  | _, _, i + 1, .cons r t => .cons r (Vals.eraseIdx i t)
theorem Vals.rep {xs : List V} {us : List Value} (h : Vals xs us) : ∀ k : Nat, Vals (List.replicate k xs).flatten (List.replicate k us).flatten
  | 0 => .nil
  | k + 1 => by
    rw [List.replicate_succ, List.replicate_succ, List.flatten_cons, List.flatten_cons]
    exact Vals.append h (Vals.rep h k)
theorem len_erase {α : Type} : ∀ (l : List α) (i : Nat), (l.eraseIdx i).length ≤ l.length
  | [], _ => Nat.le_refl _
  | _ :: _, 0 => Nat.le_succ _
  | _ :: r, i + 1 => Nat.succ_le_succ (len_erase r i)
theorem foldl_rep (its : List Value) : ∀ (k : Nat) (acc : List Value),
    List.foldl (fun x1 x2 => x1 ++ x2) acc.toArray (List.replicate k its.toArray) = (acc ++ (List.replicate k its).flatten).toArray
  | 0, acc => by simp
  | k + 1, acc => by
    have e : acc.toArray ++ its.toArray = (acc ++ its).toArray := by simp
    have e2 : (acc ++ its) ++ (List.replicate k its).flatten = acc ++ (List.replicate (k + 1) its).flatten := by
      rw [List.replicate_succ, List.flatten_cons, List.append_assoc]
    rw [← e2, ← foldl_rep its k (acc ++ its), ← e, List.replicate_succ, List.foldl_cons]
section
variable {X : Cx} {pins : List (Addr × Obj)} {σ : St} {H : Hp} {s : Shared} {l b : Addr} {xs ys zs : List V}
theorem Inv.lset {its its' : List Value} {n : Nat} {f : Array Value → Array Value} {t' : Nat} (I : Inv X pins σ H s) (hH : H l = some (.lst xs))
    (e : s.heap.get? l = some { cls := .type "list", data := .seq its.toArray n }) (hf : f its.toArray = its'.toArray) (hv : Vals ys its') (hz : ys.length ≤ sizeLine) :
    Inv X pins σ (upd H l (.lst ys)) { s with heap := s.heap.update l (Obj.mapSeq f), toks := t' } := by
  have q := PySem.IsL.update e f
  rw [hf] at q
  refine I.write (x := l) (e := l) (by rw [hH]; exact trivial) (.inl rfl) (fun b' u hb hu => (Heap.get?_update_other s.heap (Obj.mapSeq f) (Ne.symm hb)).trans hu) ⟨_, q⟩ ?_
  exact ⟨hz, its', _, hv, q⟩
theorem Inv.lnew {its : List Value} {t' : Nat} (I : Inv X pins σ H s) (hv : Vals ys its) (hz : ys.length ≤ sizeLine) :
    Inv X pins σ (upd H s.heap.objs.size (.lst ys)) { s with heap := s.heap.push { cls := .type "list", data := .seq its.toArray }, toks := t' } :=
  I.laid (fun _ _ q => Heap.get?_push_of_some _ q) (Nat.le_refl _) ⟨hz, its, 0, hv, Heap.get?_push_size _ rfl⟩
theorem Inv.fresh (I : Inv X pins σ H s) : H s.heap.objs.size = none := I.hok.fresh (Nat.le_refl _)
theorem Inv.lstM (I : Inv X pins σ H s) (hH : H l = some (.lst xs)) : xs.length ≤ sizeLine ∧ ∃ (its : List Value) (n : Nat), Vals xs its ∧ xs.length = its.length ∧ s.heap.get? l = some { cls := .type "list", data := .seq its.toArray n } := by
  obtain ⟨z, its, n, r, e⟩ := I.hok l _ hH
  exact ⟨z, its, n, r, r.length, e⟩
theorem notLongL {n : Nat} (h : n ≤ sizeLine) : Builtin.List.listTooLong n = false := by
  unfold Builtin.List.listTooLong
  exact decide_eq_false (by omega)
end
section
variable {X : Cx}
def rAppend : V → List V → Hp → VK → Prop := fun x vs H Q => ∃ l xs y, x = .ref l ∧ vs = [y] ∧ H l = some (.lst xs) ∧ xs.length < sizeLine ∧ Q .non (upd H l (.lst (xs ++ [y])))
theorem mt_append : MtM X "list.append" rAppend := by
  intro pins s σ H x vs v us Q I rx rv h
  obtain ⟨l, xs, y, rfl, rfl, hH, hz, q⟩ := h
  cases rx
  obtain ⟨u, rfl, ru⟩ := rv.one
  obtain ⟨z, its, n, r, hl, e⟩ := I.lstM hH
  refine call_meets F.slot_list_append ⟨_, e, rfl⟩ F.entry_list_append (F.args_list_append_2 _ _) (PySem.list_append l its.toArray n u (by rw [List.size_toArray]; omega)) ⟨e, ?_⟩
  refine ⟨.non, _, I.lset (its' := its ++ [u]) hH e (by simp) (r.append (.cons ru .nil)) ?_, rfl, q⟩
  rw [List.length_append, List.length_singleton]
  omega
/-- a list times an int (a negative one is nothing) -/
def rRep : R2 := fun x y H Q => ∃ l k xs, x = .ref l ∧ y = .int k ∧ H l = some (.lst xs) ∧ -(2 ^ 63) ≤ k ∧ k < 2 ^ 63 ∧ xs.length * k.toNat ≤ sizeLine ∧
  ∀ p, H p = none → Q (.ref p) (upd H p (.lst (List.replicate k.toNat xs).flatten))
theorem len_rep {α : Type} (xs : List α) (k : Nat) : (List.replicate k xs).flatten.length = k * xs.length := by
  induction k with
  | zero => simp
  | succ k ih => rw [List.replicate_succ, List.flatten_cons, List.length_append, ih, Nat.succ_mul, Nat.add_comm]
theorem op_rep : OpR X (binaryOp .Mult) rRep := by
  intro pins s σ H x y v u Q I rx ry h
  obtain ⟨l, k, xs, rfl, rfl, hH, h1, h2, hz, q⟩ := h
  cases rx
  obtain ⟨t, rfl⟩ := ry
  obtain ⟨z, its, n, r, hl, e⟩ := I.lstM hH
  have hlen : its.toArray.size * k.toNat ≤ sizeLine := by rw [List.size_toArray, ← hl]; exact hz
  have hcap : ¬ its.toArray.size * k.toNat > (2 ^ 63 - 1) / 8 := by
    have : (sizeLine : Nat) ≤ (2 ^ 63 - 1) / 8 := by decide
    omega
  have hfit : ¬ (!Builtin.List.listFitsIndex k) = true := by
    rw [fitsIndex_both h1 h2]
    exact Bool.false_ne_true
  have hlong : ¬ Builtin.List.listTooLong (its.toArray.size * k.toNat) = true := by
    rw [notLongL hlen]
    exact Bool.false_ne_true
  have hnew : List.foldl (fun x1 x2 => x1 ++ x2) #[] (List.replicate (if its.toArray.isEmpty = true then 0 else k.toNat) its.toArray) = (List.replicate k.toNat its).flatten.toArray := by
    have f0 : ∀ m : Nat, List.foldl (fun x1 x2 => x1 ++ x2) #[] (List.replicate m its.toArray) = (List.replicate m its).flatten.toArray := fun m => by
      have := foldl_rep its m []
      rw [List.nil_append] at this
      exact this
    rw [f0]
    cases its with
    | nil => simp
    | cons a r' => rw [if_neg (by simp)]
  refine wpAny_binaryOp_repeat_ref (T := "list") (U := "int") (by decide) ⟨_, e, rfl⟩ (fun s' => typeIs_int s' k t) noFill_list_mul F.fills_int_mul F.slot_int_rmul repeat_list F.slot_int_index.lookup
    (call_meets F.slot_int_rmul (typeIs_int s k t) F.entry_int_rmul (F.args_int_rmul_2 _ _) (int___rmul___int_list k t l its.toArray n)
      ⟨e, rfl, ⟨_, e, rfl⟩, call_meets F.slot_list_mul ⟨_, e, rfl⟩ F.entry_list_mul (F.args_list_mul_2 _ _) (AutoListH.list___mul___list_int_3 l its.toArray n k t hfit hcap hlong) ⟨e, ?_⟩⟩)
  rw [hnew]
  exact ⟨.ref _, _, I.lnew (t' := s.toks) (r.rep k.toNat) (by rw [len_rep, Nat.mul_comm]; exact hz), rfl, q _ I.fresh⟩
end
section
variable {prog : Program} {w : World} {A : Around} {E : Value → Shared → Prop} {s : Shared}
set_option maxRecDepth 100000 in
end
section
variable {X : Cx}
end
end L2
namespace L2
open PySem PySem.Spec PyProof.Rows
section
variable {κ : Type} [DecidableEq κ]
def valV (kvs : List (κ × V)) (k : κ) : Option V := (kvs.find? fun kv => decide (kv.1 = k)).map (·.2)
/-- in its place, or at the end -/
def putK (kvs : List (κ × V)) (k : κ) (v : V) : List (κ × V) :=
  if (kvs.any fun kv => decide (kv.1 = k)) = true then kvs.map (fun kv => if kv.1 = k then (kv.1, v) else kv) else kvs ++ [(k, v)]
def dropK (kvs : List (κ × V)) (k : κ) : List (κ × V) := kvs.filter fun kv => decide (kv.1 ≠ k)
theorem valV_pos {p : κ × V} {r : List (κ × V)} {k : κ} (e : p.1 = k) : valV (p :: r) k = some p.2 := by simp [valV, List.find?_cons, e]
theorem valV_neg {p : κ × V} {r : List (κ × V)} {k : κ} (e : ¬ p.1 = k) : valV (p :: r) k = valV r k := by simp [valV, List.find?_cons, e]
theorem valV_any (k : κ) : ∀ kvs : List (κ × V), (kvs.any fun kv => decide (kv.1 = k)) = (valV kvs k).isSome
  | [] => rfl
  | p :: r => by
    rw [List.any_cons]
    by_cases e : p.1 = k
    · simp only [valV_pos e, decide_eq_true e, Bool.true_or, Option.isSome_some]
    · rw [valV_neg e, decide_eq_false e, Bool.false_or]; exact valV_any k r
theorem valV_map (k j : κ) (y : V) : ∀ kvs : List (κ × V), valV (kvs.map fun kv => if kv.1 = k then (kv.1, y) else kv) j = (valV kvs j).map fun x => if j = k then y else x
  | [] => rfl
  | p :: r => by
    have ih := valV_map k j y r
    rw [List.map_cons]
    by_cases h : p.1 = k
    · rw [if_pos h]
      by_cases e : p.1 = j
      · rw [valV_pos (p := (p.1, y)) e, valV_pos e, Option.map_some, if_pos (e.symm.trans h)]
      · rw [valV_neg (p := (p.1, y)) e, valV_neg e, ih]
    · rw [if_neg h]
      by_cases e : p.1 = j
      · rw [valV_pos (p := p) e, valV_pos e, Option.map_some, if_neg (fun z => h (e.trans z))]
      · rw [valV_neg (p := p) e, valV_neg e, ih]
theorem valV_snoc (k j : κ) (y : V) : ∀ kvs : List (κ × V), valV kvs k = none → valV (kvs ++ [(k, y)]) j = if j = k then some y else valV kvs j
  | [], _ => by
    by_cases e : k = j
    · rw [if_pos e.symm]; exact valV_pos (p := (k, y)) e
    · rw [if_neg (fun z => e z.symm)]; exact valV_neg (p := (k, y)) e
  | p :: r, hn => by
    rw [List.cons_append]
    have hk : ¬ p.1 = k := fun z => by rw [valV_pos z] at hn; cases hn
    rw [valV_neg hk] at hn
    have ih := valV_snoc k j y r hn
    by_cases e : p.1 = j
    · rw [valV_pos e, valV_pos e, if_neg (fun z => hk (e.trans z))]
    · rw [valV_neg e, valV_neg e, ih]
theorem valV_put (kvs : List (κ × V)) (k j : κ) (y : V) : valV (putK kvs k y) j = if j = k then some y else valV kvs j := by
  unfold putK
  by_cases a : (kvs.any fun kv => decide (kv.1 = k)) = true
  · rw [if_pos a, valV_map]
    rw [valV_any] at a
    by_cases e : j = k
    · obtain ⟨x, hx⟩ := Option.isSome_iff_exists.mp a
      rw [if_pos e, e, hx, Option.map_some, if_pos rfl]
    · rw [if_neg e]
      cases valV kvs j with
      | none => rfl
      | some x => rw [Option.map_some, if_neg e]
  · rw [if_neg a]
    refine valV_snoc k j y kvs ?_
    rw [valV_any] at a
    cases q : valV kvs k with
    | none => rfl
    | some x => rw [q] at a; exact (a rfl).elim
theorem length_putK (kvs : List (κ × V)) (k : κ) (v : V) : (putK kvs k v).length ≤ kvs.length + 1 := by
  unfold putK
  split
  · rw [List.length_map]; omega
  · rw [List.length_append, List.length_cons, List.length_nil]; omega
theorem RelO.isSome_eq {o : Option V} {u : Option Value} (r : RelO o u) : o.isSome = u.isSome := by
  cases o with
  | none => cases u with
    | none => rfl
    | some _ => exact (show False from r).elim
  | some _ => cases u with
    | none => exact (show False from r).elim
    | some _ => rfl
/-- raw tables of the same keys -/
theorem KV.val {kvs : List (κ × V)} {vs : List (κ × Value)} (r : KV kvs vs) (k : κ) : RelO (valV kvs k) (valueAt vs k) := by
  unfold KV at r
  induction r with
  | nil => exact True.intro
  | @cons p q ps qs h t ih =>
    obtain ⟨h1, h2⟩ := h
    by_cases e : p.1 = k
    · have e' : q.1 = k := h1.symm.trans e
      have b : valueAt (q :: qs) k = some q.2 := by simp [valueAt, List.find?_cons, e']
      rw [valV_pos e, b]; exact h2
    · have e' : ¬ q.1 = k := fun z => e (h1.trans z)
      have b : valueAt (q :: qs) k = valueAt qs k := by simp [valueAt, List.find?_cons, e']
      rw [valV_neg e, b]; exact ih
theorem KV.any {kvs : List (κ × V)} {vs : List (κ × Value)} (r : KV kvs vs) (k : κ) : (kvs.any fun kv => decide (kv.1 = k)) = vs.any fun kv => decide (kv.1 = k) := by
  unfold KV at r
  induction r with
  | nil => rfl
  | cons h t ih => rw [List.any_cons, List.any_cons, ih, h.1]
theorem KV.repl {kvs : List (κ × V)} {vs : List (κ × Value)} (r : KV kvs vs) (k : κ) {y : V} {u : Value} (ry : RelV y u) :
    KV (kvs.map fun kv => if kv.1 = k then (kv.1, y) else kv) (vs.map fun kv => if kv.1 = k then (kv.1, u) else kv) := by
  unfold KV at r ⊢
  induction r with
  | nil => exact .nil
  | @cons p q ps qs h t ih =>
    rw [List.map_cons, List.map_cons]
    refine .cons ?_ ih
    obtain ⟨h1, h2⟩ := h
    by_cases e : p.1 = k
    · rw [if_pos e, if_pos (h1.symm.trans e)]; exact ⟨h1, ry⟩
    · rw [if_neg e, if_neg (fun z => e (h1.trans z))]; exact ⟨h1, h2⟩
theorem KV.put {kvs : List (κ × V)} {vs : List (κ × Value)} (r : KV kvs vs) (k : κ) {y : V} {u : Value} (ry : RelV y u) : KV (putK kvs k y) (stored vs k u) := by
  unfold putK stored
  rw [r.any k]
  by_cases e : (vs.any fun kv => decide (kv.1 = k)) = true
  · rw [if_pos e, if_pos e]; exact r.repl k ry
  · rw [if_neg e, if_neg e]; exact Paired.snoc r ⟨rfl, ry⟩
theorem KV.drop {kvs : List (κ × V)} {vs : List (κ × Value)} (r : KV kvs vs) (k : κ) : KV (dropK kvs k) (without vs k) := by
  unfold KV at r ⊢
  unfold dropK without
  induction r with
  | nil => exact .nil
  | @cons p q ps qs h t ih =>
    obtain ⟨h1, h2⟩ := h
    rw [List.filter_cons, List.filter_cons]
    by_cases e : p.1 = k
    · have a : ¬ decide (p.1 ≠ k) = true := by simp [e]
      have b : ¬ decide (q.1 ≠ k) = true := by simp [h1.symm.trans e]
      rw [if_neg a, if_neg b]; exact ih
    · have e' : ¬ q.1 = k := fun z => e (h1.trans z)
      have a : decide (p.1 ≠ k) = true := by simp [e]
      have b : decide (q.1 ≠ k) = true := by simp [e']
      rw [if_pos a, if_pos b]; exact .cons ⟨h1, h2⟩ ih
theorem KV.length {kvs : List (κ × V)} {vs : List (κ × Value)} (r : KV kvs vs) : kvs.length = vs.length := Paired.length r
theorem dropK_le (kvs : List (κ × V)) (k : κ) : (dropK kvs k).length ≤ kvs.length := List.length_filter_le _ _
end
theorem kV_is {P : Program} {w : World} {k : Key} {u : Value} (r : RelV (kV k) u) : (mixKind P w).is k u = true := by
  cases k with
  | inl i => obtain ⟨t, e⟩ := (show ∃ t, u = Value.int i t from r); subst e; exact mixKind_int P w i t
  | inr x => obtain ⟨t, e⟩ := (show ∃ t, u = Value.str x t from r); subst e; exact mixKind_str P w x t
theorem items_are {P : Program} {w : World} : ∀ {ks : List Key} {us : List Value}, Vals (ks.map kV) us → ItemsAre (mixKind P w) ks us
  | [], _, r => by rw [List.map_nil] at r; cases r; exact .nil
  | k :: ks, _, r => by
    rw [List.map_cons] at r
    cases r with
    | cons h t => exact .cons (kV_is h) (items_are t)
/-- raw entries of a dict with tuple keys -/
abbrev KT (H : Hp) : List (List Key × V) → List (List Key × Addr × Value) → Prop := Paired fun p q => p.1 = q.1 ∧ H q.2.1 = some (.tup (p.1.map kV)) ∧ RelV p.2 q.2.2
theorem KT.val {H : Hp} {kvs : List (List Key × V)} {xs : List (List Key × Addr × Value)} (r : KT H kvs xs) (k : List Key) : RelO (valV kvs k) ((atKey xs k).map (·.2)) := by
  induction r with
  | nil => exact True.intro
  | @cons p q ps qs h t ih =>
    obtain ⟨h1, _, h2⟩ := h
    by_cases e : p.1 = k
    · have e' : q.1 = k := h1.symm.trans e
      have b : atKey (q :: qs) k = some q.2 := by simp [atKey, List.find?_cons, e']
      rw [valV_pos e, b]; exact h2
    · have e' : ¬ q.1 = k := fun z => e (h1.trans z)
      have b : atKey (q :: qs) k = atKey qs k := by simp [atKey, List.find?_cons, e']
      rw [valV_neg e, b]; exact ih
theorem KT.repl {H : Hp} {kvs : List (List Key × V)} {xs : List (List Key × Addr × Value)} (r : KT H kvs xs) (k : List Key) {y : V} {u : Value} (ry : RelV y u) :
    KT H (kvs.map fun kv => if kv.1 = k then (kv.1, y) else kv) (xs.map (putAt k u)) := by
  induction r with
  | nil => exact .nil
  | @cons p q ps qs h t ih =>
    rw [List.map_cons, List.map_cons]
    refine .cons ?_ ih
    obtain ⟨h1, h2, h3⟩ := h
    unfold putAt
    by_cases e : p.1 = k
    · rw [if_pos e, if_pos (h1.symm.trans e)]; exact ⟨h1, h2, ry⟩
    · rw [if_neg e, if_neg (fun z => e (h1.trans z))]; exact ⟨h1, h2, h3⟩
theorem KT.put {H : Hp} {kvs : List (List Key × V)} {xs : List (List Key × Addr × Value)} (r : KT H kvs xs) (k : List Key) {b : Addr} {y : V} {u : Value} (hb : H b = some (.tup (k.map kV))) (ry : RelV y u) :
    KT H (putK kvs k y) (storedH xs k b u) := by
  have e : (kvs.any fun kv => decide (kv.1 = k)) = (atKey xs k).isSome := by
    rw [valV_any, (r.val k).isSome_eq, Option.isSome_map]
  unfold putK storedH
  rw [e]
  by_cases q : (atKey xs k).isSome = true
  · rw [if_pos q, if_pos q]; exact r.repl k ry
  · rw [if_neg q, if_neg q]; exact Paired.snoc r ⟨rfl, hb, ry⟩
theorem KT.keeps {H H' : Hp} {kvs : List (List Key × V)} {xs : List (List Key × Addr × Value)} (r : KT H kvs xs) (ht : ∀ b ys, H b = some (.tup ys) → H' b = some (.tup ys)) : KT H' kvs xs :=
  Paired.mapP r fun _ _ z => ⟨z.1, ht _ _ z.2.1, z.2.2⟩
section
variable {P : Program} {w : World} {H : Hp} {h : Heap} {a : Addr}
theorem rd_of {u : HO} (ok : HOk P w H h) (e : Rd H a u) : ObjOk P w H h a u := e.ok ok
theorem dk_rd {kvs : List (Key × V)} (ok : HOk P w H h) (e : Rd H a (.dK kvs)) : kvs.length ≤ sizeLine ∧ (a == sysModules) = false ∧ ∃ vs, KV kvs vs ∧ h.DictOf (mixKind P w) a vs :=
  show ObjOk P w H h a (.dK kvs) from rd_of ok e
theorem dk_of {kvs : List (Key × V)} (ok : HOk P w H h) (e : H a = some (.dK kvs)) : kvs.length ≤ sizeLine ∧ (a == sysModules) = false ∧ ∃ vs, KV kvs vs ∧ h.DictOf (mixKind P w) a vs := dk_rd ok (.inl e)
/-- a tracked tuple of ints and texts is a key -/
theorem key_of {ks : List Key} (ok : HOk P w H h) (e : H a = some (.tup (ks.map kV))) : (tupleKind (mixKind P w)).is h ks a := by
  obtain ⟨_, its, r, o, h1, h2, n, h3⟩ := (show ObjOk P w H h a (.tup (ks.map kV)) from ok a _ e)
  exact ⟨o, its.toArray, n, h1, h2, h3, by simpa using items_are r⟩
theorem dt_rd {kvs : List (List Key × V)} (ok : HOk P w H h) (e : Rd H a (.dT kvs)) : kvs.length ≤ sizeLine ∧ (a == sysModules) = false ∧
    ∃ xs, KT H kvs xs ∧ h.DictOfH (tupleKind (mixKind P w)) a xs := by
  obtain ⟨z, y, xs, r, o, es, ep, h1, h2, h3, h4, h5⟩ := (show ObjOk P w H h a (.dT kvs) from rd_of ok e)
  refine ⟨z, y, xs, r, o, es, ep, h1, h2, h3, h4, fun x hx => ?_, h5⟩
  have all : ∀ {l : List (List Key × V)} {m : List (List Key × Addr × Value)}, KT H l m → ∀ x ∈ m, (tupleKind (mixKind P w)).is h x.1 x.2.1 := by
    intro l m q
    induction q with
    | nil => intro x hx; exact nomatch hx
    | @cons p q ps qs hq t ih =>
      intro x hx
      rcases List.mem_cons.mp hx with e | hx
      · subst e
        exact key_of ok (by rw [← hq.1]; exact hq.2.1)
      · exact ih x hx
  exact all r x hx
theorem dt_of {kvs : List (List Key × V)} (ok : HOk P w H h) (e : H a = some (.dT kvs)) : kvs.length ≤ sizeLine ∧ (a == sysModules) = false ∧
    ∃ xs, KT H kvs xs ∧ h.DictOfH (tupleKind (mixKind P w)) a xs := dt_rd ok (.inl e)
end
/-- what the dict at a holds at the key y -/
def DGet (H : Hp) (a : Addr) (y : V) (r : Option V) : Prop :=
  (∃ kvs k, Rd H a (.dK kvs) ∧ y = kV k ∧ r = valV kvs k) ∨ ∃ kvs k b, Rd H a (.dT kvs) ∧ y = .ref b ∧ H b = some (.tup (k.map kV)) ∧ r = valV kvs k
/-- the heap behind a[y] = v -/
def DPut (H : Hp) (a : Addr) (y v : V) (H' : Hp) : Prop :=
  (∃ kvs k, H a = some (.dK kvs) ∧ y = kV k ∧ kvs.length < sizeLine ∧ H' = upd H a (.dK (putK kvs k v))) ∨
  ∃ kvs k b, H a = some (.dT kvs) ∧ y = .ref b ∧ H b = some (.tup (k.map kV)) ∧ kvs.length < sizeLine ∧ H' = upd H a (.dT (putK kvs k v))
theorem DGet.k {H : Hp} {a : Addr} {kvs : List (Key × V)} {k : Key} (e : H a = some (.dK kvs)) : DGet H a (kV k) (valV kvs k) := .inl ⟨kvs, k, .inl e, rfl, rfl⟩
theorem DPut.k {H : Hp} {a : Addr} {kvs : List (Key × V)} {k : Key} {v : V} (e : H a = some (.dK kvs)) (hl : kvs.length < sizeLine) : DPut H a (kV k) v (upd H a (.dK (putK kvs k v))) := .inl ⟨kvs, k, e, rfl, hl, rfl⟩
section
variable {X : Cx} {pins : List (Addr × Obj)} {σ : St} {H : Hp} {s : Shared} {a : Addr} {y v : V} {u r : Value} {o : Option V} {A : Around} {E : Value → Shared → Prop}
theorem Inv.big (I : Inv X pins σ H s) : sysModules < s.heap.objs.size := by
  have h : mainGlobals < s.heap.objs.size := (I.mod.glob.keeps I.bk).lt
  exact Nat.lt_trans (by decide) h
/-- d[y], there -/
theorem d_getItem {Q : Value → Shared → Prop} (hu : A.units + 1 < cLine) (I : Inv X pins σ H s) (g : DGet H a y (some v)) (ry : RelV y u) (h : ∀ w' s', Inv X pins σ H s' → RelV v w' → Q w' s') :
    wpAny (model X.prog X.w) A (getItem (.ref a) u) Q E s := by
  rcases g with ⟨kvs, k, e, ey, l⟩ | ⟨kvs, k, b, e, ey, eb, l⟩
  · subst ey
    obtain ⟨z, hd, vs, rel, dd⟩ := dk_rd I.hok e
    obtain ⟨w', hw, rw'⟩ := RelO.some_of (v := v) (o := valueAt vs k) (by rw [l]; exact rel.val k)
    exact wpAny_getItem_of (kV_is ry) dd.mapOf hw (h w' _ (I.tok _) rw')
  · subst ey
    cases (show u = Value.ref b from ry)
    obtain ⟨z, hd, xs, rel, dd⟩ := dt_rd I.hok e
    obtain ⟨w', hw, rw'⟩ := RelO.some_of (v := v) (o := (atKey xs k).map (·.2)) (by rw [l]; exact rel.val k)
    obtain ⟨p, hp, hp2⟩ := Option.map_eq_some_iff.mp hw
    refine wpAny_getItem_heap (tupleKind_room_in1 hu) (key_of I.hok eb) dd hp ?_
    rw [hp2]
    exact h w' _ (I.tok _) rw'
/-- y in d -/
theorem d_in {Q : Value → Shared → Prop} (hu : A.units + 1 < cLine) (I : Inv X pins σ H s) (g : DGet H a y o) (ry : RelV y u) (h : ∀ s', Inv X pins σ H s' → Q (.bool o.isSome) s') :
    wpAny (model X.prog X.w) A (compareOp .In u (.ref a)) Q E s := by
  rcases g with ⟨kvs, k, e, ey, l⟩ | ⟨kvs, k, b, e, ey, eb, l⟩
  · subst ey
    obtain ⟨z, hd, vs, rel, dd⟩ := dk_rd I.hok e
    refine wpAny_in_of (kV_is ry) hd dd.mapOf ?_
    rw [← (rel.val k).isSome_eq, ← l]
    exact h _ (I.tok _)
  · subst ey
    cases (show u = Value.ref b from ry)
    obtain ⟨z, hd, xs, rel, dd⟩ := dt_rd I.hok e
    refine wpAny_in_heap (tupleKind_room_in1 hu) (key_of I.hok eb) hd dd ?_
    have q := (rel.val k).isSome_eq
    rw [Option.isSome_map] at q
    rw [← q, ← l]
    exact h _ (I.tok _)
/-- a dict's object is replaced -/
theorem d_write {h' : Heap} {t' : Nat} {ob : HO} (I : Inv X pins σ H s) (mu : Mut (H a)) (hs : Heap.SameBut a s.heap h') (he : ∃ q, h'.get? a = some q) (new : ObjOk X.prog X.w (upd H a ob) h' a ob) :
    Inv X pins σ (upd H a ob) { s with heap := h', toks := t' } :=
  I.write (x := a) (e := a) mu (.inl rfl) (fun b q hb z => (hs.2 b hb).trans z) he new
theorem dk_new {P : Program} {w : World} {H' : Hp} {h' : Heap} {kvs : List (Key × V)} {vs : List (Key × Value)} (z : kvs.length ≤ sizeLine) (hd : (a == sysModules) = false) (rel : KV kvs vs) (dd : h'.DictOf (mixKind P w) a vs) :
    ObjOk P w H' h' a (.dK kvs) := ⟨z, hd, vs, rel, dd⟩
/-- d[y] = v -/
theorem d_setItem {H' : Hp} {Q : Unit → Shared → Prop} (hu : A.units + 1 < cLine) (I : Inv X pins σ H s) (g : DPut H a y v H') (ry : RelV y u) (rv : RelV v r) (h : ∀ s', Inv X pins σ H' s' → Q () s') :
    wpAny (model X.prog X.w) A (setItem (.ref a) u r) Q E s := by
  rcases g with ⟨kvs, k, e, ey, l, eH⟩ | ⟨kvs, k, b, e, ey, eb, l, eH⟩
  · subst ey eH
    obtain ⟨z, hd, vs, rel, dd⟩ := dk_of I.hok e
    have hz : vs.length ≤ sizeLine := by rw [← rel.length]; exact z
    have hl : (putK kvs k v).length ≤ sizeLine := by have := length_putK kvs k v; omega
    refine wpAny_setItem_pairs (hsz := hz) (kV_is ry) dd fun h' dd' hs => h _ ?_
    have he : ∃ q, h'.get? a = some q := let ⟨q, _, _, hq, _⟩ := dd'; ⟨q, hq⟩
    exact d_write I (by rw [e]; exact True.intro) hs he (dk_new hl hd (rel.put k rv) dd')
  · subst ey eH
    cases (show u = Value.ref b from ry)
    obtain ⟨z, hd, xs, rel, dd⟩ := dt_of I.hok e
    have hz : xs.length ≤ sizeLine := by rw [← Paired.length rel]; exact z
    have hl : (putK kvs k v).length ≤ sizeLine := by have := length_putK kvs k v; omega
    refine wpAny_setItem_heap (hsz := hz) (tupleKind_room_in1 hu) (key_of I.hok eb) dd fun h' dd' hs => h _ ?_
    obtain ⟨q, es, ep, hq, h2, h3, h4, _, h5⟩ := dd'
    refine d_write I (by rw [e]; exact True.intro) hs ⟨q, hq⟩ ⟨hl, hd, _, (rel.put k eb rv).keeps fun c ys ec => ?_, q, es, ep, hq, h2, h3, h4, h5⟩
    rw [upd_ne (ne_of ec e (fun z => nomatch z))]
    exact ec
end
section
variable {X : Cx} {pins : List (Addr × Obj)} {σ : St} {H : Hp} {s : Shared} {a : Addr} {kvs : List (Key × V)} {k : Key} {u : Value} {A : Around} {E : Value → Shared → Prop}
/-- d.pop(k[, x]), there -/
theorem d_pop {v : V} {more : List Value} {Q : Value → Shared → Prop} (I : Inv X pins σ H s) (e : H a = some (.dK kvs)) (ry : RelV (kV k) u) (l : valV kvs k = some v) (hm : more = [] ∨ ∃ x, more = [x])
    (h : ∀ w' s', Inv X pins σ (upd H a (.dK (dropK kvs k))) s' → RelV v w' → Q w' s') : wpAny (model X.prog X.w) A (call (.builtin "dict.pop") (.ref a :: u :: more)) Q E s := by
  obtain ⟨z, hd, vs, rel, dd⟩ := dk_of I.hok e
  obtain ⟨w', hw, rw'⟩ := RelO.some_of (v := v) (o := valueAt vs k) (by rw [← l]; exact rel.val k)
  have hp : (keyPart u).isSome = true := by
    cases k with
    | inl i => obtain ⟨t, q⟩ := (show ∃ t, u = Value.int i t from ry); subst q; rfl
    | inr x => obtain ⟨t, q⟩ := (show ∃ t, u = Value.str x t from ry); subst q; rfl
  have ha : argsOk "dict.pop" ⟨.ref a :: u :: more, []⟩ := by
    rcases hm with q | ⟨x, q⟩
    · subst q; exact PySem.F.args_dict_pop_2 _ _
    · subst q; exact PySem.F.args_dict_pop_3 _ _ _
  refine call_meetsIn PySem.F.slot_dict_pop dd.typeIs PySem.F.entry_dict_pop ha (meets_dict_pop_there (mixKind X.prog X.w) a (kV_is ry) more hm hp)
    ⟨vs, w', dd, by rw [← rel.length]; exact z, hw, fun h' dd' hs => h w' _ ?_ rw'⟩
  have he : ∃ q, h'.get? a = some q := let ⟨q, _, _, hq, _⟩ := dd'; ⟨q, hq⟩
  exact d_write I (by rw [e]; exact True.intro) hs he (dk_new (Nat.le_trans (dropK_le kvs k) z) hd (rel.drop k) dd')
/-- len(d) -/
theorem d_len {Q : Value → Shared → Prop} (I : Inv X pins σ H s) (e : Rd H a (.dK kvs)) (h : ∀ t s', Inv X pins σ H s' → Q (.int kvs.length t) s') : wpAny (model X.prog X.w) A (call (.builtin "len") [.ref a]) Q E s := by
  obtain ⟨z, hd, vs, rel, dd⟩ := dk_rd I.hok e
  refine call_len_dict hd dd (by rw [← rel.length]; rw [sizeLine_eq] at z; omega) ?_
  rw [← rel.length]
  exact h _ _ (I.tok _)
end
/-- the element of a subscription, not a slice -/
def NoSl (i : Expr) : Prop := ∀ ov iv, subscripted i false ov iv = operate [ov, iv] (getItem ov iv)
theorem subD_of {prog : Program} {w : World} {A : Around} {E : Value → Shared → Prop} {s : Shared} {env : Env} {value slice : Expr} {pos : Pos} {T id : String} {Q : Value → Shared → Prop}
    (hl : typeLookup (.type T) "__getitem__" = pure (some (.builtin id))) (hs : NoSl slice)
    (h : wpAny (model prog w) A (eval value env) (fun o s₁ => wpAny (model prog w) A (eval slice env) (fun i s₂ => s₂.TypeIs o T ∧ wpAny (model prog w) A (getItem o i) Q E s₂) E s₁) E s) :
    wpAny (model prog w) A (eval (.Subscript value slice pos) env) Q E s := by
  refine Subscript_ (wpAny_mono h (fun o s₁ h₁ => wpAny_mono h₁ (fun i s₂ h₂ => ?_) fun _ _ x => x) fun _ _ x => x)
  obtain ⟨hT, h₂⟩ := h₂
  unfold subscriptTail
  refine wpAny_bind ?_
  rw [getitemInPython_of_ne hT.not_modules]
  refine wpAny_bind (wpAny_specialOf hT hl ?_)
  have fin : wpAny (model prog w) A (subscripted slice false o i) (fun r s₃ => wpAny (model prog w) A (letTemporaryGo value o r >>= fun _ => pure r) Q E s₃) E s₂ := by
    rw [hs o i]
    exact wpAny_operating (wpAny_mono h₂ (fun r s₃ h₃ => wpAny_bind (wpAny_letTemporaryGo (wpAny_pure h₃))) fun _ _ x => x)
  first
    | exact wpAny_pure (wpAny_bind fin)
    | exact wpAny_bind (wpAny_pure (wpAny_bind fin))
    | exact wpAny_bind fin
theorem dict_typeIs {X : Cx} {pins : List (Addr × Obj)} {σ : St} {H : Hp} {s : Shared} {a : Addr} {y : V} {o : Option V} (I : Inv X pins σ H s) (g : DGet H a y o) : s.TypeIs (.ref a) "dict" := by
  rcases g with ⟨kvs, k, e, _, _⟩ | ⟨kvs, k, b, e, _, _, _⟩
  · obtain ⟨_, _, vs, _, dd⟩ := dk_rd I.hok e
    exact dd.typeIs
  · obtain ⟨_, _, xs, _, dd⟩ := dt_rd I.hok e
    exact dd.typeIs
/-- d[y] -/
def tDGet (td ty : TE) : TE := fun σ H Q => td σ H fun x H1 => ty σ H1 fun y H2 => ∃ a v, x = .ref a ∧ DGet H2 a y (some v) ∧ Q v H2
/-- y in d, y not in d -/
def tDIn (ty td : TE) : TE := fun σ H Q => ty σ H fun y H1 => td σ H1 fun x H2 => ∃ a o, x = .ref a ∧ DGet H2 a y o ∧ Q (.bl o.isSome) H2
/-- d[y] = v -/
def sDPut (td ty tv : TE) : TS := fun D σ H => tv σ H fun v H1 => td σ H1 fun x H2 => ty σ H2 fun y H3 => ∃ a H4, x = .ref a ∧ DPut H3 a y v H4 ∧ D.nx σ H4
section
variable {X : Cx} {o i e value : Expr} {pos pos' tpos : Pos} {td ty tv : TE}
theorem pe_dget (hu : X.A.units + 1 < cLine) (ho : PE X o td) (hi : PE X i ty) (hs : NoSl i) : PE X (.Subscript o i pos) (tDGet td ty) := by
  intro pins s σ H Q I h
  refine subD_of PySem.F.slot_dict_getitem.lookup hs (thn (ho pins s σ H _ I h) fun u s1 ⟨x, H1, I1, rx, q1⟩ => thn (hi pins s1 σ H1 _ I1 q1) fun iv s2 ⟨y, H2, I2, ry, a, v, ex, g, q2⟩ => ?_)
  subst ex
  obtain rfl : u = Value.ref a := rx
  exact ⟨dict_typeIs I2 g, d_getItem hu I2 g ry fun w' s3 I3 rw' => ⟨v, H2, I3, rw', q2⟩⟩
theorem pc_din (hu : X.A.units + 1 < cLine) (hi : PE X i ty) (ho : PE X o td) : PC X .In i o (tDIn ty td) := by
  intro pins s σ H Q I h
  refine thn (hi pins s σ H _ I h) fun iv s1 ⟨y, H1, I1, ry, q1⟩ => thn (ho pins s1 σ H1 _ I1 q1) fun u s2 ⟨x, H2, I2, rx, a, ov, ex, g, q2⟩ => ?_
  subst ex
  obtain rfl : u = Value.ref a := rx
  exact d_in hu I2 g ry fun s3 I3 => ⟨.bl ov.isSome, H2, I3, rfl, q2⟩
theorem ps_dput (hu : X.A.units + 1 < cLine) (ho : PE X o td) (hi : PE X i ty) (hv : PE X value tv) (hs : swapsWith value (some (.Subscript o i pos')) pos.line X.env = pure false) :
    PS X (.Assign [.Subscript o i pos'] value pos) (sDPut td ty tv) := by
  intro pins s σ H D I h
  refine wpAny_Assign_Subscript (thn (hv pins s σ H _ I h) fun r s1 ⟨v, H1, I1, rv, q1⟩ => thn (ho pins s1 σ H1 _ I1 q1) fun u s2 ⟨x, H2, I2, rx, q2⟩ => thn (hi pins s2 σ H2 _ I2 q2) fun iv s3 ⟨y, H3, I3, ry, a, H4, ex, g, q3⟩ => ?_) hs
  subst ex
  obtain rfl : u = Value.ref a := rx
  exact d_setItem hu I3 g ry rv fun s4 I4 => ⟨σ, H4, I4, q3⟩
end
theorem dk_empty {P : Program} {w : World} {H : Hp} (h : Heap) (hb : sysModules < h.objs.size) : ObjOk P w H (h.push { cls := .type "dict", data := .dict #[] }) h.objs.size (.dK []) :=
  ⟨Nat.zero_le _, beq_eq_false_iff_ne.mpr (Ne.symm (Nat.ne_of_lt hb)), [], .nil, Heap.DictOf.new h⟩
/-- {}, to be a dict of the kind that is wanted -/
def tDNewK : TE := fun _ H Q => ∀ p, H p = none → Q (.ref p) (upd H p (.dK []))
section
variable {X : Cx} {pos : Pos}
theorem pe_dnewK : PE X (.Dict [] [] pos) tDNewK := fun pins s σ H Q I h =>
  wpAny_Dict_empty ⟨.ref s.heap.objs.size, _, I.laid (a := s.heap.objs.size) (o := .dK []) (t' := s.toks) (fun _ _ q => Heap.get?_push_of_some _ q) (Nat.le_refl _) (dk_empty s.heap I.big), rfl, h _ (I.hok.fresh (Nat.le_refl _))⟩
end
/-- the pairs of a display, from the left -/
def tPairs : List (TE × TE) → St → Hp → (List (V × V) → Hp → Prop) → Prop
  | [], _, H, Q => Q [] H
  | (tk, tv) :: r, σ, H, Q => tk σ H fun x H1 => tv σ H1 fun y H2 => tPairs r σ H2 fun ps H3 => Q ((x, y) :: ps) H3
abbrev VV : List (V × V) → List (Value × Value) → Prop := Paired fun p q => RelV p.1 q.1 ∧ RelV p.2 q.2
def PPs (X : Cx) (pos : Pos) (keys : List (Option Expr)) (values : List Expr) (trs : List (TE × TE)) : Prop :=
  ∀ (pins : List (Addr × Obj)) (s : Shared) (σ : St) (H : Hp) (Q : List (V × V) → Hp → Prop), Inv X pins σ H s → tPairs trs σ H Q →
    wpAny (model X.prog X.w) X.A (evalPairs (pairTrees keys values X.env pos)) (fun vs s' => ∃ ps H', Inv X pins σ H' s' ∧ VV ps vs ∧ Q ps H') X.xe s
theorem pps_nil {X : Cx} {pos : Pos} : PPs X pos [] [] [] := fun pins s σ H Q I h => pairTrees_nil_walk ⟨[], H, I, .nil, h⟩
theorem pps_cons {X : Cx} {pos : Pos} {k v : Expr} {ks : List (Option Expr)} {vs : List Expr} {tk tv : TE} {trs : List (TE × TE)} (hk : PE X k tk) (hv : PE X v tv) (hr : PPs X pos ks vs trs) :
    PPs X pos (some k :: ks) (v :: vs) ((tk, tv) :: trs) := fun pins s σ H Q I h =>
  pairTrees_cons_walk (thn (hk pins s σ H _ I h) fun u s1 ⟨x, H1, I1, rx, q1⟩ => thn (hv pins s1 σ H1 _ I1 q1) fun w2 s2 ⟨y, H2, I2, ry, q2⟩ =>
    thn (hr pins s2 σ H2 _ I2 q2) fun ws s3 ⟨ps, H3, I3, rel, q3⟩ => ⟨(x, y) :: ps, H3, I3, .cons ⟨rx, ry⟩ rel, q3⟩)
def mergeK (kvs more : List (Key × V)) : List (Key × V) := more.foldl (fun acc kv => putK acc kv.1 kv.2) kvs
theorem KV.merge : ∀ {more : List (Key × V)} {rs : List (Key × Value)} {kvs : List (Key × V)} {vs : List (Key × Value)}, KV more rs → KV kvs vs → KV (mergeK kvs more) (merged vs rs) := by
  intro more rs kvs vs r
  unfold KV at r
  induction r generalizing kvs vs with
  | nil => intro q; exact q
  | @cons p q ps qs h t ih =>
    intro r0
    have e : KV (putK kvs p.1 p.2) (stored vs q.1 q.2) := by
      have := r0.put p.1 h.2
      rw [← h.1]; exact this
    exact ih e
theorem length_mergeK : ∀ (more kvs : List (Key × V)), (mergeK kvs more).length ≤ kvs.length + more.length
  | [], kvs => by show kvs.length ≤ kvs.length + 0; omega
  | p :: r, kvs => by
    have h1 := length_mergeK r (putK kvs p.1 p.2)
    have h2 := length_putK kvs p.1 p.2
    show (mergeK (putK kvs p.1 p.2) r).length ≤ _
    rw [List.length_cons]; omega
theorem carries_of {P : Program} {w : World} : ∀ {kvs : List (Key × V)} {ws : List (Value × Value)}, VV (kvs.map fun kv => (kV kv.1, kv.2)) ws → ∃ rs, Carries (mixKind P w) ws rs ∧ KV kvs rs
  | [], _, r => by rw [List.map_nil] at r; cases r; exact ⟨[], True.intro, .nil⟩
  | p :: kvs, _, r => by
    rw [List.map_cons] at r
    cases r with
    | @cons a b as bs h t =>
      obtain ⟨rs, c, q⟩ := carries_of (P := P) (w := w) t
      obtain ⟨b1, b2⟩ := b
      exact ⟨(p.1, b2) :: rs, ⟨kV_is h.1, rfl, c⟩, .cons ⟨rfl, h.2⟩ q⟩
/-- {k: v, ..} with keys ints and texts; the new dict stands empty while the pairs are made -/
def tDisp (trs : List (TE × TE)) : TE := fun σ H Q => ∀ p, H p = none → tPairs trs σ (upd H p (.dK [])) fun ps H2 => H2 p = some (.dK []) ∧ ∃ kvs : List (Key × V), ps = kvs.map (fun kv => (kV kv.1, kv.2)) ∧ kvs.length ≤ 15 ∧ Q (.ref p) (upd H2 p (.dK (mergeK [] kvs)))
theorem pe_disp {X : Cx} {pos : Pos} {keys : List (Option Expr)} {values : List Expr} {trs : List (TE × TE)} (h : PPs X pos keys values trs) (hall : keys.all (·.isSome) = true) (hl : keys.length = values.length) (h0 : keys ≠ [])
    (h15 : keys.length ≤ 15) : PE X (.Dict keys values pos) (tDisp trs) := by
  intro pins s σ H Q I q
  have hn := I.hok.fresh (Nat.le_refl s.heap.objs.size)
  have I1 := I.laid (a := s.heap.objs.size) (o := .dK []) (h' := s.heap.push { cls := .type "dict", data := .dict #[] }) (t' := s.toks) (fun _ _ q => Heap.get?_push_of_some _ q) (Nat.le_refl _) (dk_empty s.heap I.big)
  refine wpAny_Dict_walk (knd := mixKind X.prog X.w) hall hl h0 h15 (thn (h pins _ σ _ _ I1 (q _ hn)) fun ws s2 ⟨ps, H2, I2, rel, e, kvs, ep, lk, q2⟩ => ?_)
  subst ep
  obtain ⟨rs, c, rk⟩ := carries_of (P := X.prog) (w := X.w) rel
  obtain ⟨z, hd, vs0, r0, dd⟩ := dk_of I2.hok e
  cases r0
  refine ⟨rs, c, dd, fun h' dd' hs => ⟨.ref s.heap.objs.size, _, ?_, rfl, q2⟩⟩
  have hz : (mergeK [] kvs).length ≤ sizeLine := by
    have h1 := length_mergeK kvs []
    rw [List.length_nil] at h1
    rw [sizeLine_eq]; omega
  have he : ∃ q, h'.get? s.heap.objs.size = some q := let ⟨q, _, _, hq, _⟩ := dd'; ⟨q, hq⟩
  exact d_write I2 (by rw [e]; exact True.intro) hs he (dk_new hz hd (rk.merge .nil) dd')
/-- a method call o.m(e) of a built-in, with one argument: what must be seen of the text -/
structure M1 (X : Cx) (o : Expr) (m : Str) (apos : Pos) (e : Expr) (cpos : Pos) : Prop where
  base : attributeBase o m X.env (eval o X.env) = eval o X.env
  few : ((backTo cpos (starEach [e] X.env)).all (fun x => !x.1) && (backToKw cpos (keywordEach [] X.env)).all (fun x => x.1.isSome)
    && decide (([e] : List Expr).length + ([] : List Keyword).length + (if ([] : List Keyword).isEmpty then 0 else 1) < 30)) = true
  line : (apos.endLine == cpos.line) = true
  trees : backTo cpos (starEach [e] X.env) = [(false, eval e X.env)]
/-- a is a dict, whatever its keys -/
def IsD (H : Hp) (a : Addr) : Prop := (∃ kvs, Rd H a (.dK kvs)) ∨ ∃ kvs, Rd H a (.dT kvs)
theorem isD_at {X : Cx} {pins : List (Addr × Obj)} {σ : St} {H : Hp} {s : Shared} {a : Addr} (I : Inv X pins σ H s) (d : IsD H a) :
    s.TypeIs (.ref a) "dict" ∧ (∀ b, Value.ref a = .ref b → ∃ ob, s.heap.get? b = some ob ∧ ob.dict = none) ∧ (a == sysModules) = false := by
  rcases d with ⟨kvs, e⟩ | ⟨kvs, e⟩
  · obtain ⟨_, hd, vs, _, dd⟩ := dk_rd I.hok e
    refine ⟨dd.typeIs, fun b q => ?_, hd⟩
    cases q
    obtain ⟨ob, _, _, h1, h2, _⟩ := dd
    exact ⟨ob, h1, h2.2.1⟩
  · obtain ⟨_, hd, xs, _, dd⟩ := dt_rd I.hok e
    refine ⟨dd.typeIs, fun b q => ?_, hd⟩
    cases q
    obtain ⟨ob, _, _, h1, h2, _⟩ := dd
    exact ⟨ob, h1, h2.2.1⟩
section
variable {X : Cx} {pins : List (Addr × Obj)} {σ : St} {H : Hp} {s : Shared} {a : Addr} {y d : V} {u r : Value} {o : Option V} {A : Around} {E : Value → Shared → Prop}
end
/-- d.pop(k): there; d.pop(k, x): there or not -/
def tDPop1 (td ty : TE) : TE := fun σ H Q => td σ H fun x H1 => ∃ a, x = .ref a ∧ IsD H1 a ∧ ty σ H1 fun y H2 => ∃ kvs k v, H2 a = some (.dK kvs) ∧ y = kV k ∧ valV kvs k = some v ∧ Q v (upd H2 a (.dK (dropK kvs k)))
section
variable {X : Cx} {o e f : Expr} {apos cpos : Pos} {td ty tx : TE}
theorem pe_dpop1 (ho : PE X o td) (he : PE X e ty) (m : M1 X o "pop" apos e cpos) : PE X (.Call (.Attribute o "pop" apos) [e] [] cpos) (tDPop1 td ty) := by
  intro pins s σ H Q I h
  refine wpAny_Call_method m.base m.few m.line PySem.F.plainAttrs_dict PySem.F.slot_dict_pop PySem.F.type_dict_pop (thn (ho pins s σ H _ I h) fun u s1 ⟨x, H1, I1, rx, a, ex, d, q1⟩ => ?_)
  subst ex
  obtain rfl : u = Value.ref a := rx
  obtain ⟨t1, t2, _⟩ := isD_at I1 d
  refine ⟨t1, t2, ?_⟩
  rw [m.trees]
  refine Calls.callWith_builtin rfl (Calls.evalArgs_plain (Calls.spliced_cons (thn (he pins s1 σ H1 _ I1 q1) fun iv s2 ⟨y, H2, I2, ry, kvs, k, v, ea, ey, l, q2⟩ => Calls.spliced_nil ?_)))
  subst ey
  exact d_pop I2 ea ry l (.inl rfl) fun w' s3 I3 rw' => ⟨v, _, I3, rw', q2⟩
end
section
variable {X : Cx} {pins : List (Addr × Obj)} {σ : St} {H : Hp} {s : Shared} {a : Addr} {kvs : List (Key × V)} {A : Around} {E : Value → Shared → Prop}
end
section
variable {X : Cx} {pins : List (Addr × Obj)} {σ : St} {H : Hp} {s : Shared} {a : Addr} {y : V} {u : Value} {A : Around} {E : Value → Shared → Prop}
end
end L2
namespace Att
open PySem PySem.W PySem.Calls PyProof.Rows
theorem ints_of_wellAll {P : Params} {h : Heap} : ∀ (ns : List Int) (vs : List Value), WellAll P h vs (ns.map WData.int) → IntsAre vs ns := by
  intro ns
  induction ns with
  | nil =>
    intro vs w
    rw [List.map_nil] at w
    cases w
    exact .nil
  | cons n ns ih =>
    intro vs w
    rw [List.map_cons] at w
    cases w with
    | cons a b =>
      cases a
      exact .cons _ _ (ih _ b)
theorem script_of {l : OpenLaw} {n : Nat} (hn : l.most = some n) {P : Params} {h : Heap} {args : List WData} {vals : List Value}
    (hpre : l.row.toRowW.claim.pre args = true) (hwl : WellAll P h vals args) :
    ∃ a vs ns, vals = [Value.ref a] ∧ args = [WData.list (ns.map WData.int)] ∧ h.get? a = some { cls := .type "list", data := .seq vs.toArray } ∧ IntsAre vs ns ∧ ns.length ≤ n := by
  have hsh : WShape.hasAll [] args [.list .int] = true := (pre_splitW hpre).1
  have hc : l.pre.holds [] { args := args } = true := (pre_splitW hpre).2
  obtain ⟨d, r, rfl, h1, h2⟩ := hasAllW_cons hsh
  obtain rfl := hasAllW_nil h2
  obtain ⟨xs, rfl, h3⟩ := hasW_list h1
  obtain ⟨ns, rfl⟩ := items_int h3
  have hlen : ns.length ≤ n := by
    unfold OpenLaw.pre at hc
    have h4 : (WTm.not (.lt (.lit (.int (n : Int))) (.len (.arg 0)))).holds [] { args := [.list (ns.map .int)] } = true := by
      have h4 := (holds_andW hc).1
      rw [hn] at h4
      exact h4
    have h5 := condW_of h4 (w_not (w_lt w_lit (w_len_list (w_arg rfl))))
    rw [List.length_map] at h5
    refine Nat.le_of_not_lt fun q => ?_
    have q' : (n : Int) < ((ns.length : Nat) : Int) := by omega
    first
      | (rw [decide_eq_true q'] at h5; exact absurd h5 (by decide))
      | (simp at h5; omega)
  cases hwl with
  | cons w1 w2 =>
    cases w2
    cases w1 with
    | list ho hall => exact ⟨_, _, ns, rfl, rfl, ho, ints_of_wellAll ns _ hall, hlen⟩
theorem post_true (l : OpenLaw) (args : List WData) : l.row.toRowW.claim.post args (.bool true) args = true :=
  postW_of (r := l.row.toRowW) (X := (true == true))
    (show WShape.has [] (.bool true) .bool = true by first | rfl | decide | simp [WShape.has, WShape.arms, WShape.armsAll])
    (show (WTm.eq .res (.lit (.bool true))).value [] { args := args, res := some (.bool true), after := args } = some (.bool (true == true)) from w_eq_bool (w_res rfl) w_lit) rfl
/-- the same from a codeAny of the CALL (for a layer whose function contracts speak of calls) -/
theorem attach_call {l : OpenLaw} {n : Nat} {q : Program} {loose : List Str} {XP : (Str → Option Value) → Heap → Prop} {YP : World → Heap → Prop} {d : DefRec}
    (hn : l.most = some n) (hdf : d.params.defaults = [])
    (call : ∀ (w : World) (s₀ s₁ : Shared) (mg mb : Str → Option Value) (fa : Addr) (o : Obj) (pm cd doc : Value) (a : Addr) (vs : List Value) (ns : List Int),
      Ground q loose [] XP w s₀ mg mb s₁.heap → YP w s₁.heap →
      s₁.heap.get? fa = some o → o.data = .func (docDef d.name d.params d.body d.scope pm cd doc) → s₁.heap.CodeRec cd d.name → mg d.name = some (.ref fa) →
      s₁.heap.get? a = some { cls := .type "list", data := .seq vs.toArray } → IntsAre vs ns → ns.length ≤ n → s₁.gens = #[] →
      codeAny (model l.prog w) callerA (.call (.ref fa) ⟨[.ref a], []⟩) (fun r s' => r = .ok (.ret (.bool true)) ∧ OldK s₁.heap s'.heap ∧ s'.os = s₁.os ∧ AllBare s'.gens) s₁) :
    WalkO q loose XP YP l.row.toRowW d [] (fun f vs => PySem.call f vs) := by
  intro w s₀ s₁ mg mb G Y fa o pm cd doc dV kV ho hd hcd hD hmg hg args vals as hpre hlay hrd hwl hlo
  obtain rfl : dV = .none := Dflts.none hD hdf
  obtain rfl : kV = .none := Dflts.noKw hD
  obtain ⟨a, vs, ns, rfl, rfl, hobj, hints, hlen⟩ := script_of hn hpre hwl
  refine enter_call (codeAny_mono (call w s₀ s₁ mg mb fa o pm cd doc a vs ns G Y ho (fd_plain hd) hcd hmg hobj hints hlen hg) fun r s' hq => ?_)
  obtain ⟨rfl, h2, h3, h4⟩ := hq
  exact ⟨.inl ⟨.bool true, .bool true, [], rfl, fun _ => rfl, .bool true, post_true l _, fun _ => ⟨List.Pairwise.nil, fun _ hm => (nomatch hm)⟩⟩, h2, h3, h4⟩
section
variable {prog : Program} {w : World} {A : Around} {E : Value → Shared → Prop} {s : Shared} {K : Frag}
end
end Att
namespace L2
open PySem PySem.Spec PyProof.Rows
theorem vals_ints : ∀ {vs : List Value} {ns : List Int}, IntsAre vs ns → Vals (ns.map V.int) vs
  | _, _, .nil => .nil
  | _, _, .cons n t h => .cons ⟨t, rfl⟩ (vals_ints h)
/-- nothing is tracked but the script, known to the object (or it is an object of the module) -/
def Only (H : Hp) : Prop := ∀ b, H b = none ∨ ∃ o xs, H b = some (.frz o (.lst xs))
/-- THE HEAD: the law's promise, at the heap behind the top. F, the promise of the law's def, may use that base is part of the heap (so K.In base, base.Ns mainGlobals mg stand in Mod) -/
theorem law_call {P : Program} {w : World} {K : PySem.W.Frag} {mg mb : Str → Option Value} {CX : CXT} {k : Nat} {fa a : Addr} {fd : FuncData} {x : Str} {sp : Sp} {s₁ : Shared} {vs : List Value} {ns : List Int}
    (KX : K.In s₁.heap) (hns : s₁.heap.Ns mainGlobals mg) (hb : s₁.heap.Ns builtinsNs mb) (hbb : ∀ x : Str, x ≠ "__name__" → mb x = bootBuiltins x) (hlim : s₁.heap.NoLimit) (hg : s₁.gens = #[])
    (ha : s₁.heap.get? a = some { cls := .type "list", data := .seq vs.toArray }) (hi : IntsAre vs ns) (hl : ns.length ≤ sizeLine) (hr : Room k callerA)
    (F : ∀ base : Heap, K.In base → base.Ns mainGlobals mg → FnOk P w K mg base CX k fa fd [x] sp) (hbind : ∀ (s : Shared) (u : Value), BindsTo s fd ⟨[u], []⟩ [(x, u)])
    (hsp : ∀ H : Hp, Only H → SqL K H a (ns.map V.int) → sp [.ref a] H (fun v _ => v = .bl true) fun _ _ _ => False)
    (hCX : ∀ H e s', CX [] H s₁ (fun _ _ _ => False) e s' → False) :
    codeAny (model P w) callerA (.call (.ref fa) ⟨[.ref a], []⟩) (fun r s' => r = .ok (.ret (.bool true)) ∧ OldK s₁.heap s'.heap ∧ s'.os = s₁.os ∧ AllBare s'.gens) s₁ := by
  have rv := vals_ints hi
  have lenV := hi.length
  -- from an abstract heap in which nothing but the script may be tracked
  have core : ∀ H : Hp, Only H → SqL K H a (ns.map V.int) → HOk P w H s₁.heap → (∀ b, H b ≠ none → b = a) → (H a ≠ none → K.lookup a = none) →
      codeAny (model P w) callerA (.call (.ref fa) ⟨[.ref a], []⟩) (fun r s' => r = .ok (.ret (.bool true)) ∧ OldK s₁.heap s'.heap ∧ s'.os = s₁.os ∧ AllBare s'.gens) s₁ := by
    intro H hO hS hok hA hK
    have base_of : ∀ {b : Addr} {o : Obj}, s₁.heap.get? b = some o → H b = none → (hidT s₁.heap H).get? b = some o := fun e n => hidT_get e n
    have noA : ∀ {b : Addr} {o : Obj} {es : Array DictEntry} {ep : Nat}, s₁.heap.get? b = some o → o.data = .dict es ep → H b = none := fun {b o es ep} e d => by
      cases q : H b with
      | none => rfl
      | some u =>
        have e' : b = a := hA b (by rw [q]; simp)
        subst e'
        rw [ha] at e; cases e
        have d' : Data.seq vs.toArray _ = Data.dict es ep := d
        cases d'
    have nsK : ∀ {b : Addr} {m : Str → Option Value}, s₁.heap.Ns b m → (hidT s₁.heap H).Ns b m := fun {b m} ⟨o, es, ep, e, d, r⟩ => ⟨o, es, ep, base_of e (noA e d), d, r⟩
    have hKb : K.In (hidT s₁.heap H) := fun b o e => base_of (KX b o e) (by
      cases q : H b with
      | none => rfl
      | some u =>
        have e' : b = a := hA b (by rw [q]; simp)
        subst e'
        rw [hK (by rw [q]; simp)] at e; cases e)
    have hM : Mod K mg (hidT s₁.heap H) := ⟨hKb, nsK hns, ⟨mb, nsK hb, hbb⟩, let ⟨mc, h1, h2⟩ := hlim; ⟨mc, nsK h1, h2⟩⟩
    have e0 : Env0 P w K mg (hidT s₁.heap H) callerA [] s₁ H := ⟨rfl, hM, fun b o e => of_hidT e, Nat.le_of_eq (hidT_size _ _), trivial, fun b hb => absurd (show b ∈ ([] : List Addr) from hb) (by simp), hok, .of_eq hg⟩
    refine codeAny_mono ((F _ hKb (nsK hns)).run callerA [] s₁ H ⟨[.ref a], []⟩ [.ref a] [.ref a] _ _ hr e0 (hbind s₁ (.ref a)) (.cons rfl .nil) (hsp H hO hS)) fun r s' h => ?_
    cases r with
    | error e => exact (hCX H e s' h).elim
    | ok fl =>
      cases fl with
      | next => exact False.elim h
      | brk => exact False.elim h
      | cont => exact False.elim h
      | ret u =>
        obtain ⟨v, H', os, bare, un, hok', r', q⟩ := h
        have q' : v = .bl true := q
        subst q'
        obtain rfl : u = Value.bool true := r'
        refine ⟨rfl, OldK.of_keep fun b o e => ?_, os, bare⟩
        cases q : H b with
        | none => exact un.keep b o e q (by intro z; exact absurd (show b ∈ ([] : List Addr) from z) (by simp)) (by simp)
        | some u =>
          rcases hO b with z | ⟨ob, xs, z⟩
          · rw [q] at z; cases z
          · have z2 := un.frzs b ob _ z
            obtain ⟨e1, _⟩ := hok b _ z
            obtain ⟨e2, _⟩ := hok' b _ z2
            rw [e] at e1; cases e1
            exact e2
  cases hk : K.lookup a with
  | some o =>
    -- the script is one of the module's own objects
    have e := KX a o hk
    rw [ha] at e
    cases e
    refine core (fun _ => none) (fun _ => .inl rfl) (.inr ⟨_, vs.toArray, _, hk, rfl, rfl, rfl, by rw [List.size_toArray, lenV]; exact hl, by simpa using rv⟩) (fun b u z => by have z' : (none : Option HO) = some u := z; cases z') (fun b z => absurd rfl z) fun z => absurd rfl z
  | none =>
    refine core (fun b => if b = a then some (.frz { cls := .type "list", data := .seq vs.toArray } (.lst (ns.map V.int))) else none) (fun b => ?_) (.inl (.inr ⟨{ cls := .type "list", data := .seq vs.toArray }, if_pos rfl⟩)) (fun b u z => ?_) (fun b z => ?_) fun _ => hk
    · by_cases hb : b = a
      · exact .inr ⟨_, _, if_pos hb⟩
      · exact .inl (if_neg hb)
    · by_cases hb : b = a
      · have z' := (if_pos hb).symm.trans z
        cases z'
        subst hb
        exact ⟨ha, by rw [List.length_map]; exact hl, vs, _, rv, ha⟩
      · have z' := (if_neg hb).symm.trans z
        cases z'
    · by_cases hb : b = a
      · exact hb
      · exact absurd (if_neg hb) z
end L2
namespace L2
open PySem PySem.Spec PyProof.Rows
/-- the goal that k_head leaves (case hc), from the law's promise. F gives the function object fd (K's own) once, then the promise over every base -/
theorem walk_of {l : PySem.W.OpenLaw} {n k : Nat} {q : Program} {loose : List Str} {XP : (Str → Option Value) → Heap → Prop} {YP : World → Heap → Prop} {d : DefRec} {K : Params → PySem.W.Frag} {CX : World → CXT} {sp : World → Sp} {x : Str}
    (hn : l.most = some n) (hn2 : n ≤ sizeLine) (hdf : d.params.defaults = []) (hr : Room k callerA)
    (hY : ∀ (w : World) (h : Heap), YP w h → (K w.params).In h)
    (F : ∀ (w : World) (mg : Str → Option Value) (fa : Addr) (h : Heap), (K w.params).In h → h.Ns mainGlobals mg → mg d.name = some (.ref fa) →
      ∃ fd : FuncData, (∀ (s : Shared) (u : Value), BindsTo s fd ⟨[u], []⟩ [(x, u)]) ∧
        ∀ base : Heap, (K w.params).In base → base.Ns mainGlobals mg → FnOk l.prog w (K w.params) mg base (CX w) k fa fd [x] (sp w))
    (hsp : ∀ (w : World) (H : Hp) (a : Addr) (ns : List Int), ns.length ≤ n → Only H → SqL (K w.params) H a (ns.map V.int) → sp w [.ref a] H (fun v _ => v = .bl true) fun _ _ _ => False)
    (hCX : ∀ (w : World) (H : Hp) (s : Shared) (e : Value) (s' : Shared), CX w [] H s (fun _ _ _ => False) e s' → False) :
    PySem.W.WalkO q loose XP YP l.row.toRowW d [] (fun f vs => PySem.call f vs) := by
  refine Att.attach_call hn hdf fun w s₀ s₁ mg mb fa o pm cd doc a vs ns G Y ho hd hcd hmg hobj hints hlen hg => ?_
  have KX := hY w _ Y
  obtain ⟨fd, hb, hF⟩ := F w mg fa _ KX G.T.g hmg
  exact law_call KX G.T.g G.T.b G.T.builtins G.T.nolimit hg hobj hints (Nat.le_trans hlen hn2) hr hF hb (fun H hO hS => hsp w H a ns hlen hO hS) fun H e s' => hCX w H s₁ e s'
end L2
/- THE LAST THEOREM (shape; LID, My.* are yours):
   My.Adr: a structure of the addresses that your layer names (classes, functions); My.Txt K t: a structure (Prop) of the equations over K;
   My.txt_mk : {K} {implicit addresses ..} (e1 : nsIn K mainGlobals "law" = some (some (.ref f))) (e2 : K.lookup f = some ⟨oc, od, .func (fnOf "law" "law" params body scope dV kV doc pm an cdv ct), sl⟩) (e3 : codeIn K cdv "law" = true) .. : ∃ t, My.Txt K t
set_option maxRecDepth 100000 in
set_option maxHeartbeats 0 in
(the tactic k_is has no namespace: write k_is) -/
namespace L2
open PySem PySem.Spec PyProof.Rows
/-- the j-th statement of a class's body -/
def inClass (s : Stmt) (j : Nat) : Stmt := match s with
  | .ClassDef _ _ _ body _ _ _ _ _ _ _ => body.getD j (.Pass ⟨0, 0, 0, 0⟩)
  | _ => .Pass ⟨0, 0, 0, 0⟩
def defArgs (s : Stmt) : Arguments := match s with
  | .FunctionDef _ a _ _ _ _ _ _ _ _ => a
  | _ => { posonlyargs := [], args := [], vararg := none, kwonlyargs := [], kw_defaults := [], kwarg := none, defaults := [] }
def defBody (s : Stmt) : List Stmt := match s with
  | .FunctionDef _ _ b _ _ _ _ _ _ _ => b
  | _ => []
def defScope (s : Stmt) : Scope := match s with
  | .FunctionDef _ _ _ _ _ _ sc _ _ _ => sc
  | _ => { kind := .function, names := [], isGenerator := false, isCoroutine := false }
abbrev CX0 : CXT := fun _ _ _ _ _ _ => False
abbrev E0 : XK := fun _ _ _ => False
theorem pass0 {X : Cx} : Passes CX0 X E0 := fun _ _ _ _ _ _ _ h => h.elim
structure Fun (K : PySem.W.Frag) (x qual : Str) (st : Stmt) (f : Addr) (fd : FuncData) : Prop where
  ex : ∃ (oc : Value) (od : Option Addr) (kV doc pm : Value) (an : Option Addr) (cdv ct : Value) (osl : Array (Option Value)),
    fd = PySem.W.fnOf x qual (defArgs st) (defBody st) (defScope st) .none kV doc pm an cdv ct ∧ K.lookup f = some ⟨oc, od, .func fd, osl⟩ ∧ PySem.W.codeIn K cdv qual = true
  kp : PySem.W.keepIn K (.ref f) = true
section
variable {P : Program} {w : World} {K : PySem.W.Frag} {mg : Str → Option Value} {base : Heap}
/-- THE RULE for a def: its body as a term of rules, and the reading of that term -/
theorem Fun.ok {x qual : Str} {st : Stmt} {f : Addr} {fd : FuncData} {N ps : List Str} {k : Nat} {sp : Sp} (F : Fun K x qual st f fd) (S : FnScope N ps (defScope st)) (len : ∀ vs H Q E, sp vs H Q E → vs.length = ps.length)
    (hbody : ∀ (cdv : Value) (A : Around) (outer : List Env) (s : Shared) (H : Hp) (vs : List V) (Q : VK) (E : XK), Room k (A.deeper (envOfC qual (defScope st) s.heap.objs.size f cdv)) → sp vs H Q E →
      ∃ t, PSs (cxOf CX0 P w K mg base N qual (defScope st) f cdv A outer s H E).nox (defBody st) t ∧ t { nx := fun _ H' => Q .non H', rt := Q } (start N vs) H) : FnOk P w K mg base CX0 (k + 1) f fd ps sp := by
  obtain ⟨oc, od, kV, doc, pm, an, cdv, ct, osl, rfl, lk, hcd⟩ := F.ex
  refine fn_of lk hcd S len fun A outer s H vs Q E hr hsp => ?_
  obtain ⟨t, h, q⟩ := hbody cdv A outer s H vs Q E hr hsp
  exact ⟨t, h.nox, q⟩
/-- how its arguments bind (no defaults): h is «fun _ _ _ _ _ _ us hl => match us, hl with | [_, _], _ => rfl», one _ a parameter -/
theorem Fun.binds {x qual : Str} {st : Stmt} {f : Addr} {fd : FuncData} {ps : List Str} (F : Fun K x qual st f fd)
    (h : ∀ (kV doc pm : Value) (an : Option Addr) (cdv ct : Value) (us : List Value), us.length = ps.length → bindArgs (PySem.W.fnOf x qual (defArgs st) (defBody st) (defScope st) .none kV doc pm an cdv ct) ⟨us, []⟩ = pure (ps.zip us)) : Binds K fd ps [] := by
  obtain ⟨oc, od, kV, doc, pm, an, cdv, ct, osl, rfl, lk, hcd⟩ := F.ex
  exact .all (h kV doc pm an cdv ct)
theorem fun_mk {x qual : Str} {st : Stmt} {f : Addr} {oc : Value} {od an : Option Addr} {osl : Array (Option Value)} {kV doc pm cdv ct : Value} (l : K.lookup f = some ⟨oc, od, .func (PySem.W.fnOf x qual (defArgs st) (defBody st) (defScope st) .none kV doc pm an cdv ct), osl⟩)
    (c : PySem.W.codeIn K cdv qual = true) (k : PySem.W.keepIn K (.ref f) = true) : Fun K x qual st f (PySem.W.fnOf x qual (defArgs st) (defBody st) (defScope st) .none kV doc pm an cdv ct) := ⟨⟨oc, od, kV, doc, pm, an, cdv, ct, osl, rfl, l, c⟩, k⟩
end
theorem hu_of {A : Around} {k : Nat} (hr : Room k A) : A.units + 1 < cLine := Nat.lt_of_le_of_lt (Nat.add_le_add_left (by decide : 1 ≤ 64) _) hr.units
theorem small1000 {n : Nat} (h : n ≤ 1000) : n < sizeLine := Nat.lt_of_le_of_lt h (by decide)
section
variable {X : Cx}
/-- len of a dict -/
theorem call_lenD : CallR X (.builtin "len") (fun xs H Q => ∃ a kvs, xs = [V.ref a] ∧ H a = some (.dK kvs) ∧ Q (.int kvs.length) H) := by
  intro pins s σ H xs us Q I r h
  obtain ⟨a, kvs, rfl, ha, q⟩ := h
  obtain ⟨u, rfl, ru⟩ := vals1 r
  cases ru
  exact d_len I (.inl ha) fun t s' I' => ⟨.int kvs.length, H, I', ⟨t, rfl⟩, q⟩
end
theorem iteF {A B : Prop} (h : B) : if false = true then A else B := by
  rw [if_neg Bool.false_ne_true]
  exact h
theorem iteT {A B : Prop} (h : A) : if true = true then A else B := by
  rw [if_pos rfl]
  exact h
/-- all that was tracked is as it was -/
def Same (H H' : Hp) : Prop := ∀ b o, H b = some o → H' b = some o
theorem Same.trans {H H1 H2 : Hp} (a : Same H H1) (b : Same H1 H2) : Same H H2 := fun c o h => b c o (a c o h)
theorem Same.free {H H' : Hp} (e : Same H H') {l : Addr} (h : H' l = Option.none) : H l = Option.none := by
  cases q : H l with
  | none => rfl
  | some o =>
    rw [e l o q] at h
    cases h
theorem Same.seq {K : PySem.W.Frag} {H H' : Hp} {a : Addr} {xs : List V} (e : Same H H') (h : SqL K H a xs) : SqL K H' a xs := by
  rcases h with (h | ⟨o, h⟩) | h
  · exact .inl (.inl (e _ _ h))
  · exact .inl (.inr ⟨o, e _ _ h⟩)
  · exact .inr h
section
variable {κ : Type} [DecidableEq κ]
end
end L2
set_option Elab.async false
set_option linter.all false
set_option maxRecDepth 100000
set_option maxHeartbeats 4000000
namespace HT
open PySem PyProof.Rows
section
open PySem.SeqAt
open PySem.AutoSeq1 (wpAny_loadPart')
open PySem.MeetsSeq PySem.MeetsSeq2 PySem.MeetsSeq3
end
section
variable {prog : Program} {w : World} {A : Around} {E : Value → Shared → Prop} {s : Shared}
end
section
open PySem.SeqAt
open PySem.AutoSeq1 (wpAny_loadPart')
open PySem.MeetsSeq PySem.MeetsSeq2 PySem.MeetsSeq3
end
section
variable {prog : Program} {w : World} {A : Around} {E : Value → Shared → Prop} {s : Shared}
end
def lexGe : List Int → List Int → Bool
  | [], [] => true
  | [], _ :: _ => false
  | _ :: _, [] => true
  | x :: xs, y :: ys => if x = y then lexGe xs ys else decide (y ≤ x)
theorem lexGe_cons (x y : Int) (xs ys : List Int) : lexGe (x :: xs) (y :: ys) = if x = y then lexGe xs ys else decide (y ≤ x) := rfl
theorem lexGe_nil_nil : lexGe [] [] = true := rfl
theorem lexGe_nil_cons (y : Int) (ys : List Int) : lexGe [] (y :: ys) = false := rfl
theorem lexGe_cons_nil (x : Int) (xs : List Int) : lexGe (x :: xs) [] = true := rfl
theorem rcGe_int (A : Around) (s : Shared) (a : Int) (t : Tok) (c : Int) (u : Tok) (prog : Program) (w : World) (E : Value → Shared → Prop) (Q : Value → Shared → Prop) (h : Q (.bool (decide (c ≤ a))) s) :
    wpAny (model prog w) A (richCompare .GtE (.int a t) (.int c u)) Q E s :=
  (PyProof.Rows.ge_int h : wpAny (model prog w) A (compareOp .GtE (.int a t) (.int c u)) Q E s)
section
open PySem.SeqAt
open PySem.AutoSeq1 (wpAny_loadPart')
open PySem.MeetsSeq PySem.MeetsSeq2 PySem.MeetsSeq3
theorem tuple_ge_ints (l b : Addr) (items items2 : Array Value) (n n2 : Nat) (dd dd2 : Option Addr) (sl sl2 : Array (Option Value)) (ns ms : List Int) (hi : IntsAre items.toList ns) (hj : IntsAre items2.toList ms) :
    Meets (Builtin.«tuple.__ge__» ⟨[.ref l, .ref b], []⟩)
      (fun _ R s => s.heap.get? l = some { cls := .type "tuple", dict := dd, data := .seq items n, slots := sl } ∧ s.heap.get? b = some { cls := .type "tuple", dict := dd2, data := .seq items2 n2, slots := sl2 } ∧
        R (.ok (.ret (.bool (lexGe ns ms)))) s) :=
  .of_wp fun prog w A R s h => by
    obtain ⟨hp, g, d, tk, os⟩ := s; obtain ⟨hl, hb, h⟩ := h
    have f2 := AutoSeq1.sub_tuple_tuple
    have z1 : items.size = ns.length := by rw [← hi.length]; simp
    have z2 : items2.size = ms.length := by rw [← hj.length]; simp
    wp_walk using wpAny_loadPart' hl, wpAny_loadPart' hb, wpAny_forIn_list _ (fun rest b s' => b.1 = none ∧ s' = ⟨hp, g, d, tk, os⟩ ∧ ∃ (vs ws : List Value) (ns' ms' : List Int), rest = vs.zip ws ∧
      IntsAre vs ns' ∧ IntsAre ws ms' ∧ ns'.length + items2.size = ms'.length + items.size ∧ R (.ok (.ret (.bool (lexGe ns' ms')))) ⟨hp, g, d, tk, os⟩) _
    case turn =>
      rintro ⟨y, x⟩ rest b s' ⟨hb', rfl, vs, ws, ns', ms', hz, hvi, hwi, hlen, hR⟩
      cases hvi with
      | nil => rw [List.zip_nil_left] at hz; cases hz
      | cons a t hvi' =>
        cases hwi with
        | nil => rw [List.zip_nil_right] at hz; cases hz
        | cons c u hwi' =>
          rw [List.zip_cons_cons] at hz
          injection hz with hyx hrest
          injection hyx with hy hx
          subst hy hx
          rw [lexGe_cons] at hR
          simp only [List.length_cons] at hlen
          obtain ⟨e, he, hiff⟩ := eqAt_int A.in1 ⟨hp, g, d, tk, os⟩ a t c u
          refine wpAny_bind (he prog w _ _ ?_)
          cases e with
          | true =>
            rw [if_pos (hiff.mp rfl)] at hR
            wp_walk
            exact ⟨rfl, rfl, _, _, _, _, hrest, hvi', hwi', by omega, hR⟩
          | false =>
            rw [if_neg (fun q => absurd (hiff.mpr q) Bool.false_ne_true)] at hR
            have hri := rcGe_int A.in1 ⟨hp, g, d, tk, os⟩ a t c u prog w
            wp_walk using hri
            exact ⟨_, rfl, by simpa using hR⟩
    case fin =>
      rintro ⟨b1, b2⟩ s' ⟨hb', rfl, vs, ws, ns', ms', hz, hvi, hwi, hlen, hR⟩
      simp only at hb'
      subst hb'
      have hv : lexGe ns' ms' = decide (items2.size ≤ items.size) := by
        cases hvi with
        | nil =>
          cases hwi with
          | nil =>
            simp only [List.length_nil] at hlen
            rw [lexGe_nil_nil]
            exact (decide_eq_true (by omega)).symm
          | cons c u hw =>
            simp only [List.length_nil, List.length_cons] at hlen
            rw [lexGe_nil_cons]
            exact (decide_eq_false (by omega)).symm
        | cons a t hv =>
          cases hwi with
          | nil =>
            simp only [List.length_nil, List.length_cons] at hlen
            rw [lexGe_cons_nil]
            exact (decide_eq_true (by omega)).symm
          | cons c u hw =>
            rw [List.zip_cons_cons] at hz
            cases hz
      rw [hv] at hR
      wp_walk
      exact ⟨_, rfl, by simpa [Builtin.Tuple.tupleCompareSizes] using hR⟩
    case h =>
      exact ⟨rfl, rfl, items.toList, items2.toList, ns, ms, rfl, hi, hj, by omega, h⟩
end
section
variable {prog : Program} {w : World} {A : Around} {E : Value → Shared → Prop} {s : Shared}
theorem ge_tupInts {l b : Addr} {items items2 : Array Value} {ns ms : List Int} {Q : Value → Shared → Prop} (hl : IsTup s.heap l items) (hb : IsTup s.heap b items2) (hi : IntsAre items.toList ns) (hj : IntsAre items2.toList ms)
    (hu : A.units < cLine) (h : Q (.bool (lexGe ns ms)) s) : wpAny (model prog w) A (compareOp .GtE (.ref l) (.ref b)) Q E s := by
  obtain ⟨⟨cls, dd, data, sl⟩, ho, hc, n, hd⟩ := id hl
  obtain ⟨⟨cls2, dd2, data2, sl2⟩, ho2, hc2, n2, hd2⟩ := id hb
  simp only at hc hd hc2 hd2
  subst hc hd hc2 hd2
  exact richCompare_meets_room (op := .GtE) ⟨_, ho, rfl⟩ ⟨_, ho2, rfl⟩ PySem.F.slot_tuple_ge PySem.F.entry_tuple_ge (PySem.F.args_tuple_ge_2 _ _) (tuple_ge_ints l b items items2 n n2 dd dd2 sl sl2 ns ms hi hj)
    ⟨ho, ho2, show Value.bool (lexGe ns ms) ≠ Value.notImplemented ∧ Q (.bool (lexGe ns ms)) s from ⟨(fun x => nomatch x), h⟩⟩ hu
end
end HT
namespace L2
open PySem PySem.Spec PyProof.Rows
section
variable {X : Cx}
def rGeT (K : PySem.W.Frag) : R2 := fun x y H Q => ∃ a b ns ms, x = .ref a ∧ y = .ref b ∧ SqT K H a (ns.map V.int) ∧ SqT K H b (ms.map V.int) ∧ Q (.bl (HT.lexGe ns ms)) H
theorem op_geT (hu : X.A.units < cLine) : OpR X (compareOp .GtE) (rGeT X.K) := by
  intro pins s σ H x y v u Q I rx ry h
  obtain ⟨a, b, ns, ms, rfl, rfl, ha, hb, q⟩ := h
  cases rx
  cases ry
  obtain ⟨its, r1, p1, _⟩ := I.tuple ha
  obtain ⟨its2, r2, p2, _⟩ := I.tuple hb
  have i1 : IntsAre its.toArray.toList ns := intsAre_of r1
  have i2 : IntsAre its2.toArray.toList ms := intsAre_of r2
  exact HT.ge_tupInts p1 p2 i1 i2 hu ⟨.bl (HT.lexGe ns ms), H, I, rfl, q⟩
end
end L2
set_option Elab.async false
set_option linter.all false
set_option maxRecDepth 100000
set_option maxHeartbeats 4000000
namespace L2
open PySem PySem.Spec PyProof.Rows
def PF (X : Cx) (e : Expr) (t : St → Hp → (Hp → Prop) → Prop) : Prop :=
  ∀ (pins : List (Addr × Obj)) (s : Shared) (σ : St) (H : Hp) (Q : Hp → Prop), Inv X pins σ H s → t σ H Q →
    wpAny (model X.prog X.w) X.A (eval e X.env) (fun v s' => ∃ y tk H', v = Value.str y tk ∧ y.length ≤ 2000 ∧ Inv X pins σ H' s' ∧ Q H') X.xe s
def PFs (X : Cx) (es : List Expr) (t : St → Hp → (Hp → Prop) → Prop) : Prop :=
  ∀ (pins : List (Addr × Obj)) (s : Shared) (σ : St) (H : Hp) (Q : Hp → Prop) (acc : Str) (n : Nat) (R : Str → Shared → Prop), Inv X pins σ H s → t σ H Q → acc.length ≤ 2000 * n → n + es.length ≤ 8000 →
    (∀ z s' H', z.length ≤ sizeLine → Inv X pins σ H' s' → Q H' → R z s') → Joins (model X.prog X.w) X.A X.xe (evalEach es X.env) acc R s
section
variable {X : Cx} {e : Expr} {es : List Expr} {pos : Pos}
theorem pf_str {x j pos} (h : x.length ≤ 2000 := by decide) : PF X (.Constant (.str x) j pos) (fun _ H Q => Q H) := fun _ _ _ H _ I q => Calls.Constant_str ⟨x, _, H, rfl, h, I.tok _, q⟩
theorem pf_int {te : TE} (he : PE X e te) : PF X (.FormattedValue e (-1) none pos) (fun σ H Q => te σ H fun v H1 => ∃ i, v = .int i ∧ i.natAbs.log2 < 1920 ∧ Q H1) := by
  intro pins s σ H Q I h
  refine wpAny_FormattedValue_plain (thn (he pins s σ H _ I h) fun v s1 ⟨x, H1, I1, r1, i, ex, hi, q⟩ => ?_)
  subst ex
  obtain ⟨t, rfl⟩ := r1
  have hl := int_text_len_1921 hi
  exact wpAny_formatField_int hi ⟨_, _, H1, rfl, by omega, I1.tok _, q⟩
theorem pfs_nil : PFs X [] (fun _ H Q => Q H) := by
  intro pins s σ H Q acc n R I h hl hn hR
  have hs := sizeLine_eq
  exact hR acc s H (by simp only [List.length_nil] at hn; omega) I h
theorem pfs_cons {t u : St → Hp → (Hp → Prop) → Prop} (h1 : PF X e t) (h2 : PFs X es u) (hs : evalEach (e :: es) X.env = eval e X.env :: evalEach es X.env := by rfl) : PFs X (e :: es) (fun σ H Q => t σ H fun H1 => u σ H1 Q) := by
  intro pins s σ H Q acc n R I h hl hn hR
  rw [hs]
  refine thn (h1 pins s σ H _ I h) fun v s1 ⟨y, tk, H1, ev, hy, I1, q⟩ => ?_
  have hz := sizeLine_eq
  have ha : (acc ++ y).length = acc.length + y.length := strLen_append ..
  simp only [List.length_cons] at hn
  exact ⟨y, tk, ev, by omega, h2 pins s1 σ H1 Q (acc ++ y) (n + 1) R I1 q (by omega) (by omega) hR⟩
theorem pe_fstr {v1 v2 : Expr} {rest : List Expr} {t : St → Hp → (Hp → Prop) → Prop} (h : PFs X (v1 :: v2 :: rest) t) (hn : (v1 :: v2 :: rest).length ≤ 8000 := by decide) :
    PE X (.JoinedStr (v1 :: v2 :: rest) pos) (fun σ H Q => t σ H fun H1 => ∀ z : Str, Q (.str z) H1) := by
  intro pins s σ H Q I hq
  exact wpAny_JoinedStr (h pins s σ H _ Str.empty 0 _ I hq (by decide) (by omega) fun z s' H' hz I' q => ⟨hz, .str z, H', I'.tok _, ⟨_, rfl⟩, q z⟩)
end
theorem ObjOk.there {P : Program} {w : World} {H : Hp} {h : Heap} {a : Addr} {o : HO} (x : ObjOk P w H h a o) : ∃ ob, h.get? a = some ob := by
  cases o with
  | lst xs => obtain ⟨_, _, _, _, e⟩ := x; exact ⟨_, e⟩
  | tup xs => obtain ⟨_, _, _, ob, e, _⟩ := x; exact ⟨_, e⟩
  | dK kvs => obtain ⟨_, _, _, _, o, _, _, e, _⟩ := x; exact ⟨_, e⟩
  | dT kvs => obtain ⟨_, _, _, _, o, _, _, e, _⟩ := x; exact ⟨_, e⟩
  | set S n => obtain ⟨o, _, _, _, e, _⟩ := x; exact ⟨_, e⟩
  | ins C dx fs => obtain ⟨_, _, _, e, _⟩ := x; exact ⟨_, e⟩
  | own y => obtain ⟨_, e⟩ := x; exact ⟨_, e⟩
  | xd fs => obtain ⟨_, ⟨_, _, _, e, _⟩, _⟩ := x; exact ⟨_, e⟩
  | rng lo hi => obtain ⟨_, _, _, e⟩ := x; exact ⟨_, e⟩
  | frz ob u => obtain ⟨e, _⟩ := x; exact ⟨_, e⟩
  | tbl ps => exact ⟨_, (show h.get? a = some _ from x)⟩
  | met f y => exact ⟨_, (show h.get? a = some _ from x)⟩
  | ext φ => obtain ⟨_, ⟨_, e⟩, _⟩ := x; exact ⟨_, e⟩
/-- B: all that was there when it was raised, but the frames; it stays as it is while the exception flies -/
def Kept (l : List Env) (H' : Hp) (h0 h1 B : Heap) : Prop := ∀ b o, h1.get? b = some o → (H' b ≠ none ∨ ∃ o0, h0.get? b = some o0) → b ∉ frs l → B.get? b = some o
def CXF (P : Program) (w : World) : CXT := fun outer H s E e s' =>
  ∃ (x C : Addr) (a0 : Value) (H' : Hp) (B : Heap), e = .ref x ∧ s'.os = s.os ∧ AllBare s'.gens ∧ Un (frs outer) [] H H' s.heap s'.heap ∧ HOk P w H' s'.heap ∧
    Heap.FlyingW B outer x (.ref C) a0 s'.heap ∧ Kept outer H' s.heap s'.heap B ∧ H' x = none ∧ s.heap.get? x = none ∧ E (.ref C) none H'
theorem fly_move {P : Program} {w : World} {l : List Env} {H H' : Hp} {h0 h1 h2 B D : Heap} (un : Un (frs l) [] H H' h0 h1) (hok : HOk P w H' h1) (ff : h1.FunFrames D l) (bh : Kept l H' h0 h1 B) (nf : ∀ b ∈ frs l, H' b = none)
    (st : B.StaysIn h2) (us : h1.UpToSlots h2) : Un (frs l) [] H H' h0 h2 ∧ HOk P w H' h2 ∧ Kept l H' h0 h2 B := by
  have keepT : ∀ b o, h1.get? b = some o → (H' b ≠ none ∨ ∃ o0, h0.get? b = some o0) → b ∉ frs l → h2.get? b = some o := fun b o e c hb => st b o (bh b o e c hb)
  have slotT : ∀ b o, h1.get? b = some o → b ∈ frs l → ∃ sl, h2.get? b = some { o with slots := sl } := fun b o e hb => by
    obtain ⟨_, o', e', hd⟩ := ff.mem hb
    rw [e] at e'
    cases e'
    exact us b o e hd
  refine ⟨⟨fun b o e n hb hx => keepT b o (un.keep b o e n hb hx) (.inr ⟨o, e⟩) hb, fun b o e n hb hx => ?_, un.free, fun b o e hx => ?_, un.tups, un.frzs, un.tbls⟩, fun a o e => ?_, fun b o e c hb => ?_⟩
  · obtain ⟨sl, e1⟩ := un.slot b o e n hb hx
    obtain ⟨sl', e2⟩ := slotT b _ e1 hb
    exact ⟨sl', e2⟩
  · obtain ⟨o', e1⟩ := un.there b o e hx
    by_cases hb : b ∈ frs l
    · obtain ⟨sl, e2⟩ := slotT b _ e1 hb
      exact ⟨_, e2⟩
    · exact ⟨o', keepT b o' e1 (.inr ⟨o, e⟩) hb⟩
  · refine (hok a o e).stay (fun b u hc q => ?_) (fun _ q => q) fun _ _ q => q
    have tr : H' b ≠ none := by
      rcases hc with rfl | hc
      · rw [e]; exact fun z => nomatch z
      · rw [hc]; exact fun z => nomatch z
    exact keepT b u q (.inl tr) fun hb => tr (nf b hb)
  · have old : ∃ o1, h1.get? b = some o1 := by
      rcases c with c | ⟨o0, c⟩
      · cases q : H' b with
        | none => exact absurd q c
        | some ho => exact (hok b ho q).there
      · exact un.there b o0 c (fun z => nomatch z)
    obtain ⟨o1, e1⟩ := old
    have e2 := bh b o1 e1 c hb
    have e3 := st b o1 e2
    rw [e] at e3
    cases e3
    exact e2
/-- the frames of a body that runs -/
structure Top1 (X : Cx) : Prop where
  st : X.stack = X.env :: X.outer
  fr : X.env.frame = some X.env.locals
  ex : X.ex = []
section
variable {X : Cx} {pins : List (Addr × Obj)} {σ : St} {H : Hp} {s : Shared}
theorem frs_top (t : Top1 X) : frs X.stack = X.env.locals :: X.fs := by
  rw [t.st]
  unfold frs
  rw [List.filterMap_cons, t.fr]
  rfl
theorem Inv.nf (I : Inv X pins σ H s) {H' : Hp} {h' : Heap} (un : Un (frs X.stack) [] H H' s.heap h') : ∀ b ∈ frs X.stack, H' b = none := fun b hb => by
  obtain ⟨_, o, ho, _⟩ := I.stack.mem hb
  exact un.free b o ho (I.stkFree b hb) (fun z => nomatch z)
/-- from the frame to its callers -/
theorem Inv.out (I : Inv X pins σ H s) (t : Top1 X) {H' : Hp} {h' : Heap} (un : Un (frs X.stack) [] H H' s.heap h') : Un X.fs [] X.H₀ H' X.s₀.heap h' := by
  have hx : ∀ b : Addr, b ∉ X.ex := fun b z => by rw [t.ex] at z; cases z
  have ns : ∀ b o, X.s₀.heap.get? b = some o → b ∉ X.fs → b ∉ frs X.stack := fun b o e hb z => by
    rw [frs_top t] at z
    rcases List.mem_cons.mp z with z | z
    · exact absurd (Nat.lt_of_lt_of_le (Heap.lt_size e) I.ok.above) (by rw [z]; exact Nat.lt_irrefl _)
    · exact hb z
  have fs : ∀ b ∈ X.fs, b ∈ frs X.stack := fun b hb => by rw [frs_top t]; exact List.mem_cons_of_mem _ hb
  have nn : ∀ b : Addr, b ∉ ([] : List Addr) := fun b z => nomatch z
  refine ⟨fun b o e n hb _ => un.keep b o (I.base.keep b o e n hb (hx b)) (I.base.free b o e n (hx b)) (ns b o e hb) (nn b), fun b o e n hb _ => ?_, fun b o e n _ => ?_, fun b o e _ => ?_, fun b xs e => un.tups b xs (I.base.tups b xs e), fun b o u e => un.frzs b o u (I.base.frzs b o u e), fun b ps e => ?_⟩
  · obtain ⟨sl, e1⟩ := I.base.slot b o e n hb (hx b)
    obtain ⟨sl', e2⟩ := un.slot b _ e1 (I.base.free b o e n (hx b)) (fs b hb) (nn b)
    exact ⟨sl', e2⟩
  · obtain ⟨o', e1⟩ := I.base.there b o e (hx b)
    exact un.free b o' e1 (I.base.free b o e n (hx b)) (nn b)
  · obtain ⟨o', e1⟩ := I.base.there b o e (hx b)
    exact un.there b o' e1 (nn b)
  · obtain ⟨m1, e1⟩ := I.base.tbls b ps e
    obtain ⟨m2, e2⟩ := un.tbls b _ e1
    exact ⟨m1 ++ m2, by rw [e2, Array.append_assoc]⟩
theorem Inv.new0 (I : Inv X pins σ H s) (t : Top1 X) {x : Addr} (h : s.heap.get? x = none) : X.s₀.heap.get? x = none := by
  cases q : X.s₀.heap.get? x with
  | none => rfl
  | some o =>
    obtain ⟨o', e⟩ := I.base.there x o q (by rw [t.ex]; exact fun z => nomatch z)
    rw [h] at e
    cases e
theorem Inv.keptOut (I : Inv X pins σ H s) (t : Top1 X) {H' : Hp} {h' B : Heap} (nf : ∀ b ∈ frs X.stack, H' b = none) (k : Kept X.stack H' s.heap h' B) : Kept X.outer H' X.s₀.heap h' B := fun b o e c hb => by
  have ns : b ∉ frs X.stack := fun z => by
    have z' := z
    rw [frs_top t] at z
    rcases List.mem_cons.mp z with z | z
    · rcases c with c | ⟨o0, c⟩
      · exact c (nf b z')
      · exact absurd (Nat.lt_of_lt_of_le (Heap.lt_size c) I.ok.above) (by rw [z]; exact Nat.lt_irrefl _)
    · exact hb z
  refine k b o e ?_ ns
  rcases c with c | ⟨o0, c⟩
  · exact .inl c
  · exact .inr (I.base.there b o0 c (by rw [t.ex]; exact fun z => nomatch z))
/-- a callee's exception leaves this frame too -/
theorem leave_fly {E E' : XK} {e : Value} {s' : Shared} {Ee : Value → Shared → Prop} (I : Inv X pins σ H s) (t : Top1 X) (fl : CXF X.prog X.w X.stack H s E e s') (hE : ∀ C o H', E C o H' → E' C o H') :
    wpAny (model X.prog X.w) X.A (leaving X.env e) (fun _ s'' => CXF X.prog X.w X.outer X.H₀ X.s₀ E' e s'') Ee s' := by
  obtain ⟨x, C, a0, H', B, rfl, os, gb, un, hok, fly, bh, xn, xf, he⟩ := fl
  have nf := I.nf un
  have hfr : X.A.frames = some (X.env :: X.outer) := by rw [← t.st]; exact I.ok.frames
  have ff := fly.2.2.1
  rw [t.st] at fly
  refine wpAny_leaves_onW hfr t.fr fly fun h' fly' us => ?_
  obtain ⟨un', hok', bh'⟩ := fly_move un hok ff bh nf fly'.1 us
  exact ⟨x, C, a0, H', B, rfl, os.trans I.os, gb, I.out t un', hok', fly', I.keptOut t nf bh', xn, I.new0 t xf, hE _ _ _ he⟩
/-- an exception raised here leaves this frame -/
theorem leave_made {E : XK} {x C : Addr} {vs : List Value} {h1 : Heap} {Ee : Value → Shared → Prop} (I : Inv X pins σ H s) (t : Top1 X) (mk : Heap.MadeExcOf s.heap h1 x (.ref C) vs) (he : E (.ref C) none H) :
    wpAny (model X.prog X.w) X.A (leaving X.env (.ref x)) (fun _ s'' => CXF X.prog X.w X.outer X.H₀ X.s₀ E (.ref x) s'') Ee { s with heap := h1 } := by
  have hfr : X.A.frames = some (X.env :: X.outer) := by rw [← t.st]; exact I.ok.frames
  have hl : s.heap.FunFrames (PySem.W.hideAll s.heap (frs X.stack)) (X.env :: X.outer) := by
    rw [← t.st]
    exact PySem.W.funFrames_hide I.stack fun env he a ha => List.mem_filterMap.mpr ⟨env, he, ha⟩
  refine wpAny_leaves_madeW (base := PySem.W.hideAll s.heap (frs X.stack)) (h := s.heap) hfr t.fr (fun b o q => PySem.W.of_hideAll _ q) hl mk fun h2 tt fly _ _ us => ?_
  have nf : ∀ b ∈ frs X.stack, H b = none := I.stkFree
  have xnew : s.heap.get? x = none := mk.new
  have bh0 : Kept X.stack H s.heap s.heap (PySem.W.hideAll s.heap (frs X.stack)) := fun b o e _ hb => PySem.W.hideAll_get _ e hb
  obtain ⟨un', hok', bh'⟩ := fly_move (Un.refl (fs := frs X.stack) (ex := []) (H := H) (h := s.heap)) I.hok I.stack bh0 nf fly.1 ((Heap.UpToSlots.of_keeps mk.keeps).trans us)
  have xn : H x = none := by
    cases q : H x with
    | none => rfl
    | some o =>
      obtain ⟨ob, e⟩ := (I.hok x o q).there
      rw [xnew] at e
      cases e
  exact ⟨x, C, _, H, _, rfl, I.os, I.bare, I.out t un', hok', fly, I.keptOut t nf bh', xn, I.new0 t xnew, he⟩
end
/-- an exception that leaves a piece of code: of a callee, or (m) raised here -/
def XS (X : Cx) (m : Bool) (pins : List (Addr × Obj)) (DX : St → XK) (e : Value) (s' : Shared) : Prop :=
  (∃ σ1 H1 s1, Inv X.nox pins σ1 H1 s1 ∧ CXF X.prog X.w X.stack H1 s1 (DX σ1) e s') ∨
  (m = true ∧ ∃ σ1 H1 s1 x C vs h1, Inv X.nox pins σ1 H1 s1 ∧ e = .ref x ∧ s' = { s1 with heap := h1 } ∧ Heap.MadeExcOf s1.heap h1 x (.ref C) vs ∧ DX σ1 (.ref C) none H1)
abbrev TEx := St → Hp → VK → XK → Prop
abbrev TSx := Ends → (St → XK) → St → Hp → Prop
def PEx (X : Cx) (e : Expr) (t : TEx) : Prop :=
  ∀ (pins : List (Addr × Obj)) (s : Shared) (σ : St) (H : Hp) (Q : VK) (E : XK), Inv X.nox pins σ H s → t σ H Q E →
    wpAny (model X.prog X.w) X.A (eval e X.env) (EP X.nox pins σ Q) (fun e s' => ∃ H1 s1, Inv X.nox pins σ H1 s1 ∧ CXF X.prog X.w X.stack H1 s1 E e s') s
def PSx (X : Cx) (m : Bool) (st : Stmt) (t : TSx) : Prop :=
  ∀ (pins : List (Addr × Obj)) (s : Shared) (σ : St) (H : Hp) (D : Ends) (DX : St → XK), Inv X.nox pins σ H s → t D DX σ H → wpAny (model X.prog X.w) X.A (exec st X.env) (SP X.nox pins D) (XS X m pins DX) s
def PSsx (X : Cx) (m : Bool) (st : List Stmt) (t : TSx) : Prop :=
  ∀ (pins : List (Addr × Obj)) (s : Shared) (σ : St) (H : Hp) (D : Ends) (DX : St → XK), Inv X.nox pins σ H s → t D DX σ H → wpAny (model X.prog X.w) X.A (execs st X.env) (SP X.nox pins D) (XS X m pins DX) s
section
variable {X : Cx} {m : Bool} {st : Stmt} {rest : List Stmt} {e : Expr} {pos : Pos}
/-- code without exceptions -/
theorem px {t : TS} (h : PS X.nox st t) : PSx X m st (fun D _ => t D) := fun pins s σ H D _ I q => wpAny_mono (h pins s σ H D I q) (fun _ _ z => z) fun _ _ z => False.elim z
theorem pxs {sts : List Stmt} {t : TS} (h : PSs X.nox sts t) : PSsx X m sts (fun D _ => t D) := fun pins s σ H D _ I q => wpAny_mono (h pins s σ H D I q) (fun _ _ z => z) fun _ _ z => False.elim z
def xSeq (t u : TSx) : TSx := fun D DX σ H => t { D with nx := u D DX } DX σ H
theorem pssx_cons {t u : TSx} (h1 : PSx X m st t) (h2 : PSsx X m rest u) : PSsx X m (st :: rest) (xSeq t u) := by
  intro pins s σ H D DX I h
  refine wpAny_execs_cons (thn (h1 pins s σ H { D with nx := u D DX } DX I h) fun f s1 q => ?_)
  cases f with
  | next =>
    obtain ⟨σ', H', I', q⟩ := q
    exact h2 pins s1 σ' H' D DX I' q
  | ret v => exact q
  | brk => exact q
  | cont => exact q
theorem pssx_one {t : TSx} (h1 : PSx X m st t) : PSsx X m [st] t := by
  intro pins s σ H D DX I h
  refine wpAny_execs_cons (thn (h1 pins s σ H D DX I h) fun f s1 q => ?_)
  cases f with
  | next => exact wpAny_execs_nil q
  | ret v => exact q
  | brk => exact q
  | cont => exact q
theorem pssx_nil : PSsx X m [] (fun D _ σ H => D.nx σ H) := pxs pss_nil
theorem psx_if {c : Expr} {a b : List Stmt} {tc : TT} {t u : TSx} (hc : PT X.nox c tc) (ha : PSsx X m a t) (hb : PSsx X m b u) : PSx X m (.If c a b pos) (fun D DX σ H => tc σ H fun k H1 => if k = true then t D DX σ H1 else u D DX σ H1) := by
  intro pins s σ H D DX I h
  refine wpAny_If (wpAny_mono (hc pins s σ H _ I h) (fun d s1 ⟨H1, I1, q1⟩ => ?_) fun _ _ z => False.elim z)
  cases d with
  | true => exact ha pins s1 σ H1 D DX I1 q1
  | false => exact hb pins s1 σ H1 D DX I1 q1
/-- name = an expression that may raise -/
theorem psx_set {i : Nat} {x : Str} {te : TEx} {pos' : Pos} (hN : X.N.Nodup) (hi : X.N[i]? = some x) (hx : Loc X.env.scope x) (he : PEx X e te) (hs : swapsWith e (some (.Name x pos')) pos.line X.env = pure false := by rfl)
    (hf : X.fn x = true ∨ X.env.scope.names.lookup x = some .local := by first | exact .inl rfl | exact .inr rfl | assumption) :
    PSx X m (.Assign [.Name x pos'] e pos) (fun D DX σ H => te σ H (fun v H1 => D.nx (σ.set i (some v)) H1) (DX σ)) := by
  intro pins s σ H D DX I h
  refine wpAny_Assign_Name (wpAny_mono (he pins s σ H _ _ I h) (fun v s1 ⟨y, H1, I1, r1, q1⟩ => ?_) fun e s1 ⟨H1, s2, I1, c⟩ => .inl ⟨σ, H1, s2, I1, c⟩) hs
  exact store_ok (X := X.nox) I1 hN hi hx r1 (fun s2 I2 => ⟨_, H1, I2, q1⟩) hf
theorem psx_expr {te : TEx} (he : PEx X e te) (hs : swapsWith e none pos.line X.env = pure false := by rfl) : PSx X m (.Expr e pos) (fun D DX σ H => te σ H (fun _ H1 => D.nx σ H1) (DX σ)) := by
  intro pins s σ H D DX I h
  exact wpAny_Expr_any (wpAny_mono (he pins s σ H _ _ I h) (fun v s1 ⟨x, H1, I1, r1, q1⟩ => ⟨σ, H1, I1, q1⟩) fun e s1 ⟨H1, s2, I1, c⟩ => .inl ⟨σ, H1, s2, I1, c⟩) I.quiet hs
theorem psx_ret {te : TEx} (he : PEx X e te) : PSx X m (.Return (some e) pos) (fun D DX σ H => te σ H D.rt (DX σ)) := by
  intro pins s σ H D DX I h
  exact wpAny_Return_some (wpAny_mono (he pins s σ H _ _ I h) (fun v s1 ⟨x, H1, I1, r1, q1⟩ => ⟨x, σ, H1, I1, r1, q1⟩) fun e s1 ⟨H1, s2, I1, c⟩ => .inl ⟨σ, H1, s2, I1, c⟩)
end
section
variable {X : Cx} {k : Nat} {f C : Addr} {fd : FuncData} {ps : List Str} {sp : Sp} {dvs : List V} {ds : List Value} {x m : Str} {p pos apos : Pos} {e o : Expr} {es : List Expr} {ta : TE} {t : TA}
theorem run_fnx {pins : List (Addr × Obj)} {σ : St} {H : Hp} {s : Shared} {Q : VK} {E : XK} {us : List Value} {vs : List V} (F : FnOk X.prog X.w X.K X.mg X.base (CXF X.prog X.w) k f fd ps sp) (hr : Room k X.A) (hb : Binds X.K fd ps ds) (hd : Vals dvs ds)
    (I : Inv X.nox pins σ H s) (r : Vals vs us) (h : sp (vs ++ dvs) H Q E) :
    wpAny (model X.prog X.w) X.A (call (.ref f) us) (EP X.nox pins σ Q) (fun e s' => ∃ H1 s1, Inv X.nox pins σ H1 s1 ∧ CXF X.prog X.w X.stack H1 s1 E e s') s := by
  have r2 : Vals (vs ++ dvs) (us ++ ds) := r.append hd
  have hl : (us ++ ds).length = ps.length := by rw [← r2.length]; exact F.len _ _ _ _ h
  refine wpAny_call (codeAny_mono (F.run X.A X.stack s H ⟨us, []⟩ (us ++ ds) (vs ++ dvs) Q E hr I.env0 (hb s us I.kIn hl) r2 h) fun r s' hq => ?_)
  cases r with
  | error e => exact ⟨H, s, I, hq⟩
  | ok fl =>
    cases fl with
    | ret u => exact I.after hq
    | next => exact False.elim hq
    | brk => exact False.elim hq
    | cont => exact False.elim hq
theorem pex_call (F : FnOk X.prog X.w X.K X.mg X.base (CXF X.prog X.w) k f fd ps sp) (hr : Room k X.A) (hg : Gl X x) (hm : X.mg x = some (.ref f)) (hk : PySem.W.keepIn X.K (.ref f) = true) (hb : Binds X.K fd ps ds) (hd : Vals dvs ds)
    (ha : PA X.nox (e :: es) t) (hdb : (x == ("__debug__" : Str)) = false := by decide) (he : starEach (e :: es) X.env = (false, eval e X.env) :: starEach es X.env := by rfl) (hpl : (backTo pos (starEach es X.env)).any (·.1) = false := by rfl) :
    PEx X (.Call (.Name x p) (e :: es) [] pos) (fun σ H Q E => t σ H fun vs H1 => sp (vs ++ dvs) H1 Q E) := by
  intro pins s σ H Q E I h
  refine wpAny_Call_Name_kw (ld_glob (X := X.nox) I hg hm ?_ hdb)
  refine PySem.W.callWith_K (h₀ := X.base) I.ok.mod.kin hk (wpAny_mono (ha pos pins s σ H _ I h) (fun us s1 ⟨vs, H1, I1, r, q⟩ => ⟨I1.kIn, ?_⟩) fun _ _ z => False.elim z) he hpl
  exact run_fnx F hr hb hd I1 r q
theorem pex_meth {pl : Sem Bool} (he : PE X.nox o ta) (c : Cls X.K C) (hm : Meth X.K C m f) (F : FnOk X.prog X.w X.K X.mg X.base (CXF X.prog X.w) k f fd ps sp) (hr : Room k X.A) (hb : Binds X.K fd ps ds) (hd : Vals dvs ds) (ha : PA X.nox (e :: es) t)
    (hst : starEach (e :: es) X.env = (false, eval e X.env) :: starEach es X.env := by rfl) (hpl : (backTo pos (starEach es X.env)).any (·.1) = false := by rfl)
    (ht : eval (.Call (.Attribute o m apos) (e :: es) [] pos) X.env = (do
      let ov ← eval o X.env
      standAt apos.atName
      let (f, first) ← holding [ov] (getMethod ov m pl)
      callWith pos f first (backTo pos (starEach (e :: es) X.env)) (backToKw pos (keywordEach [] X.env))) := by rfl) :
    PEx X (.Call (.Attribute o m apos) (e :: es) [] pos) (fun σ H Q E => ta σ H fun x H1 => ∃ a dx fs, x = .ref a ∧ H1 a = some (.ins C dx fs) ∧ fs.lookup m = none ∧ t σ H1 fun vs H2 => sp (x :: (vs ++ dvs)) H2 Q E) := by
  intro pins s σ H Q E I h
  refine PySem.W.methodCall_KW (pl := pl) (wpAny_mono (he pins s σ H _ I h) (fun u s1 ⟨x, H1, I1, rx, a, dx, fs, ex, ea, l, q⟩ => ?_) fun _ _ z => False.elim z) ht
  subst ex
  obtain rfl : u = Value.ref a := rx
  refine getmeth_ok (X := X.nox) I1 ea c hm l ?_
  refine PySem.W.callWith_K (first := [.ref a]) (h₀ := X.base) I.ok.mod.kin hm.kp (wpAny_mono (ha pos pins s1 σ H1 _ I1 q) (fun us s2 ⟨vs, H2, I2, r, q2⟩ => ⟨I2.kIn, ?_⟩) fun _ _ z => False.elim z) hst hpl
  exact run_fnx (us := .ref a :: us) (vs := .ref a :: vs) F hr hb hd I2 (.cons rfl r) q2
end
section
variable {X : Cx} {k : Nat} {f C : Addr} {fd : FuncData} {ps : List Str} {sp : Sp} {dvs : List V} {ds : List Value} {x m : Str} {p pos apos : Pos} {e o : Expr} {es : List Expr} {ta : TE} {t : TA}
end
theorem nsFind_none {es : Array DictEntry} {x : Str} (h : ∀ e ∈ es.toList, e.key.isStr x = false) : nsFind es x = none := by
  unfold nsFind findBy
  rw [← Array.find?_toList, List.find?_eq_none.mpr fun e he => by
    show ¬ e.key.isStr x = true
    rw [h e he]
    exact Bool.false_ne_true]
  all_goals rfl
theorem topRead_mod {K : PySem.W.Frag} {mg : Str → Option Value} {base : Heap} (M : Mod K mg base) (p : Program) : ∃ loose mb, PySem.W.TopRead p loose mg mb base := by
  obtain ⟨mb, h1, h2⟩ := M.blt
  obtain ⟨o, es, ep, ho, hd, hk, hm⟩ := id M.glob
  refine ⟨es.toList.filterMap fun e => match e.key with | .str y _ => some y | _ => none, mb, M.glob, h1, M.nolimit, h2, fun x _ hx _ _ _ => ?_⟩
  rw [← hm x]
  refine nsFind_none fun e he => ?_
  cases q : e.key.isStr x with
  | false => rfl
  | true =>
    exfalso
    obtain ⟨y, t, hy⟩ := hk e (Array.mem_toList_iff.mp he)
    refine hx (List.mem_filterMap.mpr ⟨e, he, ?_⟩)
    rw [hy] at q ⊢
    have : y = x := by simpa [Value.isStr] using q
    rw [this]
section
variable {X : Cx} {m : Bool} {x : Str} {C : Addr} {B newId initId : String} {bmB : List Value} {np cpos pos : Pos} {e0 : Expr} {rest : List Expr} {t : TA}
theorem psx_raise (hc : X.calm = true) (hg : Gl X x) (hm : X.mg x = some (.ref C)) (hn : PySem.W.nsIn X.K mainGlobals x = some (some (.ref C))) (hq : PySem.W.excIn X.K C bmB newId = true) (FB : ExcBaseFacts B newId initId bmB)
    (ha : PA X.nox (e0 :: rest) t) (he : starEach (e0 :: rest) X.env = (false, eval e0 X.env) :: starEach rest X.env := by rfl) (hpl : (backTo cpos (starEach rest X.env)).any (·.1) = false := by rfl) (hdb : (x == ("__debug__" : Str)) = false := by decide) :
    PSx X true (.Raise (some (.Call (.Name x np) (e0 :: rest) [] cpos)) none pos) (fun D DX σ H => t σ H fun vs H1 => vs.length ≤ sizeLine ∧ DX σ (.ref C) none H1) := by
  intro pins s σ H D DX I h
  obtain ⟨loose, mb, T⟩ := topRead_mod I.mod X.prog
  have O := PySem.W.own_of_in I.mod.kin T hn hq
  obtain ⟨tl, N, nm, q, bs, hdct, sn, sub, ab, col, dd, k0, k1, k2, k3, k5, mN, hC, hN, hni, OT⟩ := O.obj
  refine wpAny_Raise_call_subT (C := C) (nm := nm) (q := q) (N := N) (bs := bs) (bm := tl) (hdct := hdct) (sn := sn) (sub := sub) (ab := ab) (col := col) (dd := dd) (k0 := k0) (k1 := k1) (k2 := k2) (k3 := k3) (k5 := k5)
    FB (mN := mN) (OT.hasType FB.hasBase) (I.ok.hd hc) (by rw [he]; show (false || (backTo cpos (starEach rest X.env)).any (·.1)) = false; rw [hpl]; rfl) hni (ld_glob (X := X.nox) I hg hm ⟨rfl, ?_⟩ hdb)
  have h2 := ha cpos pins s σ H _ I h
  rw [he] at h2 ⊢
  refine Calls.evalArgs_plain (wpAny_mono h2 (fun us s2 ⟨vs, H1, I1, r, hz, q1⟩ => ⟨rfl, by rw [← r.length]; exact hz, I1.bk _ _ hC, hN.keeps I1.bk, OT.keeps I1.bk, fun h1 ex mk => ?_⟩) fun _ _ z => False.elim z)
  exact .inr ⟨rfl, σ, H1, s2, ex, C, us, h1, I1, rfl, rfl, mk, q1⟩
end
theorem top1_cx {CX : CXT} {P : Program} {w : World} {K : PySem.W.Frag} {mg : Str → Option Value} {base : Heap} {N : List Str} {qual : Str} {scope : Scope} {f : Addr} {cd : Value} {A : Around} {outer : List Env} {s : Shared} {H : Hp} {E : XK} :
    Top1 (cxOf CX P w K mg base N qual scope f cd A outer s H E) := ⟨rfl, rfl, rfl⟩
section
variable {P : Program} {w : World} {K : PySem.W.Frag} {mg : Str → Option Value} {base : Heap}
theorem Fun.okX {x qual : Str} {st : Stmt} {f : Addr} {fd : FuncData} {N ps : List Str} {k : Nat} {sp : Sp} (F : Fun K x qual st f fd) (S : FnScope N ps (defScope st)) (len : ∀ vs H Q E, sp vs H Q E → vs.length = ps.length)
    (hbody : ∀ (cdv : Value) (A : Around) (outer : List Env) (s : Shared) (H : Hp) (vs : List V) (Q : VK) (E : XK), Room k (A.deeper (envOfC qual (defScope st) s.heap.objs.size f cdv)) → sp vs H Q E →
      ∃ t, PSsx (cxOf (CXF P w) P w K mg base N qual (defScope st) f cdv A outer s H E) true (defBody st) t ∧ t { nx := fun _ H' => Q .non H', rt := Q } (fun _ => E) (start N vs) H) : FnOk P w K mg base (CXF P w) (k + 1) f fd ps sp := by
  obtain ⟨oc, od, kV, doc, pm, an, cdv, ct, osl, rfl, lk, hcd⟩ := F.ex
  refine fn_of lk hcd S len fun A outer s H vs Q E hr hsp => ?_
  obtain ⟨t, h, q⟩ := hbody cdv A outer s H vs Q E hr hsp
  refine ⟨fun D σ H' => t D (fun _ => E) σ H', fun pins s1 σ H1 D I hq => ?_, q⟩
  refine wpAny_mono (h pins s1 σ H1 D (fun _ => E) (I.wish _) hq) (fun fl s2 z => z.unwish) fun e s2 z => ?_
  rcases z with ⟨σ1, H2, s3, I3, fl⟩ | ⟨_, σ1, H2, s3, ex, C, vs', h1, I3, rfl, rfl, mk, he⟩
  · exact leave_fly I3.unwish top1_cx fl fun _ _ _ z => z
  · exact leave_made I3.unwish top1_cx mk he
end
section
variable {X : Cx} {pins : List (Addr × Obj)} {σ : St} {H : Hp} {s : Shared}
end
section
variable {X : Cx} {body suite : List Stmt} {b0 : Stmt} {c n : Str} {cp hpos pos : Pos} {i : Nat} {Cc : Addr} {tb : TSx} {ts : TS}
end
end L2
set_option Elab.async false
set_option linter.all false
set_option maxRecDepth 100000
set_option maxHeartbeats 4000000
namespace L2
open PySem PySem.Spec PyProof.Rows
section
variable {X : Cx} {a b c d : Expr} {ta tb tc td : TE} {pos : Pos}
end
section
variable {X : Cx} {pos : Pos}
/-- a number of the module, a class of the text, a built-in type -/
theorem pe_gint {x : Str} {i : Int} {t : Tok} (hg : Gl X x) (hm : X.mg x = some (.int i t)) (hd : (x == ("__debug__" : Str)) = false := by decide) : PE X (.Name x pos) (tC (.int i)) := pe_glob (v := .int i) hg hm ⟨_, rfl⟩ hd
end
theorem passX {X : Cx} : Passes (CXF X.prog X.w) X E0 := fun _ _ _ _ _ _ _ h => by
  obtain ⟨x, C, a0, H', B, _, _, _, _, _, _, _, _, _, he⟩ := h
  exact he.elim
theorem cxOf_K {CX : CXT} {P : Program} {w : World} {K : PySem.W.Frag} {mg : Str → Option Value} {base : Heap} {N : List Str} {qual : Str} {scope : Scope} {f : Addr} {cd : Value} {A : Around} {outer : List Env} {s : Shared} {H : Hp} {E : XK} :
    (cxOf CX P w K mg base N qual scope f cd A outer s H E).K = K := rfl
end L2
set_option Elab.async false
set_option linter.all false
set_option maxRecDepth 100000
set_option maxHeartbeats 4000000
namespace L2
open PySem PySem.Spec PyProof.Rows
section
variable {prog : Program} {w : World} {A : Around} {E : Value → Shared → Prop} {s : Shared} {K : PySem.W.Frag} {x C : Addr}
open PySem.W Builtin Builtin.ObjectAttr Builtin.Getset_descriptor in
open PySem.W Builtin Builtin.ObjectAttr in
open PySem.W Builtin in
open PySem.W Builtin in
end
section
variable {X : Cx}
end
end L2
set_option Elab.async false
set_option linter.all false
set_option maxRecDepth 100000
set_option maxHeartbeats 4000000
namespace L2
open PySem PySem.Spec PyProof.Rows
def rFld (K : PySem.W.Frag) (f : Str) (x : V) (H : Hp) (Q : VK) : Prop := ∃ a C dx fs v, x = .ref a ∧ H a = some (.ins C dx fs) ∧ Cls K C ∧ NoAttr K C f ∧ fs.lookup f = some v ∧ Q v H
def rPutF (K : PySem.W.Frag) (f : Str) (y x : V) (H : Hp) (Q : Hp → Prop) : Prop := ∃ a C dx fs, x = .ref a ∧ H a = some (.ins C dx fs) ∧ Cls K C ∧ NoAttr K C f ∧ fs.length < 1000 ∧ Q (upd H a (.ins C dx (putF f y fs)))
def rMeth (C : Addr) (m : Str) (x : V) (H : Hp) (Q : Prop) : Prop := ∃ a dx fs, x = .ref a ∧ H a = some (.ins C dx fs) ∧ fs.lookup m = none ∧ Q
def rLen (K : PySem.W.Frag) (xs : List V) (H : Hp) (Q : VK) : Prop := ∃ p ys, xs = [.ref p] ∧ (SqL K H p ys ∨ SqT K H p ys) ∧ Q (.int ys.length) H
section
variable {K : PySem.W.Frag} {H : Hp} {p C dx : Addr} {fs : List (Str × V)} {f m : Str} {v y : V} {Q : VK} {Q1 : Hp → Prop} {xs : List V} {i : Int}
theorem tFld_eq (K : PySem.W.Frag) (ta : TE) (f : Str) : tFld K ta f = fun σ H Q => ta σ H fun x H1 => rFld K f x H1 Q := rfl
theorem sFld_eq (K : PySem.W.Frag) (ta tv : TE) (f : Str) : sFld K ta tv f = fun D σ H => tv σ H fun y H1 => ta σ H1 fun x H2 => rPutF K f y x H2 (D.nx σ) := rfl
theorem tMeth_eq (C : Addr) (m : Str) (sp : Sp) (dvs : List V) (E : XK) (ta : TE) (t : TA) : tMeth C m sp dvs E ta t = fun σ H Q => ta σ H fun x H1 => rMeth C m x H1 (t σ H1 fun vs H2 => sp (x :: (vs ++ dvs)) H2 Q E) := rfl
theorem rd_fld (hp : H p = some (.ins C dx fs)) (c : Cls K C) (n : NoAttr K C f) (l : fs.lookup f = some v) (q : Q v H) : rFld K f (.ref p) H Q := ⟨p, C, dx, fs, v, rfl, hp, c, n, l, q⟩
theorem rd_put (hp : H p = some (.ins C dx fs)) (c : Cls K C) (n : NoAttr K C f) (l : fs.length < 1000) (q : Q1 (upd H p (.ins C dx (putF f y fs)))) : rPutF K f y (.ref p) H Q1 := ⟨p, C, dx, fs, rfl, hp, c, n, l, q⟩
theorem rd_meth {Q : Prop} (hp : H p = some (.ins C dx fs)) (l : fs.lookup m = none) (q : Q) : rMeth C m (.ref p) H Q := ⟨p, dx, fs, rfl, hp, l, q⟩
theorem rd_ixL (hS : SqL K H p xs) (h : atI xs i = some v) (q : Q v H) : rIxL K (.ref p) (.int i) H Q := ⟨p, xs, i, v, rfl, rfl, hS, h, q⟩
theorem rd_ixT (hS : SqT K H p xs) (h : atI xs i = some v) (q : Q v H) : rIxT K (.ref p) (.int i) H Q := ⟨p, xs, i, v, rfl, rfl, hS, h, q⟩
theorem rd_lenL (hS : SqL K H p xs) (q : Q (.int xs.length) H) : rLen K [.ref p] H Q := ⟨p, xs, rfl, .inl hS, q⟩
end
section
variable {X : Cx}
theorem call_lenS : CallR X (.builtin "len") (rLen X.K) := call_len_seq
end
end L2
set_option Elab.async false
set_option linter.all false
set_option maxRecDepth 100000
set_option maxHeartbeats 4000000
namespace L2
open PySem PySem.Spec PyProof.Rows
def Star1 (e : Expr) : Prop := ∀ (es : List Expr) (env : Env), starEach (e :: es) env = (false, eval e env) :: starEach es env
section
variable {a b c : Expr} {es fs : List Expr} {x : Str} {p q : Pos}
theorem sx_const {k j} : Star1 (.Constant k j p) := fun _ _ => rfl
theorem sx_name : Star1 (.Name x p) := fun _ _ => rfl
theorem sx_bin {op} : Star1 (.BinOp a op b p) := fun _ _ => rfl
theorem sx_cmp {ops} : Star1 (.Compare a ops es p) := fun _ _ => rfl
theorem sx_call {kw} : Star1 (.Call a es kw p) := fun _ _ => rfl
theorem sx_attr : Star1 (.Attribute a x p) := fun _ _ => rfl
theorem sx_sub : Star1 (.Subscript a b p) := fun _ _ => rfl
theorem sx_tuple {k} : Star1 (.Tuple es k p) := fun _ _ => rfl
theorem sx_join : Star1 (.JoinedStr es p) := fun _ _ => rfl
end
def NoStar (es : List Expr) : Prop := ∀ (pos : Pos) (env : Env), (backTo pos (starEach es env)).any (·.1) = false
theorem ns_nil : NoStar [] := fun _ _ => rfl
theorem ns_cons {e : Expr} {es : List Expr} (h : Star1 e) (r : NoStar es) : NoStar (e :: es) := fun pos env => by
  have z := r pos env
  unfold backTo at z ⊢
  rw [h, List.map_cons, List.any_cons, z]
  rfl
section
variable {X : Cx} {e : Expr} {es : List Expr} {te : TE} {t : TA} {pos : Pos}
theorem pac (s : Star1 e) (ha : PE X e te) (hr : PA X es t) : PA X (e :: es) (tCons te t) := pa_cons ha hr (s _ _)
end
section
variable {X : Cx} {CX : CXT} {k : Nat} {f C : Addr} {fd : FuncData} {ps : List Str} {sp : Sp} {dvs : List V} {ds : List Value} {E : XK} {x m : Str} {p pos apos : Pos} {e o : Expr} {es : List Expr} {ta : TE} {t : TA} {id Ty : String} {r : List V → Hp → VK → Prop}
/-- a name of the text that is no word of the interpreter's -/
structure Nm (x : Str) : Prop where
  db : (x == ("__debug__" : Str)) = false
  cd : (x == ("__classdict__" : Str)) = false
  nn : x ≠ "__name__"
theorem fe_var {i : Nat} (n : Nm x) (hv : X.env.scope.names.lookup x = some .local) (hN : X.N[i]? = some x) : PE X (.Name x pos) (tVar i) := pe_var hN (Or.inl hv) n.db n.cd
theorem fe_gint {i : Int} {u : Tok} (n : Nm x) (hg : X.env.scope.names.lookup x = some .globalImplicit) (hm : X.mg x = some (.int i u)) : PE X (.Name x pos) (tC (.int i)) := pe_gint hg hm n.db
theorem fe_call (n : Nm x) (hg : X.env.scope.names.lookup x = some .globalImplicit) (F : FnOk X.prog X.w X.K X.mg X.base CX k f fd ps sp) (hr : Room k X.A) (hm : X.mg x = some (.ref f)) (hk : PySem.W.keepIn X.K (.ref f) = true) (hb : Binds X.K fd ps []) (hx : Passes CX X E)
    (s : Star1 e) (z : NoStar es) (ha : PA X (e :: es) t) : PE X (.Call (.Name x p) (e :: es) [] pos) (tCall sp [] E t) := pe_call F hr hg hm hk hb .nil hx ha n.db (s _ _) (z _ _)
theorem fe_callB (n : Nm x) (hg : X.env.scope.names.lookup x = some .globalImplicit) (hc : CallR X (.builtin id) r) (hm : X.mg x = none) (hv : bootBuiltins x = some (.builtin id)) (s : Star1 e) (z : NoStar es) (ha : PA X (e :: es) t) :
    PE X (.Call (.Name x p) (e :: es) [] pos) (tCB r t) := pe_callB hc hg hm hv ha n.nn n.db (s _ _) (z _ _)
theorem fe_callTy (n : Nm x) (hg : X.env.scope.names.lookup x = some .globalImplicit) (hc : CallR X (.type Ty) r) (hm : X.mg x = none) (hv : bootBuiltins x = some (.type Ty)) (s : Star1 e) (z : NoStar es) (ha : PA X (e :: es) t) :
    PE X (.Call (.Name x p) (e :: es) [] pos) (tCB r t) := pe_callTy hc hg hm hv ha n.nn n.db (s _ _) (z _ _)
theorem fe_make (n : Nm x) (hg : X.env.scope.names.lookup x = some .globalImplicit) (M : Mk X.K C f) (F : FnOk X.prog X.w X.K X.mg X.base CX k f fd ps sp) (hr : Room (k + 1) X.A) (hm : X.mg x = some (.ref C)) (hb : Binds X.K fd ps []) (hx : Passes CX X E)
    (s : Star1 e) (z : NoStar es) (ha : PA X (e :: es) t) : PE X (.Call (.Name x p) (e :: es) [] pos) (tMake C sp [] E t) := pe_make M F hr hg hm hb .nil hx ha n.db (s _ _) (z _ _)
theorem fex_call (n : Nm x) (hg : X.env.scope.names.lookup x = some .globalImplicit) (F : FnOk X.prog X.w X.K X.mg X.base (CXF X.prog X.w) k f fd ps sp) (hr : Room k X.A) (hm : X.mg x = some (.ref f)) (hk : PySem.W.keepIn X.K (.ref f) = true) (hb : Binds X.K fd ps [])
    (s : Star1 e) (z : NoStar es) (ha : PA X.nox (e :: es) t) : PEx X (.Call (.Name x p) (e :: es) [] pos) (fun σ H Q E => t σ H fun vs H1 => sp (vs ++ []) H1 Q E) := pex_call F hr hg hm hk hb .nil ha n.db (s _ _) (z _ _)
end
def Base (o : Expr) : Prop := ∀ (f : Str) (env : Env) (whole : Sem Value), attributeBase o f env whole = whole
section
variable {a b : Expr} {es : List Expr} {x : Str} {p : Pos}
theorem bs_name : Base (.Name x p) := fun _ _ _ => rfl
theorem bs_attr : Base (.Attribute a x p) := fun _ _ _ => rfl
theorem bs_sub : Base (.Subscript a b p) := fun _ _ _ => rfl
end
theorem all_not_of {l : List (Bool × Sem Value)} (h : l.any (·.1) = false) : l.all (fun x => !x.1) = true := by
  rw [List.all_eq_true]
  intro x hx
  cases e : x.1 with
  | false => rfl
  | true =>
    have : l.any (·.1) = true := List.any_eq_true.mpr ⟨x, hx, e⟩
    rw [h] at this
    cases this
theorem meth_ht {o : Expr} {m : Str} {args : List Expr} {apos pos : Pos} {env : Env} (ab : Base o) (z : NoStar args) (hl : (apos.endLine == pos.line) = true) (hn : args.length < 30) :
    eval (.Call (.Attribute o m apos) args [] pos) env = (do
      let ov ← eval o env
      standAt apos.atName
      let (f, first) ← holding [ov] (getMethod ov m (do return (← importBound o env).getD true))
      callWith pos f first (backTo pos (starEach args env)) (backToKw pos (keywordEach [] env))) := by
  have h1 : eval (.Call (.Attribute o m apos) args [] pos) env = (do
      let ov ← attributeBase o m env (eval o env)
      standAt apos.atName
      methodCall o m apos pos env ov (args.length + ([] : List Keyword).length) (backTo pos (starEach args env)) (backToKw pos (keywordEach [] env))) := rfl
  rw [h1, ab]
  have h2 : methodCallForm (args.length + ([] : List Keyword).length) (backTo pos (starEach args env)) (backToKw pos (keywordEach [] env)) = true := by
    unfold methodCallForm
    have e1 : (backTo pos (starEach args env)).all (!·.1) = true := all_not_of (z pos env)
    have e2 : (backToKw pos (keywordEach [] env)).all (·.1.isSome) = true := rfl
    have e3 : (backToKw pos (keywordEach [] env)).isEmpty = true := rfl
    rw [e1, e2, e3]
    have : args.length + ([] : List Keyword).length + 0 < 30 := by simpa using hn
    exact decide_eq_true this
  unfold methodCall
  rw [h2]
  have h3 : ∀ ov, calleeOf true o env ov m = getMethod ov m (do return (← importBound o env).getD true) := fun ov => rfl
  have h4 : methodCallPos true o env apos pos = pure pos := by
    unfold methodCallPos
    rw [hl]
    rfl
  simp only [h3, h4]
  rfl
section
variable {X : Cx} {CX : CXT} {k : Nat} {f C : Addr} {fd : FuncData} {ps : List Str} {sp : Sp} {E : XK} {x m : Str} {p pos apos : Pos} {e o : Expr} {es : List Expr} {ta : TE} {t : TA}
theorem fe_meth (ab : Base o) (hl : (apos.endLine == pos.line) = true) (hn : es.length < 29) (he : PE X o ta) (c : Cls X.K C) (hm : Meth X.K C m f) (F : FnOk X.prog X.w X.K X.mg X.base CX k f fd ps sp) (hr : Room k X.A) (hb : Binds X.K fd ps []) (hx : Passes CX X E)
    (s : Star1 e) (z : NoStar es) (ha : PA X (e :: es) t) : PE X (.Call (.Attribute o m apos) (e :: es) [] pos) (tMeth C m sp [] E ta t) :=
  pe_meth he c hm F hr hb .nil hx ha (s _ _) (z _ _) (meth_ht ab (ns_cons s z) hl (by simp only [List.length_cons]; omega))
theorem fe_meth0 (ab : Base o) (hl : (apos.endLine == pos.line) = true) (he : PE X o ta) (c : Cls X.K C) (hm : Meth X.K C m f) (F : FnOk X.prog X.w X.K X.mg X.base CX k f fd ps sp) (hr : Room k X.A) (hb : Binds X.K fd ps []) (hx : Passes CX X E) :
    PE X (.Call (.Attribute o m apos) [] [] pos) (tMeth C m sp [] E ta tNil) :=
  pe_meth0 he c hm F hr hb .nil hx (meth_ht ab ns_nil hl (by decide))
theorem fex_meth (ab : Base o) (hl : (apos.endLine == pos.line) = true) (hn : es.length < 29) (he : PE X.nox o ta) (c : Cls X.K C) (hm : Meth X.K C m f) (F : FnOk X.prog X.w X.K X.mg X.base (CXF X.prog X.w) k f fd ps sp) (hr : Room k X.A) (hb : Binds X.K fd ps [])
    (s : Star1 e) (z : NoStar es) (ha : PA X.nox (e :: es) t) : PEx X (.Call (.Attribute o m apos) (e :: es) [] pos) (fun σ H Q E => ta σ H fun x H1 => rMeth C m x H1 (t σ H1 fun vs H2 => sp (x :: (vs ++ [])) H2 Q E)) :=
  pex_meth he c hm F hr hb .nil ha (s _ _) (z _ _) (meth_ht ab (ns_cons s z) hl (by simp only [List.length_cons]; omega))
end
end L2
namespace L2
open PySem
theorem bt_len : bootBuiltins "len" = some (.builtin "len") := by decide +kernel
theorem bt_min : bootBuiltins "min" = some (.builtin "min") := by decide +kernel
theorem bt_max : bootBuiltins "max" = some (.builtin "max") := by decide +kernel
theorem bt_sorted : bootBuiltins "sorted" = some (.builtin "sorted") := by decide +kernel
theorem bt_int : bootBuiltins "int" = some (.type "int") := by decide +kernel
end L2
set_option Elab.async false
set_option linter.all false
set_option maxRecDepth 100000
set_option maxHeartbeats 4000000
namespace L2
open PySem PySem.Spec PyProof.Rows
def getV (σ : St) (i : Nat) (Q : V → Prop) : Prop :=
  match σ[i]? with
  | some (some v) => Q v
  | _ => False
theorem getV_zero {v : V} {σ : St} {Q : V → Prop} : getV (some v :: σ) 0 Q = Q v := rfl
theorem getV_succ {x : Option V} {σ : St} {n : Nat} {Q : V → Prop} : getV (x :: σ) (n + 1) Q = getV σ n Q := rfl
def asI (x : V) (Q : Int → Prop) : Prop :=
  match x with
  | .int i => Q i
  | _ => False
def asB (x : V) (Q : Bool → Prop) : Prop :=
  match x with
  | .bl i => Q i
  | _ => False
theorem asI_int {i : Int} {Q : Int → Prop} : asI (.int i) Q = Q i := rfl
theorem asB_bl {i : Bool} {Q : Bool → Prop} : asB (.bl i) Q = Q i := rfl
theorem getV_ex {σ : St} {i : Nat} {Q : V → Prop} : getV σ i Q = ∃ v, σ[i]? = some (some v) ∧ Q v := by
  unfold getV
  refine propext ⟨fun h => ?_, fun ⟨v, e, q⟩ => by rw [e]; exact q⟩
  split at h
  · exact ⟨_, by assumption, h⟩
  · exact h.elim
theorem asI_ex {x : V} {Q : Int → Prop} : asI x Q = ∃ i, x = .int i ∧ Q i := by
  refine propext ⟨fun h => ?_, fun ⟨v, e, q⟩ => by rw [e]; exact q⟩
  cases x with
  | int i => exact ⟨i, rfl, h⟩
  | _ => exact h.elim
theorem asB_ex {x : V} {Q : Bool → Prop} : asB x Q = ∃ i, x = .bl i ∧ Q i := by
  refine propext ⟨fun h => ?_, fun ⟨v, e, q⟩ => by rw [e]; exact q⟩
  cases x with
  | bl i => exact ⟨i, rfl, h⟩
  | _ => exact h.elim
def tVarD (i : Nat) : TE := fun σ H Q => getV σ i fun v => Q v H
theorem tVarD_eq {i : Nat} : tVarD i = tVar i := by funext σ H Q; exact getV_ex
def rID (C : Int → Int → Prop) (g : Int → Int → V) : R2 := fun x y H Q => asI x fun i => asI y fun j => C i j ∧ Q (g i j) H
theorem rID_eq {C : Int → Int → Prop} {g : Int → Int → V} : rID C g = rI C g := by funext x y H Q; simp only [rID, rI, asI_ex, exists_and_left]
def rI0D (g : Int → Int → V) : R2 := fun x y H Q => asI x fun i => asI y fun j => Q (g i j) H
theorem rI0D_eq {g : Int → Int → V} : rI0D g = rI0 g := by funext x y H Q; simp only [rI0D, rI0, asI_ex, exists_and_left]
def tTestD (t : TE) : TT := fun σ H Q => t σ H fun x H' => asB x fun k => Q k H'
theorem tTestD_eq {t : TE} : tTestD t = tTest t := by funext σ H Q; simp only [tTestD, tTest, asB_ex]
def tBD (t : TE) : TT := fun σ H Q => t σ H fun x H' => asB x fun k => Q k H'
theorem tBD_eq {t : TE} : tBD t = tB t := by funext σ H Q; simp only [tBD, tB, asB_ex]
def cmpB (x y : V) : Option Bool :=
  match x with
  | .int i => (match y with
    | .int j => some (decide (i = j))
    | .non => some false
    | _ => none)
  | .bl i => (match y with
    | .bl j => some (decide (i = j))
    | _ => none)
  | .str i => (match y with
    | .str j => some (decide (i = j))
    | _ => none)
  | .non => (match y with
    | .int _ => some false
    | _ => none)
  | _ => none
theorem cmpB_eq {x y : V} {b : Bool} (h : cmpB x y = some b) : scal x y = true ∧ decide (x = y) = b := by
  unfold cmpB at h
  split at h <;> first | cases h | (split at h <;> cases h <;> exact ⟨rfl, by simp⟩)
def rEqD : R2 := fun x y H Q =>
  match cmpB x y with
  | some b => Q (.bl b) H
  | none => rEq x y H Q
def rNeD : R2 := fun x y H Q =>
  match cmpB x y with
  | some b => Q (.bl (!b)) H
  | none => rNe x y H Q
theorem rEqD_eq : rEqD = rEq := by
  funext x y H Q
  unfold rEqD
  split
  · rename_i b e
    obtain ⟨e1, e2⟩ := cmpB_eq e
    unfold rEq
    rw [e1, e2]
    simp only [true_and]
  · rfl
theorem rNeD_eq : rNeD = rNe := by
  funext x y H Q
  unfold rNeD
  split
  · rename_i b e
    obtain ⟨e1, e2⟩ := cmpB_eq e
    unfold rNe
    rw [e1, e2]
    simp only [true_and]
  · rfl
theorem rEq_int {i j : Int} {H : Hp} {Q : VK} : rEqD (.int i) (.int j) H Q = Q (.bl (decide (i = j))) H := rfl
theorem rNe_int {i j : Int} {H : Hp} {Q : VK} : rNeD (.int i) (.int j) H Q = Q (.bl (!decide (i = j))) H := rfl
theorem rEq_bl {i j : Bool} {H : Hp} {Q : VK} : rEqD (.bl i) (.bl j) H Q = Q (.bl (decide (i = j))) H := rfl
theorem rNe_bl {i j : Bool} {H : Hp} {Q : VK} : rNeD (.bl i) (.bl j) H Q = Q (.bl (!decide (i = j))) H := rfl
theorem rEq_str {i j : Str} {H : Hp} {Q : VK} : rEqD (.str i) (.str j) H Q = Q (.bl (decide (i = j))) H := rfl
theorem rEq_inon {i : Int} {H : Hp} {Q : VK} : rEqD (.int i) .non H Q = Q (.bl false) H := rfl
theorem rNe_inon {i : Int} {H : Hp} {Q : VK} : rNeD (.int i) .non H Q = Q (.bl true) H := rfl
structure JE (X : Cx) (e : Expr) (t : TE) : Prop where
  h : PE X e t
structure JT (X : Cx) (e : Expr) (t : TT) : Prop where
  h : PT X e t
structure JW (X : Cx) (e : Expr) (t : TT) : Prop where
  h : PW X e t
structure JA (X : Cx) (es : List Expr) (t : TA) : Prop where
  h : PA X es t
structure JS (X : Cx) (s : Stmt) (t : TS) : Prop where
  h : PS X s t
structure JSs (X : Cx) (s : List Stmt) (t : TS) : Prop where
  h : PSs X s t
structure JSx (X : Cx) (m : Bool) (s : Stmt) (t : TSx) : Prop where
  h : PSx X m s t
structure JSsx (X : Cx) (m : Bool) (s : List Stmt) (t : TSx) : Prop where
  h : PSsx X m s t
structure JEx (X : Cx) (e : Expr) (t : TEx) : Prop where
  h : PEx X e t
structure JG (X : Cx) (e : Expr) (t : TG) : Prop where
  h : PG X e t
structure JGs (X : Cx) (e : List Expr) (t : TGs) : Prop where
  h : PGs X e t
structure JI (X : Cx) (tg e : Expr) (t : TI) : Prop where
  h : PI X tg e t
structure JF (X : Cx) (e : Expr) (t : St → Hp → (Hp → Prop) → Prop) : Prop where
  h : PF X e t
structure JFs (X : Cx) (es : List Expr) (t : St → Hp → (Hp → Prop) → Prop) : Prop where
  h : PFs X es t
structure JPs (X : Cx) (pos : Pos) (keys : List (Option Expr)) (values : List Expr) (trs : List (TE × TE)) : Prop where
  h : PPs X pos keys values trs
structure JOp (X : Cx) (f : Value → Value → Sem Value) (r : R2) : Prop where
  h : OpR X f r
structure JCl (X : Cx) (f : Value) (r : List V → Hp → VK → Prop) : Prop where
  h : CallR X f r
structure JIx (X : Cx) (r : R2) : Prop where
  h : IxR X r
structure JPu (X : Cx) (t : TSet) : Prop where
  h : PSet X t
section
variable {X : Cx} {a b c d e : Expr} {ta tb tc td te : TE} {tA tB' : TT} {es : List Expr} {t : TA} {x : Str} {pos pos' p : Pos}
theorem jo_add : JOp X (binaryOp .Add) (rI0D fun i j => .int (i + j)) := ⟨rI0D_eq ▸ op_add⟩
theorem jo_sub : JOp X (binaryOp .Sub) (rI0D fun i j => .int (i - j)) := ⟨rI0D_eq ▸ op_sub⟩
theorem jo_mul : JOp X (binaryOp .Mult) (rID CMul fun i j => .int (i * j)) := ⟨rID_eq ▸ op_mul⟩
theorem jo_fdiv : JOp X (binaryOp .FloorDiv) (rID CDiv fun i j => .int (i / j)) := ⟨rID_eq ▸ op_fdiv⟩
theorem jo_mod : JOp X (binaryOp .Mod) (rID (fun _ j => 0 < j) fun i j => .int (i % j)) := ⟨rID_eq ▸ op_mod⟩
theorem jo_rep : JOp X (binaryOp .Mult) rRep := ⟨op_rep⟩
theorem jo_eq : JOp X (compareOp .Eq) rEqD := ⟨rEqD_eq ▸ op_eq⟩
theorem jo_ne : JOp X (compareOp .NotEq) rNeD := ⟨rNeD_eq ▸ op_ne⟩
theorem jo_lt : JOp X (compareOp .Lt) (rI0D fun i j => .bl (decide (i < j))) := ⟨rI0D_eq ▸ op_lt⟩
theorem jo_le : JOp X (compareOp .LtE) (rI0D fun i j => .bl (decide (i ≤ j))) := ⟨rI0D_eq ▸ op_le⟩
theorem jo_gt : JOp X (compareOp .Gt) (rI0D fun i j => .bl (decide (j < i))) := ⟨rI0D_eq ▸ op_gt⟩
theorem jo_ge : JOp X (compareOp .GtE) (rI0D fun i j => .bl (decide (j ≤ i))) := ⟨rI0D_eq ▸ op_ge⟩
theorem jc_len : JCl X (.builtin "len") (rLen X.K) := ⟨call_lenS⟩
theorem jx_list : JIx X (rIxL X.K) := ⟨ix_list⟩
theorem jx_tup : JIx X (rIxT X.K) := ⟨ix_tup⟩
theorem jp_list : JPu X rSetL := ⟨set_list⟩
theorem je_int {i j pos} : JE X (.Constant (.int i) j pos) (tC (.int i)) := ⟨pe_int⟩
theorem je_bl {b j pos} : JE X (.Constant (.bool b) j pos) (tC (.bl b)) := ⟨pe_bl⟩
theorem je_non {j pos} : JE X (.Constant .none j pos) (tC .non) := ⟨pe_non⟩
theorem je_str {x j pos} : JE X (.Constant (.str x) j pos) (tC (.str x)) := ⟨pe_str⟩
theorem je_var {i : Nat} (n : Nm x) (hv : X.env.scope.names.lookup x = some .local) (hN : X.N[i]? = some x) : JE X (.Name x pos) (tVarD i) := ⟨tVarD_eq ▸ fe_var n hv hN⟩
theorem je_gint {i : Int} {u : Tok} (n : Nm x) (hg : X.env.scope.names.lookup x = some .globalImplicit) (hm : X.mg x = some (.int i u)) : JE X (.Name x pos) (tC (.int i)) := ⟨fe_gint n hg hm⟩
theorem je_op {op : Operator} {r : R2} (ho : JOp X (binaryOp op) r) (ha : JE X a ta) (hb : JE X b tb) : JE X (.BinOp a op b pos) (tOp r ta tb) := ⟨pe_op ho.h ha.h hb.h⟩
theorem je_cmp {op : CmpOp} {r : R2} (ho : JOp X (compareOp op) r) (ha : JE X a ta) (hb : JE X b tb) (h1 : op ≠ .In) (h2 : op ≠ .NotIn) : JE X (.Compare a [op] [b] pos) (tOp r ta tb) := ⟨pe_cmpR ho.h ha.h hb.h (nomark b h1 h2)⟩
theorem je_notN {j} (ha : JE X a ta) : JE X (.Compare a [.IsNot] [.Constant .none j pos'] pos) (tNotN ta) := ⟨pe_cmp (pc_notN ha.h)⟩
theorem je_if (hc : JT X c tA) (ha : JE X a ta) (hb : JE X b tb) : JE X (.IfExp c a b pos) (tIf tA ta tb) := ⟨pe_ifExp hc.h ha.h hb.h⟩
theorem je_fld {f : Str} (ab : Base e) (he : JE X e ta) : JE X (.Attribute e f pos) (tFld X.K ta f) := ⟨pe_fld he.h (ab _ _ _)⟩
theorem je_ix {r : R2} (hr : JIx X r) (ha : JE X a ta) (hb : JE X b tb) (hs : PlainIx b) : JE X (.Subscript a b pos) (tOp r ta tb) := ⟨pe_ix hr.h ha.h hb.h hs⟩
theorem je_dget (hu : X.A.units + 1 < cLine) (ha : JE X a ta) (hb : JE X b tb) (hs : PlainIx b) : JE X (.Subscript a b pos) (tDGet ta tb) := ⟨pe_dget hu ha.h hb.h hs⟩
theorem ja_nil : JA X [] tNil := ⟨pa_nil⟩
theorem ja_cons (s : Star1 e) (ha : JE X e te) (hr : JA X es t) : JA X (e :: es) (tCons te t) := ⟨pac s ha.h hr.h⟩
theorem je_lst (h : JA X es t) : JE X (.List es pos) (tLst t) := ⟨pe_lst h.h⟩
theorem je_tup {k} (h : JA X es t) : JE X (.Tuple es k pos) (tTup t) := ⟨pe_tup h.h⟩
theorem je_dnewK : JE X (.Dict [] [] pos) tDNewK := ⟨pe_dnewK⟩
theorem jps_nil : JPs X pos [] [] [] := ⟨pps_nil⟩
theorem jps_cons {k v : Expr} {ks : List (Option Expr)} {vs : List Expr} {tk tv : TE} {trs : List (TE × TE)} (hk : JE X k tk) (hv : JE X v tv) (hr : JPs X pos ks vs trs) : JPs X pos (some k :: ks) (v :: vs) ((tk, tv) :: trs) := ⟨pps_cons hk.h hv.h hr.h⟩
theorem je_disp {keys : List (Option Expr)} {values : List Expr} {trs : List (TE × TE)} (h : JPs X pos keys values trs) (hall : keys.all (·.isSome) = true) (hl : keys.length = values.length) (h0 : keys ≠ []) (h15 : keys.length ≤ 15) : JE X (.Dict keys values pos) (tDisp trs) :=
  ⟨pe_disp h.h hall hl h0 h15⟩
theorem jf_str {x j pos} (h : x.length ≤ 2000) : JF X (.Constant (.str x) j pos) (fun _ H Q => Q H) := ⟨pf_str h⟩
theorem fI_eq {te : TE} : (fun (σ : St) (H : Hp) (Q : Hp → Prop) => te σ H fun v H1 => asI v fun i => i.natAbs.log2 < 1920 ∧ Q H1) = (fun σ H Q => te σ H fun v H1 => ∃ i, v = .int i ∧ i.natAbs.log2 < 1920 ∧ Q H1) := by simp only [asI_ex]
theorem jf_int {te : TE} (he : JE X e te) : JF X (.FormattedValue e (-1) none pos) (fun σ H Q => te σ H fun v H1 => asI v fun i => i.natAbs.log2 < 1920 ∧ Q H1) := ⟨fI_eq ▸ pf_int he.h⟩
theorem jfs_nil : JFs X [] (fun _ H Q => Q H) := ⟨pfs_nil⟩
theorem jfs_cons {t u : St → Hp → (Hp → Prop) → Prop} (h1 : JF X e t) (h2 : JFs X es u) (hs : evalEach (e :: es) X.env = eval e X.env :: evalEach es X.env) : JFs X (e :: es) (fun σ H Q => t σ H fun H1 => u σ H1 Q) := ⟨pfs_cons h1.h h2.h hs⟩
theorem je_fstr {v1 v2 : Expr} {rest : List Expr} {t : St → Hp → (Hp → Prop) → Prop} (h : JFs X (v1 :: v2 :: rest) t) (hn : (v1 :: v2 :: rest).length ≤ 8000) : JE X (.JoinedStr (v1 :: v2 :: rest) pos) (fun σ H Q => t σ H fun H1 => ∀ z : Str, Q (.str z) H1) := ⟨pe_fstr h.h hn⟩
theorem jt_cmp {op : CmpOp} {r : R2} (ho : JOp X (compareOp op) r) (ha : JE X a ta) (hb : JE X b tb) (h1 : op ≠ .In) (h2 : op ≠ .NotIn) : JT X (.Compare a [op] [b] pos) (tTestD (tOp r ta tb)) := ⟨tTestD_eq ▸ pt_cmpR ho.h ha.h hb.h (nomark b h1 h2)⟩
theorem jt_notN {j} (ha : JE X a ta) : JT X (.Compare a [.IsNot] [.Constant .none j pos'] pos) (tBD (tNotN ta)) := ⟨tBD_eq ▸ pt_cmp (pc_notN ha.h)⟩
theorem jt_din (hu : X.A.units + 1 < cLine) (ha : JE X a ta) (hb : JE X b tb) (hm : behindInMarks .In b = false) : JT X (.Compare a [.In] [b] pos) (tBD (tDIn ta tb)) := ⟨tBD_eq ▸ pt_cmp (pc_din hu ha.h hb.h) hm⟩
theorem jw_and1 (ha : JT X a tA) : JW X (.BoolOp .And [a] pos) tA := ⟨pw_and1 ha.h⟩
theorem jw_or1 (ha : JT X a tA) : JW X (.BoolOp .Or [a] pos) tA := ⟨pw_or1 ha.h⟩
theorem jw_and {rest : List Expr} (ha : JT X a tA) (hb : JW X (.BoolOp .And (b :: rest) pos) tB') : JW X (.BoolOp .And (a :: b :: rest) pos) (tAnd tA tB') := ⟨pw_and ha.h hb.h⟩
theorem jw_or {rest : List Expr} (ha : JT X a tA) (hb : JW X (.BoolOp .Or (b :: rest) pos) tB') : JW X (.BoolOp .Or (a :: b :: rest) pos) (tOr tA tB') := ⟨pw_or ha.h hb.h⟩
theorem jt_bool (h : JW X e tA) : JT X e tA := ⟨h.h.pt⟩
theorem jt_not (ha : JT X a tA) : JT X (.UnaryOp .Not a pos) (tNot tA) := ⟨pt_not ha.h⟩
def PlainT (a : Expr) : Prop := ∀ (env : Env) (whole : Sem Value), isTrue a env whole = (do let v ← whole; standAt a.pos; holding [v] (truthy v))
theorem pl_name : PlainT (.Name x p) := fun _ _ => rfl
theorem pl_call {kw} : PlainT (.Call a es kw p) := fun _ _ => rfl
theorem pl_sub : PlainT (.Subscript a b p) := fun _ _ => rfl
def tTru (K : PySem.W.Frag) (ta : TE) : TT := fun σ H Q => ta σ H fun x H' => ∃ k, TruV K x H' k ∧ Q k H'
theorem jt_truth (he : PlainT a) (ha : JE X a ta) : JT X a (tTru X.K ta) := ⟨pt_truth ha.h (he _)⟩
theorem jt_val (he : PlainT a) (ha : JE X a ta) : JT X a (tBD ta) := ⟨tBD_eq ▸ pt_val ha.h (he _)⟩
end
section
variable {X : Cx} {CX : CXT} {k : Nat} {f C : Addr} {fd : FuncData} {ps : List Str} {sp : Sp} {E : XK} {x m : Str} {p pos apos : Pos} {e o : Expr} {es : List Expr} {ta : TE} {t : TA} {id Ty : String} {r : List V → Hp → VK → Prop}
theorem je_call (n : Nm x) (hg : X.env.scope.names.lookup x = some .globalImplicit) (F : FnOk X.prog X.w X.K X.mg X.base CX k f fd ps sp) (hr : Room k X.A) (hm : X.mg x = some (.ref f)) (hk : PySem.W.keepIn X.K (.ref f) = true) (hb : Binds X.K fd ps []) (hx : Passes CX X E)
    (s : Star1 e) (z : NoStar es) (ha : JA X (e :: es) t) : JE X (.Call (.Name x p) (e :: es) [] pos) (tCall sp [] E t) := ⟨fe_call n hg F hr hm hk hb hx s z ha.h⟩
theorem je_callB (n : Nm x) (hg : X.env.scope.names.lookup x = some .globalImplicit) (hc : JCl X (.builtin id) r) (hm : X.mg x = none) (hv : bootBuiltins x = some (.builtin id)) (s : Star1 e) (z : NoStar es) (ha : JA X (e :: es) t) :
    JE X (.Call (.Name x p) (e :: es) [] pos) (tCB r t) := ⟨fe_callB n hg hc.h hm hv s z ha.h⟩
theorem je_callTy (n : Nm x) (hg : X.env.scope.names.lookup x = some .globalImplicit) (hc : JCl X (.type Ty) r) (hm : X.mg x = none) (hv : bootBuiltins x = some (.type Ty)) (s : Star1 e) (z : NoStar es) (ha : JA X (e :: es) t) :
    JE X (.Call (.Name x p) (e :: es) [] pos) (tCB r t) := ⟨fe_callTy n hg hc.h hm hv s z ha.h⟩
theorem je_make (n : Nm x) (hg : X.env.scope.names.lookup x = some .globalImplicit) (M : Mk X.K C f) (F : FnOk X.prog X.w X.K X.mg X.base CX k f fd ps sp) (hr : Room (k + 1) X.A) (hm : X.mg x = some (.ref C)) (hb : Binds X.K fd ps []) (hx : Passes CX X E)
    (s : Star1 e) (z : NoStar es) (ha : JA X (e :: es) t) : JE X (.Call (.Name x p) (e :: es) [] pos) (tMake C sp [] E t) := ⟨fe_make n hg M F hr hm hb hx s z ha.h⟩
theorem je_meth (ab : Base o) (hl : (apos.endLine == pos.line) = true) (hn : es.length < 29) (he : JE X o ta) (c : Cls X.K C) (hm : Meth X.K C m f) (F : FnOk X.prog X.w X.K X.mg X.base CX k f fd ps sp) (hr : Room k X.A) (hb : Binds X.K fd ps []) (hx : Passes CX X E)
    (s : Star1 e) (z : NoStar es) (ha : JA X (e :: es) t) : JE X (.Call (.Attribute o m apos) (e :: es) [] pos) (tMeth C m sp [] E ta t) := ⟨fe_meth ab hl hn he.h c hm F hr hb hx s z ha.h⟩
theorem je_meth0 (ab : Base o) (hl : (apos.endLine == pos.line) = true) (he : JE X o ta) (c : Cls X.K C) (hm : Meth X.K C m f) (F : FnOk X.prog X.w X.K X.mg X.base CX k f fd ps sp) (hr : Room k X.A) (hb : Binds X.K fd ps []) (hx : Passes CX X E) :
    JE X (.Call (.Attribute o m apos) [] [] pos) (tMeth C m sp [] E ta tNil) := ⟨fe_meth0 ab hl he.h c hm F hr hb hx⟩
def xCall (sp : Sp) (t : TA) : TEx := fun σ H Q E => t σ H fun vs H1 => sp (vs ++ []) H1 Q E
def xMeth (C : Addr) (m : Str) (sp : Sp) (ta : TE) (t : TA) : TEx := fun σ H Q E => ta σ H fun x H1 => rMeth C m x H1 (t σ H1 fun vs H2 => sp (x :: (vs ++ [])) H2 Q E)
theorem jex_call (n : Nm x) (hg : X.env.scope.names.lookup x = some .globalImplicit) (F : FnOk X.prog X.w X.K X.mg X.base (CXF X.prog X.w) k f fd ps sp) (hr : Room k X.A) (hm : X.mg x = some (.ref f)) (hk : PySem.W.keepIn X.K (.ref f) = true) (hb : Binds X.K fd ps [])
    (s : Star1 e) (z : NoStar es) (ha : JA X.nox (e :: es) t) : JEx X (.Call (.Name x p) (e :: es) [] pos) (xCall sp t) := ⟨fex_call n hg F hr hm hk hb s z ha.h⟩
theorem jex_meth (ab : Base o) (hl : (apos.endLine == pos.line) = true) (hn : es.length < 29) (he : JE X.nox o ta) (c : Cls X.K C) (hm : Meth X.K C m f) (F : FnOk X.prog X.w X.K X.mg X.base (CXF X.prog X.w) k f fd ps sp) (hr : Room k X.A) (hb : Binds X.K fd ps [])
    (s : Star1 e) (z : NoStar es) (ha : JA X.nox (e :: es) t) : JEx X (.Call (.Attribute o m apos) (e :: es) [] pos) (xMeth C m sp ta t) := ⟨fex_meth ab hl hn he.h c hm F hr hb s z ha.h⟩
end
def NoComp (e : Expr) : Prop := ∀ (tg : Option Expr) (l : Nat) (env : Env), swapsWith e tg l env = pure false
section
variable {a b c : Expr} {es fs : List Expr} {x : Str} {p q : Pos}
theorem nc_const {k j} : NoComp (.Constant k j p) := fun _ _ _ => rfl
theorem nc_name : NoComp (.Name x p) := fun _ _ _ => rfl
theorem nc_bin {op} : NoComp (.BinOp a op b p) := fun _ _ _ => rfl
theorem nc_call {kw} : NoComp (.Call a es kw p) := fun _ _ _ => rfl
theorem nc_attr : NoComp (.Attribute a x p) := fun _ _ _ => rfl
theorem nc_sub : NoComp (.Subscript a b p) := fun _ _ _ => rfl
theorem nc_tuple {k} : NoComp (.Tuple es k p) := fun _ _ _ => rfl
theorem nc_if : NoComp (.IfExp a b c p) := fun _ _ _ => rfl
theorem nc_dict {ks} : NoComp (.Dict ks es p) := fun _ _ _ => rfl
end
section
variable {X : Cx} {m : Bool} {st : Stmt} {rest body : List Stmt} {e tg iter o i value c : Expr} {te ta tv ti : TE} {t u tb : TS} {tc : TT} {x f : Str} {pos pos' : Pos} {es : List Expr}
theorem jss_nil : JSs X [] tNext := ⟨pss_nil⟩
theorem jss_cons (h1 : JS X st t) (h2 : JSs X rest u) : JSs X (st :: rest) (tSeq t u) := ⟨pss_cons h1.h h2.h⟩
theorem jss_one (h1 : JS X st t) : JSs X [st] t := ⟨pss_one h1.h⟩
theorem js_expr (n : NoComp e) (he : JE X e te) : JS X (.Expr e pos) (tDrop te) := ⟨ps_expr he.h (n _ _ _)⟩
theorem js_ret (he : JE X e te) : JS X (.Return (some e) pos) (tRet te) := ⟨ps_ret he.h⟩
theorem js_if {a b : List Stmt} (hc : JT X c tc) (ha : JSs X a t) (hb : JSs X b u) : JS X (.If c a b pos) (tIfS tc t u) := ⟨ps_if hc.h ha.h hb.h⟩
theorem js_set {i : Nat} (n : NoComp e) (hN : X.N.Nodup) (hi : X.N[i]? = some x) (hx : X.env.scope.names.lookup x = some .local) (he : JE X e te) : JS X (.Assign [.Name x pos'] e pos) (tAsg te (gName i)) :=
  ⟨ps_set hN hi (Or.inl hx) he.h (n _ _ _) (Or.inr hx)⟩
theorem js_fld (n : NoComp value) (ha : JE X o ta) (hv : JE X value tv) : JS X (.Assign [.Attribute o f pos'] value pos) (sFld X.K ta tv f) := ⟨ps_fld ha.h hv.h (n _ _ _)⟩
theorem js_dput (n : NoComp value) (hu : X.A.units + 1 < cLine) (ho : JE X o ta) (hi : JE X i ti) (hv : JE X value tv) : JS X (.Assign [.Subscript o i pos'] value pos) (sDPut ta ti tv) := ⟨ps_dput hu ho.h hi.h hv.h (n _ _ _)⟩
theorem jg_name {i : Nat} (hN : X.N.Nodup) (hi : X.N[i]? = some x) (hx : X.env.scope.names.lookup x = some .local) : JG X (.Name x pos) (gName i) := ⟨pg_name hN hi (Or.inl hx) (Or.inr hx)⟩
theorem jgs_nil : JGs X [] gNil := ⟨pgs_nil⟩
theorem jgs_cons {tG : TG} {uG : TGs} (h1 : JG X e tG) (h2 : JGs X es uG) (hs : (assignEach (e :: es) X.env).map (·.2) = assign e X.env :: (assignEach es X.env).map (·.2)) : JGs X (e :: es) (gCons tG uG) := ⟨pgs_cons h1.h h2.h hs⟩
theorem jg_tup {k : Nat} {tG : TGs} {n : Nat} (hc : X.calm = true) (h : JGs X es tG) (hn : (assignEach es X.env).length = n) (hst : (assignEach es X.env).findIdx? (·.1) = none) : JG X (.Tuple es k pos) (gTup X.K n tG) := ⟨pg_tup hc h.h hn hst⟩
theorem jg_sub {tS : TSet} (ho : JE X o ta) (hi : JE X i ti) (hs : JPu X tS) (ha : ∀ v, assign (.Subscript o i pos) X.env v = (do
      let ov ← holding [v] (eval o X.env)
      let iv ← holding [v, ov] (eval i X.env)
      standAt pos
      holding [v, ov, iv] (setItem ov iv v)
      release [v, ov, iv] [])) : JG X (.Subscript o i pos) (gSub ta ti tS) := ⟨pg_sub ho.h hi.h hs.h ha⟩
theorem js_asg {g : TG} (n : NoComp e) (he : JE X e te) (hg : JG X tg g) (hw : swappedStores [tg] e X.env = pure none) (h1 : (assignEach [tg] X.env).map (·.2) = [assign tg X.env]) : JS X (.Assign [tg] e pos) (tAsg te g) :=
  ⟨ps_asg he.h hg.h (n _ _ _) hw h1⟩
theorem ji_tup (hl : JE X e te) : JI X tg e (iTup X.K te) := ⟨pi_tup hl.h⟩
theorem ji_range1 {a : Expr} {ta : TA} {p : Pos} (hg : X.env.scope.names.lookup ("range" : Str) = some .globalImplicit) (hm : X.mg "range" = none) (s : Star1 a) (ha : JA X [a] ta) : JI X tg (.Call (.Name "range" p) [a] [] pos) (iRng1 ta) := ⟨pi_range1 hg hm ha.h (s _ _)⟩
theorem js_for {wi : TI} {g : TG} (hp : PassesOwn (model X.prog X.w) X.A X.env X.xe) (hc : X.calm = true) (hi : JI X tg iter wi) (hg : JG X tg g) (hb : JSs X body tb) (hs : ∀ x, foldedSetIterable iter X.env x = pure x) : JS X (.For tg iter body [] pos) (tFor wi g tb) :=
  ⟨ps_for hp hc hi.h hg.h hb.h hs⟩
theorem js_while (hp : PassesOwn (model X.prog X.w) X.A X.env X.xe) (hc : JT X c tc) (hb : JSs X body tb) : JS X (.While c body [] pos) (tWhile tc tb) := ⟨ps_while hp hc.h hb.h⟩
end
section
variable {X : Cx} {m : Bool} {st : Stmt} {rest sts : List Stmt} {e : Expr} {x : Str} {pos pos' : Pos} {c : Expr} {tc : TT} {a b : List Stmt} {te : TEx}
theorem jx {t : TS} (h : JS X.nox st t) : JSx X m st (fun D _ => t D) := ⟨px h.h⟩
theorem jssx_nil : JSsx X m [] (fun D _ σ H => D.nx σ H) := ⟨pssx_nil⟩
theorem jssx_cons {t u : TSx} (h1 : JSx X m st t) (h2 : JSsx X m rest u) : JSsx X m (st :: rest) (xSeq t u) := ⟨pssx_cons h1.h h2.h⟩
theorem jssx_one {t : TSx} (h1 : JSx X m st t) : JSsx X m [st] t := ⟨pssx_one h1.h⟩
def xIf (tc : TT) (t u : TSx) : TSx := fun D DX σ H => tc σ H fun k H1 => if k = true then t D DX σ H1 else u D DX σ H1
theorem jsx_if {t u : TSx} (hc : JT X.nox c tc) (ha : JSsx X m a t) (hb : JSsx X m b u) : JSx X m (.If c a b pos) (xIf tc t u) := ⟨psx_if hc.h ha.h hb.h⟩
def xSet (i : Nat) (te : TEx) : TSx := fun D DX σ H => te σ H (fun v H1 => D.nx (σ.set i (some v)) H1) (DX σ)
theorem jsx_set {i : Nat} (n : NoComp e) (hN : X.N.Nodup) (hi : X.N[i]? = some x) (hx : X.env.scope.names.lookup x = some .local) (he : JEx X e te) : JSx X m (.Assign [.Name x pos'] e pos) (xSet i te) := ⟨psx_set hN hi (Or.inl hx) he.h (n _ _ _) (Or.inr hx)⟩
def xExpr (te : TEx) : TSx := fun D DX σ H => te σ H (fun _ H1 => D.nx σ H1) (DX σ)
theorem jsx_expr (n : NoComp e) (he : JEx X e te) : JSx X m (.Expr e pos) (xExpr te) := ⟨psx_expr he.h (n _ _ _)⟩
def xRet (te : TEx) : TSx := fun D DX σ H => te σ H D.rt (DX σ)
theorem jsx_ret (he : JEx X e te) : JSx X m (.Return (some e) pos) (xRet te) := ⟨psx_ret he.h⟩
end
section
variable {X : Cx} {m : Bool} {x : Str} {C : Addr} {B newId initId : String} {bmB : List Value} {np cpos pos : Pos} {e0 : Expr} {rest : List Expr} {t : TA}
def xRaise (C : Addr) (t : TA) : TSx := fun D DX σ H => t σ H fun vs H1 => vs.length ≤ sizeLine ∧ DX σ (.ref C) none H1
theorem jsx_raise (nn : Nm x) (hc : X.calm = true) (hg : X.env.scope.names.lookup x = some .globalImplicit) (hm : X.mg x = some (.ref C)) (hn : PySem.W.nsIn X.K mainGlobals x = some (some (.ref C))) (hq : PySem.W.excIn X.K C bmB newId = true) (FB : ExcBaseFacts B newId initId bmB)
    (s : Star1 e0) (z : NoStar rest) (ha : JA X.nox (e0 :: rest) t) : JSx X true (.Raise (some (.Call (.Name x np) (e0 :: rest) [] cpos)) none pos) (xRaise C t) := ⟨psx_raise hc hg hm hn hq FB ha.h (s _ _) (z _ _) nn.db⟩
end
section
variable {X : Cx} {body suite : List Stmt} {b0 : Stmt} {c n : Str} {cp hpos pos : Pos} {i : Nat} {Cc : Addr} {tb : TSx} {ts : TS}
end
theorem je_append {X : Cx} {o e : Expr} {to te : TE} {apos cpos : Pos} (ab : Base o) (hl : (apos.endLine == cpos.line) = true) (s : Star1 e) (ho : JE X o to) (ha : JE X e te) :
    JE X (.Call (.Attribute o "append" apos) [e] [] cpos) (tBM X.K "list" rAppend to (tCons te tNil)) :=
  ⟨pe_bm PySem.F.plainAttrs_list PySem.F.slot_list_append PySem.F.type_list_append mt_append ho.h (pac s ha.h pa_nil) (ab _ _ _) (by
    have e1 : (backTo cpos (starEach [e] X.env)).all (fun x => !x.1) = true := all_not_of (ns_cons s ns_nil cpos X.env)
    rw [e1]
    rfl) hl (s _ _) rfl⟩
end L2
set_option Elab.async false
set_option linter.all false
set_option maxRecDepth 100000
set_option maxHeartbeats 4000000
namespace L2
open PySem PySem.Spec PyProof.Rows
theorem seq_step {t u : TS} {D : Ends} {σ : St} {H : Hp} (h : ∀ R : St → Hp → Prop, (∀ σ' H', u D σ' H' → R σ' H') → t { D with nx := R } σ H) : tSeq t u D σ H := h _ fun _ _ x => x
theorem xseq_step {t u : TSx} {D : Ends} {DX : St → XK} {σ : St} {H : Hp} (h : ∀ R : St → Hp → Prop, (∀ σ' H', u D DX σ' H' → R σ' H') → t { D with nx := R } DX σ H) : xSeq t u D DX σ H := h _ fun _ _ x => x
/-- what a for wants, once its source has come -/
def LoopW (J : It) (g : TG) (tb : TS) (D : Ends) (σ : St) (H1 : Hp) : Prop := ∃ W : Nat → Nat → St → Hp → Prop, (∃ m, W 0 m σ H1) ∧ ∀ i m σ H, W i m σ H →
  (J.stop i H ∧ D.nx σ H) ∨ (J.go i H ∧ ∃ N : St → Hp → Prop, (∀ σ' H', N σ' H' → ∃ m', m' < m ∧ W (i + 1) m' σ' H') ∧ ∀ x H', J.yld i H x H' → g x σ H' fun σ2 H2 => tb { D with nx := N, ct := N, bk := D.nx } σ2 H2)
theorem for_step {wi : TI} {g : TG} {tb : TS} {D : Ends} {σ : St} {H : Hp} (h : ∀ B : It → Hp → Prop, (∀ J H1, LoopW J g tb D σ H1 → B J H1) → wi σ H B) : tFor wi g tb D σ H := h _ fun _ _ x => x
end L2
set_option Elab.async false
set_option linter.all false
set_option maxRecDepth 100000
set_option maxHeartbeats 4000000
namespace L2
open PySem PySem.Spec PyProof.Rows
def clOf (env : Env) : List (Str × NameKind) → List (Str × Addr) → List (Str × Addr)
  | [], acc => acc
  | y :: r, acc => clOf env r (if y.2 == .free then (y.1, (env.cells.lookup y.1).getD 0) :: acc else acc)
theorem closure_fold {env : Env} : ∀ (names : List (Str × NameKind)) (acc : List (Str × Addr)), (∀ y ∈ names, y.2 = .free → ∃ c, env.cells.lookup y.1 = some c) →
    (forIn names acc fun (y : Str × NameKind) (r : List (Str × Addr)) => (match y with
      | (name, kind) => if (kind == .free) = true then do
          let a ← cellOf env name
          pure (ForInStep.yield ((name, a) :: r))
        else pure (ForInStep.yield r) : Sem (ForInStep (List (Str × Addr))))) = pure (clOf env names acc)
  | [], acc, _ => rfl
  | (n, k) :: r, acc, h => by
    rw [List.forIn_cons]
    have ih := fun acc' => closure_fold r acc' fun y hy => h y (List.mem_cons_of_mem _ hy)
    by_cases hk : k = .free
    · subst hk
      obtain ⟨c, hc⟩ := h (n, .free) List.mem_cons_self rfl
      have e1 : cellOf env n = pure c := by
        unfold cellOf
        rw [hc]
      show (do let a ← cellOf env n; pure (ForInStep.yield ((n, a) :: acc)) : Sem _) >>= _ = _
      rw [e1]
      show (forIn r ((n, c) :: acc) _ : Sem _) = _
      rw [ih]
      show _ = pure (clOf env r ((n, (env.cells.lookup n).getD 0) :: acc))
      rw [hc]
      rfl
    · have hb : (k == NameKind.free) = false := by simpa using hk
      simp only [hb, Bool.false_eq_true, if_false]
      show (forIn r acc _ : Sem _) = _
      rw [ih]
      show _ = pure (clOf env r (if (k == NameKind.free) = true then (n, (env.cells.lookup n).getD 0) :: acc else acc))
      rw [hb]
      rfl
theorem closure_of {env : Env} {scope : Scope} (h : ∀ y ∈ scope.names, y.2 = .free → ∃ c, env.cells.lookup y.1 = some c) : closureFor scope env = pure (clOf env scope.names []) := by
  exact congrArg (fun m : Sem (List (Str × Addr)) => m >>= pure) (closure_fold scope.names [] h)
theorem clOf_lookup {env : Env} {n : Str} : ∀ (names : List (Str × NameKind)) (acc : List (Str × Addr)), (∀ y ∈ names, y.2 = .free → ∃ c, env.cells.lookup y.1 = some c) →
    (clOf env names acc).lookup n = if (names.any fun y => y.1 == n && y.2 == .free) = true then env.cells.lookup n else acc.lookup n
  | [], acc, _ => rfl
  | (m, k) :: r, acc, h => by
    have ih := fun acc' => clOf_lookup (n := n) r acc' fun y hy => h y (List.mem_cons_of_mem _ hy)
    unfold clOf
    rw [ih, List.any_cons]
    by_cases hk : k = .free
    · subst hk
      obtain ⟨c, hc⟩ := h (m, .free) List.mem_cons_self rfl
      by_cases hm : m = n
      · subst hm
        simp [hc]
      · have b1 : (m == n) = false := by simpa using hm
        have b2 : (n == m) = false := by simpa using fun z => hm z.symm
        simp [b1, b2, List.lookup_cons]
    · have hb : (k == NameKind.free) = false := by simpa using hk
      simp [hb]
theorem lookup_map_keys {f : Str × NameKind → Str × NameKind} (hf : ∀ y, (f y).1 = y.1) {n : Str} : ∀ names : List (Str × NameKind), (names.map f).lookup n = (names.lookup n).map fun k => (f (n, k)).2
  | [] => rfl
  | (m, k) :: r => by
    have ih := lookup_map_keys hf (n := n) r
    rw [List.map_cons]
    have e : f (m, k) = (m, (f (m, k)).2) := Prod.ext (hf (m, k)) rfl
    rw [e, List.lookup_cons, List.lookup_cons]
    by_cases hm : n = m
    · subst hm
      simp
    · have b : (n == m) = false := by simpa using hm
      simp [b, ih]
theorem lookup_relabel {scope : Scope} {env : Env} {n : Str} : (relabel scope env).names.lookup n =
    (scope.names.lookup n).map fun k => if (k == .free && env.scope.kind == .function && env.kindOf n == some .cell) = true then .cell else k := by
  unfold relabel
  dsimp only
  rw [lookup_map_keys (f := fun y => if (y.2 == .free && env.scope.kind == .function && env.kindOf y.1 == some .cell) = true then (y.1, .cell) else (y.1, y.2)) (fun y => by split <;> rfl)]
  congr 1
  funext k
  dsimp only
  split <;> rfl
def cmpCx (X : Cx) (N' : List Str) (scope : Scope) (C : Addr) (cl : List (Str × Addr)) (s0 : Shared) (H0 : Hp) (ex : List Addr) (pn : List (Addr × Obj)) : Cx :=
  { X with N := N', s₀ := s0, H₀ := H0, env := compEnvC scope cl C X.env, outer := X.stack, stack := X.stack, ex := ex, fn := fun _ => false, pn := pn, xe := fun _ _ => False }
structure CompSc (X : Cx) (scope : Scope) (x : Str) (cs : List Nat) (ys : List Str) : Prop where
  kind : scope.kind = .function
  nocell : ∀ y ∈ scope.names, y.2 ≠ .cell
  loc : ∀ y ∈ scope.names, y.2 = .local → scope.names.lookup y.1 = some .local
  var : scope.names.lookup x = some .local
  nd : (x :: ys).Nodup
  free : ∀ y ∈ scope.names, y.2 = .free → X.env.scope.names.lookup y.1 = some .cell
  len : cs.length = ys.length
  cap : ∀ (i : Nat) (j : Nat) (y : Str), cs[i]? = some j → ys[i]? = some y → X.N[j]? = some y ∧ scope.names.lookup y = some .free
def caps (σ : St) (cs : List Nat) : St := cs.map fun j => (σ[j]?).getD none
theorem caps_cons {σ : St} {j : Nat} {cs : List Nat} : caps σ (j :: cs) = (σ[j]?).getD none :: caps σ cs := rfl
theorem caps_nil {σ : St} : caps σ [] = [] := rfl
section
variable {X : Cx} {scope : Scope} {x : Str} {cs : List Nat} {ys : List Str} {pins : List (Addr × Obj)} {σ : St} {H : Hp} {s : Shared}
theorem cells_of (S : CompSc X scope x cs ys) (I : Inv X pins σ H s) : ∀ y ∈ scope.names, y.2 = .free → ∃ c, X.env.cells.lookup y.1 = some c := fun y hy hf => I.ok.has y.1 (.inl (S.free y hy hf))
theorem cells_sub (S : CompSc X scope x cs ys) (I : Inv X pins σ H s) {n : Str} {c : Addr} (h : (clOf X.env scope.names []).lookup n = some c) : X.env.cells.lookup n = some c := by
  rw [clOf_lookup _ _ (cells_of S I)] at h
  split at h
  · exact h
  · cases h
theorem free_any {names : List (Str × NameKind)} {n : Str} (h : names.lookup n = some .free) : (names.any fun y => y.1 == n && y.2 == .free) = true := by
  induction names with
  | nil => cases h
  | cons y r ih =>
    obtain ⟨m, k⟩ := y
    rw [List.lookup_cons] at h
    rw [List.any_cons]
    by_cases hm : n = m
    · subst hm
      simp only [beq_self_eq_true] at h
      cases h
      simp
    · have b : (n == m) = false := by simpa using hm
      rw [b] at h
      rw [ih h, Bool.or_true]
theorem mem_of_lookup {names : List (Str × NameKind)} {n : Str} {k : NameKind} (h : names.lookup n = some k) : (n, k) ∈ names := by
  induction names with
  | nil => cases h
  | cons y r ih =>
    obtain ⟨m, k'⟩ := y
    rw [List.lookup_cons] at h
    by_cases hm : n = m
    · subst hm
      simp only [beq_self_eq_true] at h
      cases h
      exact List.mem_cons_self
    · have b : (n == m) = false := by simpa using hm
      rw [b] at h
      exact List.mem_cons_of_mem _ (ih h)
/-- the block at its start: the list l is there, the block's frame C too -/
theorem comp_start (S : CompSc X scope x cs ys) {h4 : Heap} {fp : List Addr} (I : Inv X pins σ H s) (hn4 : h4.Ns s.heap.objs.size fun _ => none) (k4 : ∀ b o, s.heap.get? b = some o → h4.get? b = some o)
    (hf : ∀ b ∈ fp, FpOk X pins H b) (ho : ∀ b ∈ fp, ∃ o, s.heap.get? b = some o) :
    Inv (cmpCx X (x :: ys) scope s.heap.objs.size (clOf X.env scope.names []) s H fp (X.pn ++ pins)) [] (none :: caps σ cs) H { s with heap := h4 } := by
  have lt : ∀ {b : Addr} {o : Obj}, s.heap.get? b = some o → b ≠ s.heap.objs.size := fun e => Nat.ne_of_lt (Heap.lt_size e)
  have kd : (relabel scope X.env).kind = .function := S.kind
  refine ⟨⟨I.ok.mod, kd, I.ok.glob, I.ok.blt, Nat.le_refl _, fun a b c e1 e2 => I.ok.inj a b c (cells_sub S I e1) (cells_sub S I e2), fun n hn => ?_, fun n c e => (by cases e), I.ok.hd, I.ok.frames, .inl rfl, fun b hb => ⟨?_, fun n c e => ?_⟩, fun b o e => I.bs b o e, ?_, fun b o e hb => ?_, fun b hb => ?_, I.stack, I.stkFree⟩,
    rfl, I.bare, Un.kept k4, ⟨_, hn4, fun i n v e1 e2 e3 => ?_⟩, fun n c e => ?_, I.hok.fresh (Nat.le_refl _), fun n c e => I.freeC n c (cells_sub S I e), fun p hp => ?_, I.hok.kept k4, ?_⟩
  · -- has
    show ∃ c, (clOf X.env scope.names []).lookup n = some c
    have hn : (relabel scope X.env).names.lookup n = some .cell ∨ (relabel scope X.env).names.lookup n = some .free := hn
    have fr : scope.names.lookup n = some .free := by
      rw [lookup_relabel] at hn
      cases q : scope.names.lookup n with
      | none => rw [q] at hn; simp at hn
      | some k =>
        rw [q] at hn
        have nc : k ≠ .cell := S.nocell (n, k) (mem_of_lookup q)
        by_cases hk : k = .free
        · rw [hk]
        · exfalso
          have hb : (k == NameKind.free) = false := by simpa using hk
          simp only [hb, Bool.false_and, Option.map_some, Option.some.injEq, Bool.false_eq_true, if_false] at hn
          rcases hn with z | z
          · exact nc z
          · exact hk z
    obtain ⟨c, hc⟩ := cells_of S I (n, .free) (mem_of_lookup fr) rfl
    exact ⟨c, by rw [clOf_lookup _ _ (cells_of S I), if_pos (free_any fr)]; exact hc⟩
  · obtain ⟨o, e⟩ := ho b hb
    exact lt e
  · exact (hf b hb).2.2.2.2.1 n c (cells_sub S I e)
  · exact Nat.le_trans I.ok.bsz I.sz
  · obtain ⟨_, _, _, z, _⟩ := hf b hb
    rcases z with z | z
    · exact I.ok.noex b o e z
    · exact absurd (Nat.lt_of_lt_of_le (Heap.lt_size e) (Nat.le_trans I.ok.bsz z)) (Nat.lt_irrefl _)
  · obtain ⟨_, z1, z2, _⟩ := hf b hb
    intro z
    rcases List.mem_cons.mp (I.stkSub b z) with w | w
    · exact z1 w
    · exact z2 w
  · -- loc
    have e1 : (x :: ys)[i]? = some n := e1
    have e2 : (none :: caps σ cs)[i]? = some (some v) := e2
    cases i with
    | zero => simp at e2
    | succ i =>
      rw [List.getElem?_cons_succ] at e1 e2
      unfold caps at e2
      rw [List.getElem?_map] at e2
      cases q : cs[i]? with
      | none => rw [q] at e2; cases e2
      | some j =>
        rw [q] at e2
        obtain ⟨c1, c2⟩ := S.cap i j n q e1
        have e2' : (σ[j]?).getD none = some v := Option.some.inj e2
        have e4 : σ[j]? = some (some v) := by
          cases q2 : σ[j]? with
          | none => rw [q2] at e2'; cases e2'
          | some w => rw [q2] at e2'; exact congrArg some e2'
        have kc : X.env.scope.names.lookup n = some .cell := S.free (n, .free) (mem_of_lookup c2) rfl
        obtain ⟨m, hm, hl⟩ := I.loc
        obtain ⟨u, r, lk⟩ := hl j n v c1 e4 (.inr (.inl kc))
        refine ⟨u, r, ?_⟩
        rcases lk with ⟨kl, _⟩ | ⟨_, c, ec, o, hoc, hdc⟩
        · have kl' : X.env.scope.names.lookup n = some .local := kl
          rw [kc] at kl'
          cases kl'
        · refine .inr ⟨.inl ?_, c, ?_, o, k4 _ _ hoc, hdc⟩
          · show (relabel scope X.env).names.lookup n = some .cell
            rw [lookup_relabel, c2]
            have b1 : (X.env.scope.kind == ScopeKind.function) = true := by rw [I.ok.kind]; rfl
            have b2 : (X.env.kindOf n == some NameKind.cell) = true := by
              show (X.env.scope.names.lookup n == some NameKind.cell) = true
              rw [kc]
              rfl
            simp [b1, b2]
          · show (clOf X.env scope.names []).lookup n = some c
            rw [clOf_lookup _ _ (cells_of S I), if_pos (free_any c2)]
            exact ec
  · obtain ⟨v, o, q, d⟩ := I.cell n c (cells_sub S I e)
    exact ⟨v, o, k4 _ _ q, d⟩
  · have hp : p ∈ (X.pn ++ pins) ++ [] := hp
    rw [List.append_nil] at hp
    obtain ⟨e, n, ne, nf, d⟩ := I.pin p hp
    refine ⟨k4 _ _ e, n, lt e, fun z => ?_, d⟩
    rcases List.mem_cons.mp (I.stkSub _ z) with w | w
    · exact ne w
    · exact nf w
  · show (none :: caps σ cs).length = (x :: ys).length
    unfold caps
    rw [List.length_cons, List.length_map, S.len, List.length_cons]
end
section
variable {prog : Program} {w : World} {A : Around} {R : Result → Shared → Prop} {s : Shared}
theorem comp_loop {elt target iter : Expr} {ifs : List Expr} {scope : Scope} {pos : Pos} {it acc : Value} {env : Env} (I : Nat → Shared → Prop)
    (turn : ∀ n s, I n s → wpAny (model prog w) A (pyNext it) (fun r s₁ => match r with
      | none => R (.ok .next) s₁
      | some v => wpAny (model prog w) A (letOwnedTupleGo target it v) (fun _ s₀ => wpAny (model prog w) A (assign target env v) (fun _ s₂ =>
          wpAny (model prog w) A (forIn ifs true fun c r => if r = true then do let ok ← isTrue c env (eval c env); pure (ForInStep.yield ok) else pure (ForInStep.yield r)) (fun ok s₃ =>
            if ok = true then wpAny (model prog w) A (eval elt env) (fun x s₄ =>
              wpAny (model prog w) A (call (.builtin "list.append") [acc, x]) (fun _ s₅ => ∃ m, m < n ∧ I m s₅) (fun _ _ => False) s₄) (fun _ _ => False) s₃
            else ∃ m, m < n ∧ I m s₃) (fun _ _ => False) s₂) (fun _ _ => False) s₀) (fun _ _ => False) s₁) (fun _ _ => False) s)
    (n : Nat) (h : I n s) : codeAny (model prog w) A (.compLoop (.ListComp elt [⟨target, iter, ifs, 0⟩] scope pos) 0 it acc env) R s := by
  refine codeAny_loop rfl I (fun n s hI => ?_) n h
  show wpAny _ A ((compTurn (.ListComp elt [⟨target, iter, ifs, 0⟩] scope pos) 0 it acc env).onRaise (fun x => do noteFrame x env; theTreesLotGoes x)) _ _ s
  refine wpAny_noted ?_
  rw [compTurn_list]
  refine wpAny_bind (wpAny_standAt (wpAny_bind (wpAny_mono (turn n s hI) (fun r s₁ h₁ => ?_) fun _ _ h' => h'.elim)))
  cases r with
  | none => exact wpAny_pure h₁
  | some v =>
    refine wpAny_bind (wpAny_mono h₁ (fun _ s₀ h₀ => ?_) fun _ _ h' => h'.elim)
    refine wpAny_bind (wpAny_mono h₀ (fun _ s₂ h₂ => wpAny_bind (wpAny_mono h₂ (fun ok s₃ h₃ => ?_) fun _ _ h' => h'.elim)) fun _ _ h' => h'.elim)
    cases ok with
    | false => exact wpAny_pure ⟨rfl, h₃⟩
    | true =>
      exact wpAny_bind (wpAny_bind (wpAny_mono h₃ (fun x s₄ h₄ => wpAny_bind (wpAny_mono h₄ (fun _ s₅ h₅ => wpAny_pure (wpAny_pure ⟨rfl, h₅⟩)) fun _ _ h' => h'.elim)) fun _ _ h' => h'.elim))
end
/-- the tests of a clause: none, or one -/
def PIf (X : Cx) (ifs : List Expr) (t : TT) : Prop :=
  ∀ (pins : List (Addr × Obj)) (s : Shared) (σ : St) (H : Hp) (Q : Bool → Hp → Prop), Inv X pins σ H s → t σ H Q →
    wpAny (model X.prog X.w) X.A (forIn ifs true fun c r => if r = true then do let ok ← isTrue c X.env (eval c X.env); pure (ForInStep.yield ok) else pure (ForInStep.yield r)) (TP X pins σ Q) X.xe s
theorem pif_nil {X : Cx} : PIf X [] (fun _ H Q => Q true H) := fun _ _ _ H _ I h => wpAny_tests_nil ⟨H, I, h⟩
/-- what a comprehension wants: W by the turn, a measure, the items so far, the heap -/
def rComp (l : Addr) (J : It) (tt : TT) (te : TE) (cv : St) (Q : VK) (H1 : Hp) : Prop :=
  ∃ W : Nat → Nat → List V → Hp → Prop, (∃ m, W 0 m [] (upd H1 l (.lst []))) ∧ ∀ i m ys H2, W i m ys H2 → H2 l = some (.lst ys) →
    (J.stop i H2 ∧ Q (.ref l) H2) ∨ (J.go i H2 ∧ ∀ v H3, J.yld i H2 v H3 → tt (some v :: cv) H3 fun b H4 => if b = true then
      te (some v :: cv) H4 fun y H5 => H5 l = some (.lst ys) ∧ ys.length < sizeLine ∧ ∃ m', m' < m ∧ W (i + 1) m' (ys ++ [y]) (upd H5 l (.lst (ys ++ [y])))
      else H4 l = some (.lst ys) ∧ ∃ m', m' < m ∧ W (i + 1) m' ys H4)
def tComp (cs : List Nat) (wi : TI) (tt : TT) (te : TE) : TE := fun σ H Q => wi σ H fun J H1 => ∀ l, H1 l = none → rComp l J tt te (caps σ cs) Q H1
section
variable {X : Cx} {scope : Scope} {x : Str} {cs : List Nat} {ys : List Str} {pins : List (Addr × Obj)} {σ : St} {H : Hp} {s : Shared}
theorem comp_back {fp : List Addr} {N' : List Str} {C : Addr} {cl : List (Str × Addr)} {pins' : List (Addr × Obj)} {σ' : St} {H' : Hp} {s' : Shared} (I : Inv X pins σ H s) (hf : ∀ b ∈ fp, FpOk X pins H b)
    (IY : Inv (cmpCx X N' scope C cl s H fp (X.pn ++ pins)) pins' σ' H' s') : Inv X pins σ H' s' :=
  I.call' (ch := fp) IY.os IY.base IY.hok IY.bare fun b hb => ⟨(hf b hb).2.2.2.1, (hf b hb).2.1, (hf b hb).2.2.2.2.1, (hf b hb).2.2.2.2.2⟩
/-- the block runs; R: what is wanted behind it -/
theorem comp_run {elt iter : Expr} {px : Pos} {ifs : List Expr} {pos : Pos} {tt : TT} {te : TE} {fp : List Addr} {it : Addr} {tn : Nat → Heap → Prop} {J : It} {Q : VK} {E : Value → Shared → Prop} {RR : Value → Addr → Result → Shared → Prop}
    (hc : X.calm = true) (S : CompSc X scope x cs ys) (ht : ∀ C cl s0 H0 ex pn, PIf (cmpCx X (x :: ys) scope C cl s0 H0 ex pn) ifs tt) (he : ∀ C cl s0 H0 ex pn, PE (cmpCx X (x :: ys) scope C cl s0 H0 ex pn) elt te)
    (I : Inv X pins σ H s) (T : Turn X.prog X.w X.K (.Name x px) J fp it tn) (st : tn 0 s.heap) (hf : ∀ b ∈ fp, FpOk X pins H b) (h : ∀ l, H l = none → rComp l J tt te (caps σ cs) Q H)
    (hRR : ∀ l C s' H' m, Inv X pins σ H' s' → s'.heap.Ns C m → s.heap.objs.size ≤ C → C ≠ l → H' C = none → Q (.ref l) H' → RR (.ref l) C (.ok .next) s') :
    wpAny (model X.prog X.w) X.A (newList []) (fun acc s₃ => wpAny (model X.prog X.w) X.A (newFunctionEnv scope X.env.globals (clOf X.env scope.names []) [] X.env.qual none .none (some X.env)) (fun cenv s₄ =>
      codeAny (model X.prog X.w) X.A (.compStart (.ListComp elt [⟨.Name x px, iter, ifs, 0⟩] scope pos) 0 (.ref it) acc { cenv with scope := relabel scope X.env }) (RR acc cenv.locals) s₄) E s₃) E s := by
  have hfr : H s.heap.objs.size = none := I.hok.fresh (Nat.le_refl _)
  refine wpAny_newObj_type (wpAny_newFunctionEnv S.nocell (by intro y hy; simp at hy) (fun h₁ hns₁ hsb₁ => ?_) S.kind)
  have I3 := Inv.lnew (its := []) (t' := s.toks) I (.nil : Vals [] []) (Nat.zero_le _)
  obtain ⟨W, ⟨m0, w0⟩, turn⟩ := h _ hfr
  generalize hs3 : ({ s with heap := s.heap.push { cls := .type "list", data := .seq ([] : List Value).toArray }, toks := s.toks } : Shared) = s3 at I3
  have hsz : s3.heap.objs.size = s.heap.objs.size + 1 := by rw [← hs3]; exact Heap.size_push ..
  have old3 : ∀ b o, s.heap.get? b = some o → s3.heap.get? b = some o := fun b o e => by rw [← hs3]; exact Heap.get?_push_of_some _ e
  have objs : ∀ b ∈ fp, ∃ o, s.heap.get? b = some o := fun b hb => by
    obtain ⟨o, e, _⟩ := T.obj 0 _ st b hb
    exact ⟨o, e⟩
  have neL : ∀ b ∈ fp, b ≠ s.heap.objs.size := fun b hb => by
    obtain ⟨o, e⟩ := objs b hb
    exact Nat.ne_of_lt (Heap.lt_size e)
  have hf3 : ∀ b ∈ fp, FpOk X pins (upd H s.heap.objs.size (.lst [])) b := fun b hb => ⟨by rw [upd_ne (neL b hb)]; exact (hf b hb).1, (hf b hb).2⟩
  have hns₁ : h₁.Ns s3.heap.objs.size fun _ => none := by rw [← hs3]; exact hns₁
  have k4 : ∀ b o, s3.heap.get? b = some o → h₁.get? b = some o := fun b o e => by
    have hb : b ≠ s3.heap.objs.size := Nat.ne_of_lt (Heap.lt_size e)
    rw [← hs3] at e hb
    exact hsb₁.extBut b o hb (Heap.get?_push_of_some _ e)
  have I4 := comp_start (x := x) (ys := ys) (cs := cs) (σ := σ) S I3 hns₁ k4 hf3 fun b hb => let ⟨o, e⟩ := objs b hb; ⟨o, old3 b o e⟩
  have st4 : tn 0 h₁ := T.keep _ _ _ st fun b _ o e => k4 b o (old3 b o e)
  have fr4 : ∀ b ∈ fp, upd H s.heap.objs.size (.lst []) b = none := fun b hb => (hf3 b hb).1
  -- the block's context
  generalize hY : cmpCx X (x :: ys) scope s3.heap.objs.size (clOf X.env scope.names []) s3 (upd H s.heap.objs.size (.lst [])) fp (X.pn ++ pins) = Y at I4
  have hYp : Y.prog = X.prog := by rw [← hY]; rfl
  have hYw : Y.w = X.w := by rw [← hY]; rfl
  have hYK : Y.K = X.K := by rw [← hY]; rfl
  have hYA : Y.A = X.A := by rw [← hY]; rfl
  have hYc : Y.calm = true := by rw [← hY]; exact hc
  have hYN : Y.N = x :: ys := by rw [← hY]; rfl
  have hYe : Y.env = compEnvC scope (clOf X.env scope.names []) s3.heap.objs.size X.env := by rw [← hY]; rfl
  have hYx : Y.xe = fun _ _ => False := by rw [← hY]; rfl
  have het : PE Y elt te := by rw [← hY]; exact he _ _ _ _ _ _
  have htt : PIf Y ifs tt := by rw [← hY]; exact ht _ _ _ _ _ _
  have hloc : Y.env.scope.names.lookup x = some .local := by rw [hYe]; exact lookup_relabel_local S.var
  have hg : PG Y (.Name x px) (gName 0) := pg_name (by rw [hYN]; exact S.nd) (by rw [hYN]; rfl) (.inl hloc) (.inr hloc)
  have fpY : ∀ {H' : Hp}, (∀ b ∈ fp, H' b = none) → ∀ b ∈ fp, FpOk Y [] H' b := fun {H'} hn b hb => by
    have z := I4.ok.exf
    rw [← hY]
    refine ⟨hn b hb, ?_, ?_, .inl hb, fun n c e => ?_, fun p hp => ?_⟩
    · show b ≠ s3.heap.objs.size
      obtain ⟨o, e⟩ := objs b hb
      exact Nat.ne_of_lt (Heap.lt_size (old3 b o e))
    · show b ∉ frs X.stack
      intro w
      rcases List.mem_cons.mp (I.stkSub b w) with w | w
      · exact (hf b hb).2.1 w
      · exact (hf b hb).2.2.1 w
    · exact (hf b hb).2.2.2.2.1 n c (cells_sub S I e)
    · have hp : p ∈ (X.pn ++ pins) ++ [] := hp
      rw [List.append_nil] at hp
      exact (hf b hb).2.2.2.2.2 p hp
  have ap : MtM Y "list.append" rAppend := mt_append
  have loop : ∀ s4 : Shared, s4.heap = h₁ → Inv Y [] (none :: caps σ cs) (upd H s.heap.objs.size (.lst [])) s4 →
      codeAny (model X.prog X.w) X.A (.compLoop (.ListComp elt [⟨.Name x px, iter, ifs, 0⟩] scope pos) 0 (.ref it) (.ref s.heap.objs.size) (compEnvC scope (clOf X.env scope.names []) s3.heap.objs.size X.env))
        (RR (.ref s.heap.objs.size) s3.heap.objs.size) s4 := by
    intro s4 e4 I4
    refine comp_loop (fun n s' => ∃ i ys' H', Inv Y [] (none :: caps σ cs) H' s' ∧ tn i s'.heap ∧ (∀ b ∈ fp, H' b = none) ∧ H' s.heap.objs.size = some (.lst ys') ∧ W i n ys' H') ?_ m0
      ⟨0, [], _, I4, by rw [e4]; exact st4, fr4, upd_same, w0⟩
    rintro n s5 ⟨i, ys', H5, I5, st5, fr5, hl5, w5⟩
    rcases turn i n ys' H5 w5 hl5 with ⟨stop, qn⟩ | ⟨go, step⟩
    · have z := T.done Y hYp hYw hYK hYc i [] s5 _ H5 (fun _ _ => False) I5 (fpY fr5) st5 stop
      rw [hYA] at z
      refine wpAny_mono z (fun r s6 ⟨hr, I6⟩ => ?_) fun _ _ f => f
      subst hr
      obtain ⟨m, hm, _⟩ := I6.loc
      have hC : H5 s3.heap.objs.size = none := by
        have := I6.free
        rw [hYe] at this
        exact this
      have I6' : Inv (cmpCx X (x :: ys) scope s3.heap.objs.size (clOf X.env scope.names []) s3 (upd H s.heap.objs.size (.lst [])) fp (X.pn ++ pins)) [] (none :: caps σ cs) H5 s6 := by rw [hY]; exact I6
      refine hRR _ _ _ H5 m (comp_back I3 hf3 I6') (by rw [hYe] at hm; exact hm) ?_ ?_ hC qn
      · rw [hsz]
        exact Nat.le_succ _
      · rw [hsz]
        exact Nat.ne_of_gt (Nat.lt_succ_self _)
    · have z := T.item Y hYp hYw hYK hYc i [] s5 _ H5 (fun _ _ => False) I5 (fpY fr5) st5 go
      rw [hYA] at z
      refine wpAny_mono z (fun r s6 ⟨u, hr, h6⟩ => ?_) fun _ _ f => f
      subst hr
      refine wpAny_mono h6 (fun _ s7 ⟨v, H7, I7, r7, y7, st7, fr7⟩ => ?_) fun _ _ f => f
      have I7' := I7.pinned (fpY fr7) (T.obj _ _ st7)
      have hg' := hg _ s7 _ H7 v u (fun σ8 H8 => σ8 = some v :: caps σ cs ∧ H8 = H7) I7' r7 ⟨rfl, rfl⟩
      rw [hYp, hYw, hYA, hYe, hYx] at hg'
      refine wpAny_mono hg' (fun _ s8 ⟨σ8, H8, I8, e8, e8'⟩ => ?_) fun _ _ f => f
      subst e8 e8'
      have back : ∀ {σ' : St} {H' : Hp} {s' : Shared}, σ'.length = (none :: caps σ cs : St).length → (∀ (i : Nat) v, (none :: caps σ cs : St)[i]? = some (some v) → σ'[i]? = some (some v)) → Inv Y ([] ++ pinsAt fp s7.heap) σ' H' s' →
          Inv Y [] (none :: caps σ cs) H' s' ∧ tn (i + 1) s'.heap ∧ ∀ b ∈ fp, H' b = none := fun {σ' H' s'} hl hw I' => by
        refine ⟨I'.unpinned.weak hl.symm hw, T.keep _ _ _ st7 fun b hb o e => (I'.pin (b, o) (List.mem_append_right _ (List.mem_append_right _ (mem_pinsAt hb e)))).1, fun b hb => ?_⟩
        obtain ⟨o, e, d⟩ := T.obj _ _ st7 b hb
        exact (I'.pin (b, o) (List.mem_append_right _ (List.mem_append_right _ (mem_pinsAt hb e)))).2.1
      have weak : ∀ (i : Nat) v', (none :: caps σ cs : St)[i]? = some (some v') → (some v :: caps σ cs : St)[i]? = some (some v') := fun i v' e => by
        cases i with
        | zero => simp at e
        | succ i => exact e
      have ht8 := htt _ s8 _ H8 _ I8 (step v H8 y7)
      rw [hYp, hYw, hYA, hYe, hYx] at ht8
      refine wpAny_mono ht8 (fun ok s9 ⟨H9, I9, q9⟩ => ?_) fun _ _ f => f
      cases ok with
      | false =>
        rw [if_neg Bool.false_ne_true] at q9 ⊢
        obtain ⟨hl9, m', hm', w9⟩ := q9
        obtain ⟨J1, J2, J3⟩ := back (σ' := some v :: caps σ cs) rfl weak I9
        exact ⟨m', hm', i + 1, ys', H9, J1, J2, J3, hl9, w9⟩
      | true =>
        rw [if_pos rfl] at q9 ⊢
        have he9 := het _ s9 _ H9 _ I9 q9
        rw [hYp, hYw, hYA, hYe, hYx] at he9
        refine wpAny_mono he9 (fun xv s10 ⟨y, H10, I10, r10, hl10, hz, m', hm', w10⟩ => ?_) fun _ _ f => f
        have ha := ap _ s10 _ H10 (.ref s.heap.objs.size) [y] (.ref s.heap.objs.size) [xv] (fun _ H' => H' = upd H10 s.heap.objs.size (.lst (ys' ++ [y]))) I10 rfl (.cons r10 .nil) ⟨_, ys', y, rfl, rfl, hl10, hz, rfl⟩
        rw [hYp, hYw, hYA, hYx] at ha
        refine wpAny_mono ha (fun _ s11 ⟨_, H11, I11, _, e11⟩ => ?_) fun _ _ f => f
        subst e11
        obtain ⟨J1, J2, J3⟩ := back (σ' := some v :: caps σ cs) rfl weak I11
        exact ⟨m', hm', i + 1, _, _, J1, J2, J3, upd_same, w10⟩
  have go : ∀ (s4 : Shared) (n : Nat), n = s3.heap.objs.size → s4.heap = h₁ → Inv Y [] (none :: caps σ cs) (upd H s.heap.objs.size (.lst [])) s4 →
      codeAny (model X.prog X.w) X.A (.compStart (.ListComp elt [⟨.Name x px, iter, ifs, 0⟩] scope pos) 0 (.ref it) (.ref s.heap.objs.size) (compEnvC scope (clOf X.env scope.names []) n X.env)) (RR (.ref s.heap.objs.size) n) s4 := by
    rintro s4 n rfl e4 I4
    exact codeAny_compStart_list (loop s4 e4 I4) (T.self _ 0 s4 _ _ (by rw [e4]; exact st4) (loop s4 e4 I4))
  refine go _ _ (by rw [← hs3]; rfl) rfl ?_
  clear loop go
  subst hs3
  exact I4
/-- a list comprehension as a value -/
theorem pe_comp {elt iter : Expr} {px : Pos} {ifs : List Expr} {pos : Pos} {wi : TI} {tt : TT} {te : TE} (hc : X.calm = true) (S : CompSc X scope x cs ys) (hi : PI X (.Name x px) iter wi)
    (ht : ∀ C cl s0 H0 ex pn, PIf (cmpCx X (x :: ys) scope C cl s0 H0 ex pn) ifs tt) (he : ∀ C cl s0 H0 ex pn, PE (cmpCx X (x :: ys) scope C cl s0 H0 ex pn) elt te) (hs : ∀ x, foldedSetIterable iter X.env x = pure x) :
    PE X (.ListComp elt [⟨.Name x px, iter, ifs, 0⟩] scope pos) (tComp cs wi tt te) := by
  intro pins s σ H Q I h
  rw [eval_ListComp]
  refine wpAny_comprehension_free (use := none) rfl hs (closure_of (cells_of S I)) S.kind S.loc (thn (hi pins s σ H _ I h) fun v s1 h1 => thn h1 fun itv s2 h2 => ?_)
  obtain ⟨it, fp, tn, J, H2, e, I2, T, st2, f2, hw⟩ := h2
  subst e
  refine comp_run (Q := Q) (RR := fun acc C => compPost (model X.prog X.w) X.A X.xe none (EP X pins σ Q) acc C) hc S ht he I2 T st2 f2 hw fun l C s' H' m I' hm hC hCl hn q => ?_
  refine ⟨m, hm, fun h' hsb => ⟨.ref l, H', ?_, rfl, q⟩⟩
  have fp : FpOk X pins H' C := I2.fpOk hC hn
  exact I'.turned (it := C) (fun b o hb e => hsb.extBut b o hb e) hn fp.2.1 fp.2.2.2.1 fp.2.2.2.2.1 fp.2.2.2.2.2
end
end L2
set_option Elab.async false
set_option linter.all false
set_option maxRecDepth 100000
set_option maxHeartbeats 4000000
namespace L2
open PySem PySem.Spec PyProof.Rows
section
variable {X : Cx}
/-- int(b) of a bool -/
def rIntB (xs : List V) (H : Hp) (Q : VK) : Prop := ∃ b : Bool, xs = [.bl b] ∧ Q (.int (if b then 1 else 0)) H
theorem rd_intB {H : Hp} {Q : VK} {b : Bool} (q : Q (.int (if b then 1 else 0)) H) : rIntB [.bl b] H Q := ⟨b, rfl, q⟩
theorem jc_int : JCl X (.type "int") rIntB := ⟨by
  intro pins s σ H xs us Q I r h
  obtain ⟨b, rfl, q⟩ := h
  obtain ⟨u, rfl, ru⟩ := vals1 r
  cases ru
  exact call_int_bool ⟨.int _, H, I.tok _, ⟨_, rfl⟩, q⟩⟩
/-- max(a, b), min(a, b) of ints -/
def rTwo (f : Int → Int → Int) (xs : List V) (H : Hp) (Q : VK) : Prop := ∃ a b : Int, xs = [.int a, .int b] ∧ Q (.int (f a b)) H
theorem rd_two {f : Int → Int → Int} {H : Hp} {Q : VK} {a b : Int} (q : Q (.int (f a b)) H) : rTwo f [.int a, .int b] H Q := ⟨a, b, rfl, q⟩
theorem jc_max (hc : X.calm = true) : JCl X (.builtin "max") (rTwo max) := ⟨by
  intro pins s σ H xs us Q I r h
  obtain ⟨a, b, rfl, q⟩ := h
  obtain ⟨u, u2, rfl, ⟨t, rfl⟩, ⟨t2, rfl⟩⟩ := vals2 r
  refine max_two_ints (I.ok.hd hc) fun h' tk hk => ?_
  refine ⟨.int (max a b), H, I.kept hk, ?_, q⟩
  by_cases c : b > a
  · rw [if_pos c, Int.max_eq_right (by omega)]; exact ⟨_, rfl⟩
  · rw [if_neg c, Int.max_eq_left (by omega)]; exact ⟨_, rfl⟩⟩
theorem jc_min (hc : X.calm = true) : JCl X (.builtin "min") (rTwo min) := ⟨by
  intro pins s σ H xs us Q I r h
  obtain ⟨a, b, rfl, q⟩ := h
  obtain ⟨u, u2, rfl, ⟨t, rfl⟩, ⟨t2, rfl⟩⟩ := vals2 r
  refine min_two_ints (I.ok.hd hc) fun h' tk hk => ?_
  refine ⟨.int (min a b), H, I.kept hk, ?_, q⟩
  by_cases c : b < a
  · rw [if_pos c, Int.min_eq_right (by omega)]; exact ⟨_, rfl⟩
  · rw [if_neg c, Int.min_eq_left (by omega)]; exact ⟨_, rfl⟩⟩
end
end L2
set_option Elab.async false
set_option linter.all false
set_option maxRecDepth 100000
set_option maxHeartbeats 4000000
namespace L2
open PySem PySem.Spec PyProof.Rows
inductive DEq (H : Hp) : Nat → V → V → Bool → Prop where
  | sc {n : Nat} {x y : V} (hx : flatV x = true) (hy : flatV y = true) : DEq H n x y (eqV x y)
  | same {n : Nat} {a : Addr} : DEq H n (.ref a) (.ref a) true
  | tup {n : Nat} {a b : Addr} {xs ys : List V} (ne : a ≠ b) (ha : H a = some (.tup xs)) (hb : H b = some (.tup ys)) (e : Nat → Bool) (h : ∀ (j : Nat) (x y : V), xs[j]? = some x → ys[j]? = some y → DEq H n x y (e j)) :
      DEq H (n + 1) (.ref a) (.ref b) ((List.range (min xs.length ys.length)).all e && xs.length == ys.length)
  | lst {n : Nat} {a b : Addr} {xs ys : List V} (ne : a ≠ b) (ha : H a = some (.lst xs)) (hb : H b = some (.lst ys)) (hl : xs.length = ys.length) (e : Nat → Bool) (h : ∀ (j : Nat) (x y : V), xs[j]? = some x → ys[j]? = some y → DEq H n x y (e j)) :
      DEq H (n + 1) (.ref a) (.ref b) ((List.range xs.length).all e)
  | len {n : Nat} {a b : Addr} {xs ys : List V} (ne : a ≠ b) (ha : H a = some (.lst xs)) (hb : H b = some (.lst ys)) (hl : xs.length ≠ ys.length) : DEq H (n + 1) (.ref a) (.ref b) false
theorem in1_units {A : Around} : A.in1.units = A.units + 1 := rfl
theorem vals_at {xs : List V} {us : List Value} (r : Vals xs us) {j : Nat} (h : j < us.toArray.size) : ∃ x, xs[j]? = some x ∧ RelV x us.toArray[j] := by
  have h' : j < us.length := by simpa using h
  have hx : j < xs.length := by rw [r.length]; exact h'
  obtain ⟨u, e, q⟩ := r.get (List.getElem?_eq_getElem hx)
  rw [List.getElem?_eq_getElem h'] at e
  refine ⟨_, List.getElem?_eq_getElem hx, ?_⟩
  have e' := Option.some.inj e
  simp only [List.getElem_toArray]
  rw [e']
  exact q
section
variable {X : Cx} {pins : List (Addr × Obj)} {σ : St} {H : Hp} {s : Shared}
theorem tup_is {a : Addr} {xs : List V} (I : Inv X pins σ H s) (ha : H a = some (.tup xs)) : ∃ its : List Value, Vals xs its ∧ s.heap.IsTuple a its.toArray := by
  obtain ⟨_, its, r, p⟩ := I.hok a _ ha
  exact ⟨its, r, p⟩
theorem lst_is {a : Addr} {xs : List V} (I : Inv X pins σ H s) (ha : H a = some (.lst xs)) : ∃ its : List Value, Vals xs its ∧ s.heap.IsList a its.toArray := by
  obtain ⟨_, its, n, r, e⟩ := I.hok a _ ha
  exact ⟨its, r, ⟨_, e, rfl, n, rfl⟩⟩
theorem DEq.at {n : Nat} {x y : V} {b : Bool} (d : DEq H n x y b) (I : Inv X pins σ H s) : ∀ {A : Around} {u v : Value}, A.units + n < cLine → RelV x u → RelV y v → SeqAt.EqAt A s u v b := by
  induction d with
  | sc hx hy => exact fun _ rx ry => eqAt_V rx ry hx hy
  | same =>
    intro A u v _ rx ry
    cases rx
    cases ry
    exact SeqAt.EqAt.same _
  | tup ne ha hb e h ih =>
    intro A u v hu rx ry
    cases rx
    cases ry
    obtain ⟨us, r1, t1⟩ := tup_is I ha
    obtain ⟨ws, r2, t2⟩ := tup_is I hb
    have z := SeqAt.RcAt.tuples (e := e) t1 t2 (A := A) (by omega) fun j h1 h2 => by
      obtain ⟨x', ex, rx'⟩ := vals_at r1 h1
      obtain ⟨y', ey, ry'⟩ := vals_at r2 h2
      exact ih j x' y' ex ey (by rw [in1_units]; omega) rx' ry'
    rw [List.size_toArray, List.size_toArray, ← r1.length, ← r2.length] at z
    exact SeqAt.EqAt.of_refs ne z
  | lst ne ha hb hl e h ih =>
    intro A u v hu rx ry
    cases rx
    cases ry
    obtain ⟨us, r1, t1⟩ := lst_is I ha
    obtain ⟨ws, r2, t2⟩ := lst_is I hb
    have z := SeqAt.RcAt.lists (e := e) t1 t2 (A := A) (by rw [List.size_toArray, List.size_toArray, ← r1.length, ← r2.length]; exact hl) (by omega) fun j h1 h2 => by
      obtain ⟨x', ex, rx'⟩ := vals_at r1 h1
      obtain ⟨y', ey, ry'⟩ := vals_at r2 h2
      exact ih j x' y' ex ey (by rw [in1_units]; omega) rx' ry'
    rw [List.size_toArray, ← r1.length] at z
    exact SeqAt.EqAt.of_refs ne z
  | len ne ha hb hl =>
    intro A u v hu rx ry
    cases rx
    cases ry
    obtain ⟨us, r1, t1⟩ := lst_is I ha
    obtain ⟨ws, r2, t2⟩ := lst_is I hb
    exact SeqAt.EqAt.of_refs ne (SeqAt.RcAt.lists_lengths t1 t2 (by rw [List.size_toArray, List.size_toArray, ← r1.length, ← r2.length]; simpa using hl) (by omega))
/-- == and != of two tuples or lists that are not the same object -/
theorem DEq.rc {n : Nat} {p q : Addr} {b : Bool} (ne : p ≠ q) (d : DEq H n (.ref p) (.ref q) b) (I : Inv X pins σ H s) {A : Around} (hu : A.units + n < cLine) : SeqAt.RcAt A s (.ref p) (.ref q) b ∧ SeqAt.RcNeAt A s (.ref p) (.ref q) (!b) := by
  cases d with
  | sc hx hy => cases hx
  | same => exact absurd rfl ne
  | tup ne ha hb e h =>
    obtain ⟨us, r1, t1⟩ := tup_is I ha
    obtain ⟨ws, r2, t2⟩ := tup_is I hb
    have it : ∀ j (h1 : j < us.toArray.size) (h2 : j < ws.toArray.size), SeqAt.EqAt A.in1 s us.toArray[j] ws.toArray[j] (e j) := fun j h1 h2 => by
      obtain ⟨x', ex, rx'⟩ := vals_at r1 h1
      obtain ⟨y', ey, ry'⟩ := vals_at r2 h2
      exact (h j x' y' ex ey).at I (by rw [in1_units]; omega) rx' ry'
    have z := SeqAt.RcAt.tuples (e := e) t1 t2 (A := A) (by omega) it
    have z2 := SeqAt.RcNeAt.tuples (e := e) t1 t2 (A := A) (by omega) it
    rw [List.size_toArray, List.size_toArray, ← r1.length, ← r2.length] at z z2
    exact ⟨z, z2⟩
  | lst ne ha hb hl e h =>
    obtain ⟨us, r1, t1⟩ := lst_is I ha
    obtain ⟨ws, r2, t2⟩ := lst_is I hb
    have hz : us.toArray.size = ws.toArray.size := by rw [List.size_toArray, List.size_toArray, ← r1.length, ← r2.length]; exact hl
    have it : ∀ j (h1 : j < us.toArray.size) (h2 : j < ws.toArray.size), SeqAt.EqAt A.in1 s us.toArray[j] ws.toArray[j] (e j) := fun j h1 h2 => by
      obtain ⟨x', ex, rx'⟩ := vals_at r1 h1
      obtain ⟨y', ey, ry'⟩ := vals_at r2 h2
      exact (h j x' y' ex ey).at I (by rw [in1_units]; omega) rx' ry'
    have z := SeqAt.RcAt.lists (e := e) t1 t2 (A := A) hz (by omega) it
    have z2 := SeqAt.RcNeAt.lists (e := e) t1 t2 (A := A) hz (by omega) it
    rw [List.size_toArray, ← r1.length] at z z2
    exact ⟨z, z2⟩
  | len ne ha hb hl =>
    obtain ⟨us, r1, t1⟩ := lst_is I ha
    obtain ⟨ws, r2, t2⟩ := lst_is I hb
    have hz : (us.toArray.size != ws.toArray.size) = true := by rw [List.size_toArray, List.size_toArray, ← r1.length, ← r2.length]; simpa using hl
    exact ⟨SeqAt.RcAt.lists_lengths t1 t2 hz (by omega), SeqAt.RcNeAt.lists_lengths t1 t2 hz (by omega)⟩
end
/-- x == y, x != y: scalars, or tuples and lists apart -/
def rEq2 : R2 := fun x y H Q => (scal x y = true ∧ Q (.bl (decide (x = y))) H) ∨ (∃ p q b, x = .ref p ∧ y = .ref q ∧ p ≠ q ∧ DEq H 8 x y b ∧ Q (.bl b) H) ∨ ∃ p xs, x = .ref p ∧ y = .ref p ∧ H p = some (.tup xs) ∧ Q (.bl true) H
section
variable {X : Cx}
theorem same_tup {pins : List (Addr × Obj)} {σ : St} {H : Hp} {s : Shared} {p : Addr} {xs : List V} (I : Inv X pins σ H s) (hp : H p = some (.tup xs)) {A : Around} (hu : A.units < cLine) : SeqAt.RcAt A s (.ref p) (.ref p) true ∧ SeqAt.RcNeAt A s (.ref p) (.ref p) false := by
  obtain ⟨us, r1, t1⟩ := tup_is I hp
  have z := SeqAt.RcAt.tuples (e := fun _ => true) t1 t1 (A := A) hu fun j _ _ => SeqAt.EqAt.same _
  have z2 := SeqAt.RcNeAt.tuples (e := fun _ => true) t1 t1 (A := A) hu fun j _ _ => SeqAt.EqAt.same _
  have e : ((List.range (min us.toArray.size us.toArray.size)).all (fun _ => true) && us.toArray.size == us.toArray.size) = true := by simp
  rw [e] at z z2
  exact ⟨z, z2⟩
theorem jo_eqD (hu : X.A.units + 8 < cLine) : JOp X (compareOp .Eq) rEq2 := ⟨by
  intro pins s σ H x y v u Q I rx ry h
  rcases h with h | ⟨p, q, b, rfl, rfl, ne, d, h⟩ | ⟨p, xs, rfl, rfl, hp, h⟩
  · exact op_eq pins s σ H x y v u Q I rx ry h
  · cases rx
    cases ry
    exact (d.rc ne I (by omega)).1 X.prog X.w X.xe _ ⟨.bl b, H, I, rfl, h⟩
  · cases rx
    cases ry
    exact (same_tup I hp (by omega)).1 X.prog X.w X.xe _ ⟨.bl true, H, I, rfl, h⟩⟩
end
end L2
set_option Elab.async false
set_option linter.all false
set_option maxRecDepth 100000
set_option maxHeartbeats 4000000
namespace L2
open PySem PySem.Spec PyProof.Rows
section
open PySem.SeqAt PySem.MeetsSeq
open PySem.AutoSeq1 (wpAny_loadPart')
theorem rm_turns (p : Addr) (its : Array Value) (c : Nat) (v : Value) (eq : Nat → Bool) (J : Nat) (hJ : J < its.size) (yes : eq J = true) (hz : its.size ≤ sizeLine) : ∀ (k i : Nat), J - i = k → i ≤ J → (∀ m, i ≤ m → m < J → eq m = false) →
    Meets (Builtin.«list.remove.loop» ⟨[.ref p, v, rawInt i], []⟩) (fun A R s => s.heap.get? p = some { cls := .type "list", dict := none, data := .seq its c, slots := #[] } ∧ (∀ j (hj : j < its.size), EqAt A.in1 s its[j] v (eq j)) ∧
      R (.ok (.ret .none)) { s with heap := s.heap.update p (Obj.mapSeq fun xs => xs.eraseIdxIfInBounds J) })
  | 0, i, hk, hi, no => by
    intro P w A R st h
    obtain ⟨h0, g0, d0, t0, o0⟩ := st
    obtain ⟨hp, he, hR⟩ := h
    have ei : i = J := by omega
    subst ei
    wp_walk using wpAny_loadPart' hp
    have at_ : its[((i : Nat) : Int).toNat]? = some its[i] := by simp [hJ]
    rw [at_]
    refine wpAny_bind (he i hJ P w _ _ ?_)
    rw [yes]
    have z2 : (its.eraseIdxIfInBounds i).size ≤ sizeLine + 1 := Nat.le_trans (size_erased its _) (Nat.le_succ_of_le hz)
    wp_walk using (wpAny_updateSeq hp rfl (hz := hz) (_hz' := z2)), wpAny_loadPart' hp
    simpa using hR
  | k + 1, i, hk, hi, no => by
    intro P w A R st h
    obtain ⟨h0, g0, d0, t0, o0⟩ := st
    obtain ⟨hp, he, hR⟩ := h
    have lt : i < its.size := by omega
    wp_walk using wpAny_loadPart' hp
    have at_ : its[((i : Nat) : Int).toNat]? = some its[i] := by simp [lt]
    have up : ((i : Int) + 1) = ((i + 1 : Nat) : Int) := by push_cast; rfl
    rw [at_]
    refine wpAny_bind (he i lt P w _ _ ?_)
    rw [no i (Nat.le_refl _) (by omega)]
    wp_walk
    rw [up]
    refine ⟨plainId_quiet plain_remove_loop _, codeAny_builtin entry_remove_loop ?_⟩
    rw [Around.under_plainId plain_remove_loop _]
    exact rm_turns p its c v eq J hJ yes hz k (i + 1) (by omega) (by omega) (fun m h1 h2 => no m (by omega) h2) P w A R _ ⟨hp, he, hR⟩
theorem rm_all (p : Addr) (its : Array Value) (c : Nat) (v : Value) (eq : Nat → Bool) (J : Nat) (hJ : J < its.size) (yes : eq J = true) (hz : its.size ≤ sizeLine) (no : ∀ m, m < J → eq m = false) :
    Meets (Builtin.«list.remove» ⟨[.ref p, v], []⟩) (fun A R s => s.heap.get? p = some { cls := .type "list", dict := none, data := .seq its c, slots := #[] } ∧ (∀ j (hj : j < its.size), EqAt A.in1 s its[j] v (eq j)) ∧
      R (.ok (.ret .none)) { s with heap := s.heap.update p (Obj.mapSeq fun xs => xs.eraseIdxIfInBounds J) }) := by
  intro P w A R st h
  obtain ⟨h0, g0, d0, t0, o0⟩ := st
  obtain ⟨hp, he, hR⟩ := h
  wp_walk using wpAny_loadPart' hp
  refine ⟨plainId_quiet plain_remove_loop _, codeAny_builtin entry_remove_loop ?_⟩
  rw [Around.under_plainId plain_remove_loop _]
  exact rm_turns p its c v eq J hJ yes hz _ 0 rfl (Nat.zero_le _) (fun m _ h2 => no m h2) P w A R _ ⟨hp, he, hR⟩
end
section
variable {X : Cx}
/-- the first item that is == y goes: at J -/
def rRemove : V → List V → Hp → VK → Prop := fun x vs H Q => ∃ (l : Addr) (xs : List V) (y : V) (eq : Nat → Bool) (J : Nat), x = .ref l ∧ vs = [y] ∧ H l = some (.lst xs) ∧ (∀ (j : Nat) (z : V), xs[j]? = some z → DEq H 8 z y (eq j)) ∧ J < xs.length ∧ eq J = true ∧ (∀ m, m < J → eq m = false) ∧
  Q .non (upd H l (.lst (xs.eraseIdx J)))
theorem erase_toArray (its : List Value) (J : Nat) (h : J < its.length) : its.toArray.eraseIdxIfInBounds J = (its.eraseIdx J).toArray := by
  rw [Array.eraseIdxIfInBounds, dif_pos (by simpa using h)]
  simp
theorem mt_remove (hu : X.A.units + 9 < cLine) : MtM X "list.remove" rRemove := by
  intro pins s σ H x vs v us Q I rx rv h
  obtain ⟨l, xs, y, eq, J, rfl, rfl, hH, he, hJ, yes, no, q⟩ := h
  cases rx
  obtain ⟨u, rfl, ru⟩ := rv.one
  obtain ⟨z, its, n, r, hl, e⟩ := I.lstM hH
  refine call_meets F.slot_list_remove ⟨_, e, rfl⟩ F.entry_list_remove (F.args_list_remove_2 _ _) (rm_all l its.toArray n u eq J (by simpa [← hl] using hJ) yes (by rw [List.size_toArray]; omega) no) ⟨e, fun j hj => ?_, ?_⟩
  · obtain ⟨w, ew, rw'⟩ := vals_at r hj
    exact (he j w ew).at I (by rw [in1_units]; omega) rw' ru
  · refine ⟨.non, _, I.lset (its' := its.eraseIdx J) (f := fun xs => xs.eraseIdxIfInBounds J) (t' := s.toks) hH e (erase_toArray its J (by omega)) (r.eraseIdx J) ?_, rfl, q⟩
    exact Nat.le_trans (len_erase xs J) z
theorem je_remove {o e : Expr} {to te : TE} {apos cpos : Pos} (hu : X.A.units + 9 < cLine) (ab : Base o) (hl : (apos.endLine == cpos.line) = true) (s : Star1 e) (ho : JE X o to) (ha : JE X e te) :
    JE X (.Call (.Attribute o "remove" apos) [e] [] cpos) (tBM X.K "list" rRemove to (tCons te tNil)) :=
  ⟨pe_bm PySem.F.plainAttrs_list PySem.F.slot_list_remove PySem.F.type_list_remove (mt_remove hu) ho.h (pac s ha.h pa_nil) (ab _ _ _) (by
    have e1 : (backTo cpos (starEach [e] X.env)).all (fun x => !x.1) = true := all_not_of (ns_cons s ns_nil cpos X.env)
    rw [e1]
    rfl) hl (s _ _) rfl⟩
end
section
variable {X : Cx}
end
end L2
set_option Elab.async false
set_option linter.all false
set_option maxRecDepth 100000
set_option maxHeartbeats 4000000
namespace L2
open PySem PySem.Spec PyProof.Rows
section
variable {X : Cx}
end
section
variable {K : PySem.W.Frag} {l : Addr} {tt : TT} {te : TE} {cv : St} {Q : VK} {H1 : Hp}
theorem comp_range {lo : Int} {n : Nat} (Pv : Nat → List V → Hp → Prop) (h0 : Pv 0 [] (upd H1 l (.lst [])))
    (hs : ∀ i ys H2 (Nx : List V → Hp → Prop), i < n → Pv i ys H2 → H2 l = some (.lst ys) → (∀ ys' H', Pv (i + 1) ys' H' → Nx ys' H') → tt (some (.int (lo + i)) :: cv) H2 fun b H4 => if b = true then
      te (some (.int (lo + i)) :: cv) H4 fun y H5 => H5 l = some (.lst ys) ∧ ys.length < sizeLine ∧ Nx (ys ++ [y]) (upd H5 l (.lst (ys ++ [y]))) else H4 l = some (.lst ys) ∧ Nx ys H4)
    (hd : ∀ ys H2, Pv n ys H2 → H2 l = some (.lst ys) → Q (.ref l) H2) : rComp l (Itr lo n) tt te cv Q H1 := by
  refine ⟨fun i m ys H2 => m = n - i ∧ i ≤ n ∧ Pv i ys H2, ⟨n, by simp, Nat.zero_le _, h0⟩, ?_⟩
  rintro i m ys H2 ⟨rfl, hi, p⟩ hl
  by_cases hlt : i < n
  · refine .inr ⟨hlt, ?_⟩
    rintro v H3 ⟨rfl, rfl⟩
    exact hs i ys H3 (fun ys' H' => ∃ m', m' < n - i ∧ m' = n - (i + 1) ∧ i + 1 ≤ n ∧ Pv (i + 1) ys' H') hlt p hl fun ys' H' p' => ⟨n - (i + 1), by omega, rfl, by omega, p'⟩
  · have e : i = n := by omega
    subst e
    exact .inl ⟨Nat.le_refl _, hd ys H2 p hl⟩
end
section
variable {X : Cx} {scope : Scope} {x y : Str} {cs : List Nat} {ys : List Str} {elt iter c : Expr} {px py pos spos : Pos} {ifs : List Expr} {wi : TI} {tt : TT} {te : TE} {i : Nat}
structure JIf (X : Cx) (ifs : List Expr) (t : TT) : Prop where
  h : PIf X ifs t
def tTrue : TT := fun _ H Q => Q true H
theorem jif_nil : JIf X [] tTrue := ⟨pif_nil⟩
theorem je_comp (hc : X.calm = true) (S : CompSc X scope x cs ys) (hi : JI X (.Name x px) iter wi) (ht : ∀ C cl s0 H0 ex pn, JIf (cmpCx X (x :: ys) scope C cl s0 H0 ex pn) ifs tt)
    (he : ∀ C cl s0 H0 ex pn, JE (cmpCx X (x :: ys) scope C cl s0 H0 ex pn) elt te) (hs : ∀ x, foldedSetIterable iter X.env x = pure x) : JE X (.ListComp elt [⟨.Name x px, iter, ifs, 0⟩] scope pos) (tComp cs wi tt te) :=
  ⟨pe_comp hc S hi.h (fun a b c d e f => (ht a b c d e f).h) (fun a b c d e f => (he a b c d e f).h) hs⟩
/-- name = e, the name a cell -/
theorem js_setc {e : Expr} (hs : swapsWith e (some (.Name y py)) pos.line X.env = pure false) (hN : X.N.Nodup) (hi : X.N[i]? = some y) (hx : X.env.scope.names.lookup y = some .cell) (hf : X.fn y = true) (he : JE X e te) : JS X (.Assign [.Name y py] e pos) (tAsg te (gName i)) :=
  ⟨ps_set hN hi (Or.inr hx) he.h hs (Or.inl hf)⟩
theorem je_cvar (n : Nm x) (hv : X.env.scope.names.lookup x = some .cell) (hN : X.N[i]? = some x) : JE X (.Name x pos) (tVarD i) := ⟨tVarD_eq ▸ pe_var hN (Or.inr (Or.inl hv)) n.db n.cd⟩
end
section
variable {X : Cx} {scope : Scope} {x : Str} {C : Addr} {cl : List (Str × Addr)} {s0 : Shared} {H0 : Hp} {ex : List Addr} {pn : List (Addr × Obj)} {N' : List Str}
/-- the names of a comprehension's block -/
theorem lr_local (h : scope.names.lookup x = some .local) : (cmpCx X N' scope C cl s0 H0 ex pn).env.scope.names.lookup x = some .local := lookup_relabel_local h
theorem lr_glob (h : scope.names.lookup x = some .globalImplicit) : (cmpCx X N' scope C cl s0 H0 ex pn).env.scope.names.lookup x = some .globalImplicit := by
  show (relabel scope X.env).names.lookup x = _
  rw [lookup_relabel, h]
  rfl
theorem lr_cell (h : scope.names.lookup x = some .free) (hk : X.env.scope.kind = .function) (hc : X.env.scope.names.lookup x = some .cell) : (cmpCx X N' scope C cl s0 H0 ex pn).env.scope.names.lookup x = some .cell := by
  show (relabel scope X.env).names.lookup x = _
  rw [lookup_relabel, h]
  have b2 : (X.env.kindOf x == some NameKind.cell) = true := by
    show (X.env.scope.names.lookup x == some NameKind.cell) = true
    rw [hc]
    rfl
  simp [hk, b2]
end
end L2
set_option Elab.async false
set_option linter.all false
set_option maxRecDepth 100000
set_option maxHeartbeats 4000000
namespace L2
open PySem PySem.Spec PyProof.Rows
section
variable {X : Cx}
theorem jo_ltT (hu : X.A.units + 1 < cLine) : JOp X (compareOp .Lt) (rLtT X.K) := ⟨op_ltT (by omega)⟩
theorem jo_geT (hu : X.A.units + 1 < cLine) : JOp X (compareOp .GtE) (rGeT X.K) := ⟨op_geT (by omega)⟩
end
theorem hu8_of {A : Around} {k : Nat} (hr : Room k A) : A.units + 8 < cLine := by have := hr.units; omega
theorem hu9_of {A : Around} {k : Nat} (hr : Room k A) : A.units + 9 < cLine := by have := hr.units; omega
def compOk (sc : Scope) (N : List Str) (scope : Scope) (x : Str) (cs : List Nat) (ys : List Str) : Bool :=
  decide (scope.kind = .function) && (scope.names.all fun y => decide (y.2 ≠ .cell)) && (scope.names.all fun y => decide (y.2 ≠ .local) || decide (scope.names.lookup y.1 = some .local)) && decide (scope.names.lookup x = some .local) && decide ((x :: ys).Nodup) &&
  (scope.names.all fun y => decide (y.2 ≠ .free) || decide (sc.names.lookup y.1 = some .cell)) && decide (cs.length = ys.length) && ((cs.zip ys).all fun p => decide (N[p.1]? = some p.2) && decide (scope.names.lookup p.2 = some .free))
theorem compSc_mk {X : Cx} {sc scope : Scope} {N : List Str} {x : Str} {cs : List Nat} {ys : List Str} (e1 : X.env.scope = sc) (e2 : X.N = N) (h : compOk sc N scope x cs ys = true) : CompSc X scope x cs ys := by
  unfold compOk at h
  simp only [Bool.and_eq_true, decide_eq_true_eq, List.all_eq_true, Bool.or_eq_true] at h
  obtain ⟨⟨⟨⟨⟨⟨⟨h1, h2⟩, h3⟩, h4⟩, h5⟩, h6⟩, h7⟩, h8⟩ := h
  refine ⟨h1, h2, fun y hy e => ?_, h4, h5, fun y hy e => ?_, h7, fun i j y a b => ?_⟩
  · rcases h3 y hy with z | z
    · exact absurd e z
    · exact z
  · rw [e1]
    rcases h6 y hy with z | z
    · exact absurd e z
    · exact z
  · rw [e2]
    have hm : (j, y) ∈ cs.zip ys := by
      refine List.mem_of_getElem? (i := i) ?_
      rw [List.getElem?_zip_eq_some]
      exact ⟨a, b⟩
    exact h8 (j, y) hm
section
variable {K : PySem.W.Frag} {H : Hp} {p q d : Addr} {Q : VK} {Q1 : Hp → Prop} {v y : V}
def rDGet (x y : V) (H : Hp) (Q : VK) : Prop := ∃ a v, x = .ref a ∧ DGet H a y (some v) ∧ Q v H
theorem tDGet_eq (td ty : TE) : tDGet td ty = fun σ H Q => td σ H fun x H1 => ty σ H1 fun y H2 => rDGet x y H2 Q := rfl
theorem rd_dgetK {kvs : List (Key × V)} {k : Key} (hd : H d = some (.dK kvs)) (l : valV kvs k = some v) (q : Q v H) : rDGet (.ref d) (kV k) H Q := ⟨d, v, rfl, by rw [← l]; exact DGet.k hd, q⟩
theorem rd_dgetS {kvs : List (Key × V)} {x : Str} (hd : H d = some (.dK kvs)) (l : valV kvs (Sum.inr x) = some v) (q : Q v H) : rDGet (.ref d) (.str x) H Q := rd_dgetK (k := Sum.inr x) hd l q
def rDPut (v x y : V) (H : Hp) (Q : Hp → Prop) : Prop := ∃ a H4, x = .ref a ∧ DPut H a y v H4 ∧ Q H4
theorem sDPut_eq (td ty tv : TE) : sDPut td ty tv = fun D σ H => tv σ H fun v H1 => td σ H1 fun x H2 => ty σ H2 fun y H3 => rDPut v x y H3 (D.nx σ) := rfl
theorem rd_dputS {kvs : List (Key × V)} {x : Str} (hd : H d = some (.dK kvs)) (hl : kvs.length < sizeLine) (q : Q1 (upd H d (.dK (putK kvs (Sum.inr x) v)))) : rDPut v (.ref d) (.str x) H Q1 := ⟨d, _, rfl, DPut.k (k := Sum.inr x) hd hl, q⟩
theorem rd_dputI {kvs : List (Key × V)} {i : Int} (hd : H d = some (.dK kvs)) (hl : kvs.length < sizeLine) (q : Q1 (upd H d (.dK (putK kvs (Sum.inl i) v)))) : rDPut v (.ref d) (.int i) H Q1 := ⟨d, _, rfl, DPut.k (k := Sum.inl i) hd hl, q⟩
theorem rd_dgetI {kvs : List (Key × V)} {i : Int} (hd : H d = some (.dK kvs)) (l : valV kvs (Sum.inl i) = some v) (q : Q v H) : rDGet (.ref d) (.int i) H Q := rd_dgetK (k := Sum.inl i) hd l q
def rDIn (neg : Bool) (y x : V) (H : Hp) (Q : VK) : Prop := ∃ a o, x = .ref a ∧ DGet H a y o ∧ Q (.bl (if neg then !o.isSome else o.isSome)) H
theorem tDIn_eq (ty td : TE) : tDIn ty td = fun σ H Q => ty σ H fun y H1 => td σ H1 fun x H2 => rDIn false y x H2 Q := rfl
theorem rd_dinI {neg : Bool} {kvs : List (Key × V)} {i : Int} (hd : H d = some (.dK kvs)) (q : Q (.bl (if neg then !(valV kvs (Sum.inl i)).isSome else (valV kvs (Sum.inl i)).isSome)) H) : rDIn neg (.int i) (.ref d) H Q := ⟨d, _, rfl, DGet.k (k := Sum.inl i) hd, q⟩
/-- two pairs of ints -/
theorem deq_pair {n : Nat} {a b c e : Int} (ne : p ≠ q) (hp : H p = some (.tup [.int a, .int b])) (hq : H q = some (.tup [.int c, .int e])) : DEq H (n + 1) (.ref p) (.ref q) (decide (a = c ∧ b = e)) := by
  have z := DEq.tup (n := n) ne hp hq (fun j => if j = 0 then decide (a = c) else decide (b = e)) fun j x y ex ey => by
    match j with
    | 0 =>
      cases ex
      cases ey
      exact (show eqV (.int a) (.int c) = decide (a = c) by unfold eqV; exact Bool.beq_eq_decide_eq a c) ▸ DEq.sc rfl rfl
    | 1 =>
      cases ex
      cases ey
      exact (show eqV (.int b) (.int e) = decide (b = e) by unfold eqV; exact Bool.beq_eq_decide_eq b e) ▸ DEq.sc rfl rfl
    | j + 2 => simp at ex
  have e1 : ((List.range (min [V.int a, V.int b].length [V.int c, V.int e].length)).all (fun j => if j = 0 then decide (a = c) else decide (b = e)) && [V.int a, V.int b].length == [V.int c, V.int e].length) = decide (a = c ∧ b = e) := by
    simp [List.range_succ, Bool.decide_and]
  rw [e1] at z
  exact z
theorem rd_eqP {a b c e : Int} (hp : H p = some (.tup [.int a, .int b])) (hq : H q = some (.tup [.int c, .int e])) (h : Q (.bl (decide (a = c ∧ b = e))) H) : rEq2 (.ref p) (.ref q) H Q := by
  by_cases ne : p = q
  · subst ne
    rw [hp] at hq
    cases hq
    exact .inr (.inr ⟨p, _, rfl, rfl, hp, by simpa using h⟩)
  · exact .inr (.inl ⟨p, q, _, rfl, rfl, ne, deq_pair ne hp hq, h⟩)
theorem rd_ltP {a b c e : Int} (hp : H p = some (.tup [.int a, .int b])) (hq : H q = some (.tup [.int c, .int e])) (h : Q (.bl (decide (a < c ∨ a = c ∧ b < e))) H) : rLtT K (.ref p) (.ref q) H Q := by
  refine ⟨p, q, [a, b], [c, e], rfl, rfl, SqT.of hp, SqT.of hq, ?_⟩
  have : HT.lexLt [a, b] [c, e] = decide (a < c ∨ a = c ∧ b < e) := by
    unfold HT.lexLt HT.lexLt HT.lexLt
    by_cases h1 : a = c <;> by_cases h2 : b = e <;> simp [h1, h2] <;> omega
  rw [this]
  exact h
theorem rd_geP {a b c e : Int} (hp : H p = some (.tup [.int a, .int b])) (hq : H q = some (.tup [.int c, .int e])) (h : Q (.bl (decide (c < a ∨ a = c ∧ e ≤ b))) H) : rGeT K (.ref p) (.ref q) H Q := by
  refine ⟨p, q, [a, b], [c, e], rfl, rfl, SqT.of hp, SqT.of hq, ?_⟩
  have : HT.lexGe [a, b] [c, e] = decide (c < a ∨ a = c ∧ e ≤ b) := by
    unfold HT.lexGe HT.lexGe HT.lexGe
    by_cases h1 : a = c <;> by_cases h2 : b = e <;> simp [h1, h2] <;> omega
  rw [this]
  exact h
end
section
variable {H : Hp} {Q : VK}
end
theorem ty_list {K : PySem.W.Frag} {H : Hp} {d : Addr} {xs : List V} (h : H d = some (.lst xs)) : tyV K "list" (.ref d) H := .inl ⟨rfl, _, SqL.of h⟩
end L2
set_option Elab.async false
set_option linter.all false
set_option maxRecDepth 100000
set_option maxHeartbeats 4000000
namespace L2
open PySem PySem.Spec PyProof.Rows
section
variable {X : Cx} {m : Bool} {o value a e : Expr} {f x : Str} {pos pos' tpos apos cpos p : Pos} {ta tv te td ty : TE} {tx : TEx} {K : PySem.W.Frag}
def xFld (K : PySem.W.Frag) (ta : TE) (tv : TEx) (f : Str) : TSx := fun D DX σ H => tv σ H (fun y H1 => ta σ H1 fun x H2 => rPutF K f y x H2 (D.nx σ)) (DX σ)
theorem jsx_fld (n : NoComp value) (ha : JE X.nox o ta) (hv : JEx X value tx) : JSx X m (.Assign [.Attribute o f pos'] value pos) (xFld X.K ta tx f) := ⟨by
  intro pins s σ H D DX I h
  refine plainObj_wpAny_Assign_Attribute (wpAny_mono (hv.h pins s σ H _ _ I h) (fun u s1 ⟨y, H1, I1, ry, q⟩ => wpAny_mono (ha.h pins s1 σ H1 _ I1 q) (fun ov s2 ⟨x, H2, I2, rx, a, C, dx, fs, ex, ea, c, n, l, q2⟩ => ?_) fun _ _ z => False.elim z) fun e s1 ⟨H1, s2, I1, c⟩ => .inl ⟨σ, H1, s2, I1, c⟩) (n _ _ _)
  subst ex
  obtain rfl : ov = Value.ref a := rx
  exact setattr_ok (X := X.nox) I2 ea c n l ry fun s3 I3 => ⟨σ, _, I3, q2⟩⟩
def xNotN (te : TEx) : TEx := fun σ H Q E => te σ H (fun x H1 => Q (.bl (!decide (x = .non))) H1) E
theorem jex_notN {j} (ha : JEx X a tx) : JEx X (.Compare a [.IsNot] [.Constant .none j pos'] pos) (xNotN tx) := ⟨by
  intro pins s σ H Q E I h
  refine wpAny_Compare1 (wpAny_mono (ha.h pins s σ H _ _ I h) (fun v s1 ⟨x, H1, I1, r1, q1⟩ => ?_) fun _ _ z => z) (nobehind _ (by decide) (by decide))
  exact Constant_none (isnot_none_gen ⟨.bl _, H1, I1, by rw [r1.none_iff]; rfl, q1⟩)⟩
theorem js_aug {i : Nat} {op : Operator} {ti : TIp} (hN : X.N.Nodup) (hi : X.N[i]? = some x) (hx : X.env.scope.names.lookup x = some .local) (ho : PIp X op ti) (he : JE X e te) : JS X (.AugAssign (.Name x pos') op e pos) (tAug i te ti) := ⟨ps_aug hN hi (Or.inl hx) he.h ho (Or.inr hx)⟩
theorem js_fldaug {op : Operator} {rd : V → V → Hp → VK → Prop} (hop : InOp X op rd) (ha : JE X o ta) (hv : JE X value tv) : JS X (.AugAssign (.Attribute o f tpos) op value pos) (sFldAug X.K ta tv rd f) := ⟨ps_fldaug ha.h hv.h hop⟩
def rFAug (K : PySem.W.Frag) (f : Str) (x : V) (H1 : Hp) (tv : Hp → VK → Prop) (rd : V → V → Hp → VK → Prop) (Q : Hp → Prop) : Prop := ∃ a C dx fs v, x = .ref a ∧ H1 a = some (.ins C dx fs) ∧ Cls K C ∧ NoAttr K C f ∧ fs.lookup f = some v ∧
  tv H1 fun y H2 => rd v y H2 fun z H3 => ∃ dx' fs', H3 a = some (.ins C dx' fs') ∧ fs'.length < 1000 ∧ Q (upd H3 a (.ins C dx' (putF f z fs')))
theorem sFldAug_eq (K : PySem.W.Frag) (ta tv : TE) (rd : V → V → Hp → VK → Prop) (f : Str) : sFldAug K ta tv rd f = fun D σ H => ta σ H fun x H1 => rFAug K f x H1 (tv σ) rd (D.nx σ) := rfl
theorem rd_faug {H : Hp} {p C dx : Addr} {fs : List (Str × V)} {i j : Int} {Q1 : Hp → Prop} (hp : H p = some (.ins C dx fs)) (c : Cls K C) (n : NoAttr K C f) (l : fs.lookup f = some (.int i)) (hl : fs.length < 1000) (q : Q1 (upd H p (.ins C dx (putF f (.int (i + j)) fs)))) :
    rFAug K f (.ref p) H (fun H Q => Q (.int j) H) rAdd Q1 := ⟨p, C, dx, fs, .int i, rfl, hp, c, n, l, i, j, rfl, rfl, dx, fs, hp, hl, q⟩
theorem je_dpop (ab : Base o) (hl : (apos.endLine == cpos.line) = true) (s : Star1 e) (ho : JE X o td) (he : JE X e ty) : JE X (.Call (.Attribute o "pop" apos) [e] [] cpos) (tDPop1 td ty) :=
  ⟨pe_dpop1 ho.h he.h ⟨ab _ _ _, by
    have e1 : (backTo cpos (starEach [e] X.env)).all (fun x => !x.1) = true := all_not_of (ns_cons s ns_nil cpos X.env)
    rw [e1]
    rfl, hl, by rw [s]; rfl⟩⟩
theorem js_dputC {i : Expr} {ti : TE} (hs : swapsWith value (some (.Subscript o i pos')) pos.line X.env = pure false) (hu : X.A.units + 1 < cLine) (ho : JE X o ta) (hi : JE X i ti) (hv : JE X value tv) : JS X (.Assign [.Subscript o i pos'] value pos) (sDPut ta ti tv) := ⟨ps_dput hu ho.h hi.h hv.h hs⟩
theorem jx_listK {K' : PySem.W.Frag} (h : X.K = K') : JIx X (rIxL K') := by subst h; exact jx_list
theorem jx_tupK {K' : PySem.W.Frag} (h : X.K = K') : JIx X (rIxT K') := by subst h; exact jx_tup
def rLenD (xs : List V) (H : Hp) (Q : VK) : Prop := ∃ a kvs, xs = [V.ref a] ∧ H a = some (.dK kvs) ∧ Q (.int kvs.length) H
theorem jc_lenD : JCl X (.builtin "len") rLenD := ⟨call_lenD⟩
theorem rd_lenD {H : Hp} {d : Addr} {kvs : List (Key × V)} {Q : VK} (hd : H d = some (.dK kvs)) (q : Q (.int kvs.length) H) : rLenD [.ref d] H Q := ⟨d, kvs, rfl, hd, q⟩
def rSortR (K : PySem.W.Frag) (x : V) (H : Hp) (Q : VK) : Prop := ∃ (p : Addr) (ns : List Int), x = .ref p ∧ SqL K H p (ns.map V.int) ∧ ns.length < 64 ∧ ∀ (ms : List Int) (l : Addr), ms.Perm ns → ms.Pairwise (· ≥ ·) → H l = none → Q (.ref l) (upd H l (.lst (ms.map V.int)))
def tSortR (K : PySem.W.Frag) (te : TE) : TE := fun σ H Q => te σ H fun x H1 => rSortR K x H1 Q
def oneV (Q : VK) (xs : List V) (H : Hp) : Prop :=
  match xs with
  | [x] => Q x H
  | _ => False
theorem oneV_of {Q : VK} {xs : List V} {H : Hp} (h : oneV Q xs H) : ∃ x, xs = [x] ∧ Q x H := by
  match xs, h with
  | [x], h => exact ⟨x, rfl, h⟩
theorem je_sortR {j : Nat} {kp : Pos} (n : Nm "sorted") (hg : X.env.scope.names.lookup ("sorted" : Str) = some .globalImplicit) (hm : X.mg "sorted" = none) (hv : bootBuiltins "sorted" = some (.builtin "sorted")) (s : Star1 e) (he : JE X e te) :
    JE X (.Call (.Name "sorted" p) [e] [⟨some "reverse", .Constant (.bool true) j pos', kp⟩] pos) (tSortR X.K te) := ⟨by
  intro pins st σ H Q I h
  have h' : tCons te tNil σ H (oneV fun x H1 => rSortR X.K x H1 Q) := h
  refine wpAny_Call_Name_kw (ld_blt I hg hm hv ?_ n.nn n.db)
  refine callWith_kw (thn ((pac s he.h pa_nil) pos pins st σ H _ I h') fun us s1 ⟨vs, H1, I1, r1, q1⟩ => ?_) (by rw [s]; rfl) (ns_cons s ns_nil pos X.env) rfl rfl
  obtain ⟨v, rfl, q1⟩ := oneV_of q1
  obtain ⟨u, rfl, ru⟩ := vals1 r1
  refine kws_cons ((pe_bl (X := X) (b := true)) pins s1 σ H1 (fun w H2 => w = .bl true ∧ H2 = H1) I1 ⟨rfl, rfl⟩ |> fun z => thn z fun w s2 ⟨y, H2, I2, ry, ey, eH⟩ => ?_)
  subst ey
  subst eH
  cases ry
  refine kws_nil ?_
  obtain ⟨q, ns, rfl, hp, hl, q⟩ := q1
  cases (show u = Value.ref _ from ru)
  obtain ⟨its, rv, pl, hz⟩ := I2.list hp
  have hI := intsAre_of rv
  have hlen : its.length = ns.length := by rw [← rv.length, List.length_map]
  refine sorted_ints_rev (b := true) (pl.isList) hI (by omega) fun out ns' a1 a2 a3 => ?_
  obtain ⟨e, he⟩ := sortedAll_at s2.heap its out
  have hn : H2 (s2.heap.objs.size + 1) = none := I2.hok.fresh (Nat.le_succ _)
  refine ⟨.ref (s2.heap.objs.size + 1), upd H2 (s2.heap.objs.size + 1) (.lst (ns'.map V.int)), I2.laid (t' := s2.toks) (fun b o q => sortedAll_old q) (Nat.le_succ _) ?_, rfl, q ns' _ a2 a3 hn⟩
  have hz' := sizeLine_eq
  exact ⟨by rw [List.length_map, a2.length_eq]; omega, out.toList, e, vals_ints a1, by simpa [seqObj] using he⟩⟩
end
theorem fix_s {t : TS} {D : Ends} {σ σ' : St} {H : Hp} (e : σ = σ') (h : t D σ' H) : t D σ H := by subst e; exact h
theorem fix_x {t : TSx} {D : Ends} {DX : St → XK} {σ σ' : St} {H : Hp} (e : σ = σ') (h : t D DX σ' H) : t D DX σ H := by subst e; exact h
section
variable {α : Type} {P : List α → Prop}
theorem lists1 (h : ∀ a, P [a]) : ∀ us : List α, us.length = 1 → P us
  | [a], _ => h a
theorem lists2 (h : ∀ a b, P [a, b]) : ∀ us : List α, us.length = 2 → P us
  | [a, b], _ => h a b
theorem lists3 (h : ∀ a b c, P [a, b, c]) : ∀ us : List α, us.length = 3 → P us
  | [a, b, c], _ => h a b c
theorem lists4 (h : ∀ a b c d, P [a, b, c, d]) : ∀ us : List α, us.length = 4 → P us
  | [a, b, c, d], _ => h a b c d
theorem lists5 (h : ∀ a b c d e, P [a, b, c, d, e]) : ∀ us : List α, us.length = 5 → P us
  | [a, b, c, d, e], _ => h a b c d e
end
theorem ax_exists_eq_left' : type_of% @exists_eq_left' := @exists_eq_left'
theorem ax_exists_eq_left : type_of% @exists_eq_left := @exists_eq_left
theorem ax_exists_and_left : type_of% @exists_and_left := @exists_and_left
theorem ax_and_true : type_of% @and_true := @and_true
theorem ax_true_and : type_of% @true_and := @true_and
theorem ax_if_true : type_of% @if_true := @if_true
theorem ax_if_false : type_of% @if_false := @if_false
theorem ax_decide_eq_true_eq : type_of% @decide_eq_true_eq := @decide_eq_true_eq
theorem ax_not_true_eq_false : type_of% @not_true_eq_false := @not_true_eq_false
theorem ax_not_false_eq_true : type_of% @not_false_eq_true := @not_false_eq_true
theorem ax_decide_true : type_of% @decide_true := @decide_true
theorem ax_decide_false : type_of% @decide_false := @decide_false
theorem ax_decide_eq_false_iff_not : type_of% @decide_eq_false_iff_not := @decide_eq_false_iff_not
end L2
namespace Lease
/-- the number of an ask: (life, count), in the order of its parts -/
abbrev Num := Int × Int
def nlt (a b : Num) : Prop := a.1 < b.1 ∨ (a.1 = b.1 ∧ a.2 < b.2)
def nle (a b : Num) : Prop := a.1 < b.1 ∨ (a.1 = b.1 ∧ a.2 ≤ b.2)
instance (a b : Num) : Decidable (nlt a b) := by unfold nlt; infer_instance
instance (a b : Num) : Decidable (nle a b) := by unfold nle; infer_instance
theorem nlt_irrefl {a : Num} (h : nlt a a) : False := by unfold nlt at h; omega
theorem nle_refl (a : Num) : nle a a := by unfold nle; omega
theorem nle_trans {a b c : Num} (h : nle a b) (h' : nle b c) : nle a c := by unfold nle at *; omega
theorem nlt_of_nle {a b c : Num} (h : nle a b) (h' : nlt b c) : nlt a c := by unfold nle nlt at *; omega
theorem nle_of_nlt {a b : Num} (h : nlt a b) : nle a b := by unfold nle nlt at *; omega
theorem nlt_nle_trans {a b c : Num} (h : nlt a b) (h' : nle b c) : nlt a c := by unfold nle nlt at *; omega
theorem not_nlt {a b : Num} : ¬ nlt a b ↔ nle b a := by unfold nle nlt; omega
/-- a keeper: the latest reading shown, the reading from which it lets no more, to whom, by which number -/
structure Kp where
  clock : Int
  until_ : Int
  name : Option Int
  num : Num
/-- asked at reading c by the name x and the number n, the wait being w -/
def Kp.says (K : Kp) (c x : Int) (n : Num) : Bool := !(decide (c < K.until_) && (decide (K.name ≠ some x) || decide (nlt n K.num)))
def Kp.asked (K : Kp) (w c x : Int) (n : Num) : Kp :=
  if c < K.until_ ∧ (K.name ≠ some x ∨ nlt n K.num) then { K with clock := c }
  else if c < K.until_ ∧ n = K.num then { K with clock := c }
  else ⟨c, c + w, some x, n⟩
def Kp.freed (K : Kp) (c x : Int) (n : Num) : Kp :=
  if K.name = some x ∧ nle K.num n then { K with clock := c, until_ := min K.until_ c } else { K with clock := c }
def Kp.new (w c : Int) : Kp := ⟨c, c + w, none, (0, 0)⟩
/-- a holder: its life, the latest reading shown, how many it asked for, the asks that count, each keeper's end -/
structure Hd where
  life : Int
  clock : Int
  many : Int
  asks : List (Num × Int)
  ends : Nat → Int
/-- messages -/
inductive Msg where
  | ask (k x : Nat) (n : Num)
  | free (k x : Nat) (n : Num)
  | lets (k x : Nat) (n : Num)
/-- the terms -/
structure Tm where
  low : Int
  high : Int
  len : Int
  ticks : Nat
  lo : 1 ≤ low
  hi : low ≤ high
  en : len ≤ (ticks : Int) * low
def Tm.wait (T : Tm) : Int := (T.ticks : Int) * T.high
/-- the keeper K at clock c covers the ask n of x, asked at a, x's clock being d; g: to whom it, or one whose place it took, last let -/
def Cov (T : Tm) (K : Kp) (c : Int) (g : Option Int) (x : Int) (d : Int) (n : Num) (a : Int) : Prop :=
  a + T.len ≤ d ∨ (∃ t : Nat, a + T.len - d ≤ (t : Int) * T.low ∧ (t : Int) * T.high ≤ K.until_ - c) ∧ g = some x ∧ (K.name = none ∨ (K.name = some x ∧ nle n K.num))
theorem Cov.live {T : Tm} {K : Kp} {c : Int} {g : Option Int} {x d : Int} {n : Num} {a : Int} (h : Cov T K c g x d n a) (hl : d < a + T.len) : c < K.until_ ∧ g = some x ∧ (K.name = none ∨ (K.name = some x ∧ nle n K.num)) := by
  rcases h with h | ⟨⟨t, h1, h2⟩, h3, h4⟩
  · omega
  · refine ⟨?_, h3, h4⟩
    have h0 := T.lo
    have h0' := T.hi
    have tp : 1 ≤ t := by
      rcases Nat.eq_zero_or_pos t with z | z
      · subst z
        have : ((0 : Nat) : Int) * T.low = 0 := by simp
        omega
      · exact z
    have : (1 : Int) * T.high ≤ (t : Int) * T.high := Int.mul_le_mul_of_nonneg_right (by omega) (by omega)
    omega
/-- time goes on by m ticks -/
theorem Cov.tick {T : Tm} {K : Kp} {c c' : Int} {g : Option Int} {x d d' : Int} {n : Num} {a : Int} {m : Nat} (h : Cov T K c g x d n a) (hd : d + (m : Int) * T.low ≤ d') (hc : c' ≤ c + (m : Int) * T.high) : Cov T K c' g x d' n a := by
  rcases h with h | ⟨⟨t, h1, h2⟩, h3, h4⟩
  · left
    have h0 := T.lo
    have : 0 ≤ (m : Int) * T.low := Int.mul_nonneg (by omega) (by omega)
    omega
  · by_cases hm : m ≤ t
    · refine .inr ⟨⟨t - m, ?_, ?_⟩, h3, h4⟩
      · have e : ((t - m : Nat) : Int) = (t : Int) - (m : Int) := by omega
        rw [e, Int.sub_mul]
        omega
      · have e : ((t - m : Nat) : Int) = (t : Int) - (m : Int) := by omega
        rw [e, Int.sub_mul]
        omega
    · left
      have h0 := T.lo
      have : (t : Int) * T.low ≤ (m : Int) * T.low := Int.mul_le_mul_of_nonneg_right (by omega) (by omega)
      omega
/-- it is asked by y, at its clock -/
theorem Cov.asked {T : Tm} {K : Kp} {c : Int} {g : Option Int} {x y d : Int} {n n' : Num} {a : Int} (h : Cov T K c g x d n a) (hu : K.until_ ≤ c + T.wait) :
    Cov T (K.asked T.wait c y n') c (if K.says c y n' = true then some y else g) x d n a := by
  by_cases hl : a + T.len ≤ d
  · exact .inl hl
  · obtain ⟨l1, l2, l3⟩ := h.live (by omega)
    rcases h with h | ⟨⟨t, h1, h2⟩, h3, h4⟩
    · exact absurd h hl
    · unfold Kp.asked Kp.says
      by_cases q : K.name ≠ some y ∨ nlt n' K.num
      · rw [if_pos ⟨l1, q⟩]
        have e : (!(decide (c < K.until_) && (decide (K.name ≠ some y) || decide (nlt n' K.num)))) = false := by
          rcases q with q | q <;> simp [l1, q]
        rw [e]
        exact .inr ⟨⟨t, h1, h2⟩, h3, h4⟩
      · rw [if_neg (fun z => q z.2)]
        have q1 : K.name = some y := Decidable.not_not.mp fun z => q (.inl z)
        have q2 : ¬ nlt n' K.num := fun z => q (.inr z)
        have e : (!(decide (c < K.until_) && (decide (K.name ≠ some y) || decide (nlt n' K.num)))) = true := by
          simp [q1, q2]
        rw [e, if_pos rfl]
        have xy : x = y ∧ nle n K.num := by
          rcases h4 with z | ⟨z, z'⟩
          · rw [q1] at z
            cases z
          · rw [q1] at z
            cases z
            exact ⟨rfl, z'⟩
        obtain ⟨xy, hn⟩ := xy
        subst xy
        by_cases r : c < K.until_ ∧ n' = K.num
        · rw [if_pos r]
          exact .inr ⟨⟨t, h1, h2⟩, rfl, .inr ⟨q1, hn⟩⟩
        · rw [if_neg r]
          refine .inr ⟨⟨t, h1, ?_⟩, rfl, .inr ⟨rfl, nle_trans hn (not_nlt.mp q2)⟩⟩
          dsimp only
          omega
/-- a yes covers: the ask was made before -/
theorem Cov.yes {T : Tm} {K : Kp} {c : Int} {g : Option Int} {y d : Int} {n' : Num} {a : Int} (hy : K.says c y n' = true) (ha : a ≤ d) (old : K.name = some y → K.num = n' → Cov T K c g y d n' a) (hg : K.name = some y → g = some y) :
    Cov T (K.asked T.wait c y n') c (some y) y d n' a := by
  unfold Kp.says at hy
  have hy' : ¬ (c < K.until_ ∧ (K.name ≠ some y ∨ nlt n' K.num)) := by
    intro ⟨z1, z2⟩
    rcases z2 with z2 | z2 <;> simp [z1, z2] at hy
  unfold Kp.asked
  rw [if_neg hy']
  by_cases r : c < K.until_ ∧ n' = K.num
  · rw [if_pos r]
    have q1 : K.name = some y := Decidable.not_not.mp fun z => hy' ⟨r.1, .inl z⟩
    have := old q1 r.2.symm
    rw [hg q1] at this
    exact this
  · rw [if_neg r]
    refine .inr ⟨⟨T.ticks, ?_, ?_⟩, rfl, .inr ⟨rfl, nle_refl _⟩⟩
    · have := T.en
      omega
    · show (T.ticks : Int) * T.high ≤ c + T.wait - c
      unfold Tm.wait
      omega
theorem Cov.freed {T : Tm} {K : Kp} {c : Int} {g : Option Int} {x y d : Int} {n f : Num} {a : Int} (h : Cov T K c g x d n a) (hf : x = y → nlt f n) : Cov T (K.freed c y f) c g x d n a := by
  by_cases hl : a + T.len ≤ d
  · exact .inl hl
  · obtain ⟨l1, l2, l3⟩ := h.live (by omega)
    rcases h with h | ⟨⟨t, h1, h2⟩, h3, h4⟩
    · exact absurd h hl
    · unfold Kp.freed
      by_cases q : K.name = some y ∧ nle K.num f
      · obtain ⟨q1, q2⟩ := q
        exfalso
        rcases h4 with z | ⟨z, z'⟩
        · rw [q1] at z
          cases z
        · rw [q1] at z
          cases z
          exact nlt_irrefl (nlt_of_nle (nle_trans z' q2) (hf rfl))
      · rw [if_neg q]
        exact .inr ⟨⟨t, h1, h2⟩, h3, h4⟩
theorem Cov.anew {T : Tm} {K : Kp} {c : Int} {g : Option Int} {x d : Int} {n : Num} {a : Int} (h : Cov T K c g x d n a) (hu : K.until_ ≤ c + T.wait) : Cov T (Kp.new T.wait c) c g x d n a := by
  rcases h with h | ⟨⟨t, h1, h2⟩, h3, h4⟩
  · exact .inl h
  · refine .inr ⟨⟨t, h1, ?_⟩, h3, .inl rfl⟩
    show (t : Int) * T.high ≤ c + T.wait - c
    omega
structure Town where
  nk : Nat
  nh : Nat
  ck : Nat → Int
  ch : Nat → Int
  K : Nat → Kp
  H : Nat → Hd
  bag : List Msg
  life : Int
def set1 {α : Type} (f : Nat → α) (i : Nat) (v : α) : Nat → α := fun j => if j = i then v else f j
theorem set1_same {α : Type} (f : Nat → α) (i : Nat) (v : α) : set1 f i v i = v := by unfold set1; rw [if_pos rfl]
theorem set1_ne {α : Type} {f : Nat → α} {i j : Nat} {v : α} (h : j ≠ i) : set1 f i v j = f j := by unfold set1; rw [if_neg h]
def Hd.ask (h : Hd) (c : Int) : Hd := { h with clock := c, asks := h.asks ++ [((h.life, h.many), c)], many := h.many + 1 }
def Hd.hear (h : Hd) (len c : Int) (k : Nat) (n : Num) : Hd := match h.asks.find? (fun p => decide (p.1 = n)) with
  | some p => { h with clock := c, ends := set1 h.ends k (max (h.ends k) (p.2 + len)) }
  | none => { h with clock := c }
def Hd.free (h : Hd) (f c : Int) : Hd := { h with clock := c, asks := [], ends := fun _ => f }
def Hd.seen (h : Hd) (c : Int) : Hd := { h with clock := c }
def Hd.new (life c : Int) : Hd := ⟨life, c, 0, [], fun _ => c⟩
def Hd.count (h : Hd) (nk : Nat) (c : Int) : Nat := ((List.range nk).filter fun k => decide (c < h.ends k)).length
def Hd.holds (h : Hd) (nk : Nat) (c : Int) : Bool := decide (nk < 2 * h.count nk c)
def MsgOk (T : Tm) (W : Town) (g : Nat → Option Int) : Msg → Prop
  | .ask k x n => k < W.nk ∧ x < W.nh ∧ nlt n ((W.H x).life, (W.H x).many)
  | .free k x n => k < W.nk ∧ x < W.nh ∧ nlt n ((W.H x).life, (W.H x).many) ∧ ∀ p ∈ (W.H x).asks, nlt n p.1
  | .lets k x n => k < W.nk ∧ x < W.nh ∧ nlt n ((W.H x).life, (W.H x).many) ∧ ∀ p ∈ (W.H x).asks, p.1 = n → Cov T (W.K k) (W.ck k) (g k) (x : Int) (W.ch x) p.1 p.2
structure Safe (T : Tm) (W : Town) (g : Nat → Option Int) : Prop where
  kc : ∀ k, k < W.nk → (W.K k).clock ≤ W.ck k
  ku : ∀ k, k < W.nk → (W.K k).until_ ≤ W.ck k + T.wait
  hc : ∀ x, x < W.nh → (W.H x).clock ≤ W.ch x
  lf : ∀ x, x < W.nh → (W.H x).life ≤ W.life
  mn : ∀ x, x < W.nh → 0 ≤ (W.H x).many
  ak : ∀ x, x < W.nh → ∀ p ∈ (W.H x).asks, p.2 ≤ W.ch x ∧ nlt p.1 ((W.H x).life, (W.H x).many)
  bg : ∀ m ∈ W.bag, MsgOk T W g m
  kn : ∀ k, k < W.nk → ∀ x, x < W.nh → (W.K k).name = some (x : Int) → g k = some (x : Int) ∧ nlt (W.K k).num ((W.H x).life, (W.H x).many) ∧
    ∀ p ∈ (W.H x).asks, p.1 = (W.K k).num → Cov T (W.K k) (W.ck k) (g k) (x : Int) (W.ch x) p.1 p.2
  nm : ∀ k, k < W.nk → ∀ y, (W.K k).name = some y → ∃ x : Nat, x < W.nh ∧ y = (x : Int)
  en : ∀ k, k < W.nk → ∀ x, x < W.nh → (W.H x).ends k ≤ W.ch x ∨ ∃ p ∈ (W.H x).asks, (W.H x).ends k = p.2 + T.len ∧ Cov T (W.K k) (W.ck k) (g k) (x : Int) (W.ch x) p.1 p.2
theorem two_most (A B : Nat → Bool) : ∀ n : Nat, n < ((List.range n).filter A).length + ((List.range n).filter B).length → ∃ k, k < n ∧ A k = true ∧ B k = true
  | 0, h => by simp at h
  | n + 1, h => by
    rw [List.range_succ, List.filter_append, List.filter_append, List.length_append, List.length_append] at h
    by_cases q : A n = true ∧ B n = true
    · exact ⟨n, Nat.lt_succ_self n, q.1, q.2⟩
    · have e : ([n].filter A).length + ([n].filter B).length ≤ 1 := by
        cases ha : A n with
        | true =>
          cases hb : B n with
          | true => exact absurd ⟨ha, hb⟩ q
          | false => simp [ha, hb]
        | false =>
          cases hb : B n with
          | true => simp [ha, hb]
          | false => simp [ha, hb]
      obtain ⟨k, hk, r⟩ := two_most A B n (by omega)
      exact ⟨k, Nat.lt_succ_of_lt hk, r⟩
theorem Safe.one {T : Tm} {W : Town} {g : Nat → Option Int} (S : Safe T W g) {x y : Nat} (hx : x < W.nh) (hy : y < W.nh) (h1 : (W.H x).holds W.nk (W.ch x) = true) (h2 : (W.H y).holds W.nk (W.ch y) = true) : x = y := by
  unfold Hd.holds Hd.count at h1 h2
  have h1 := of_decide_eq_true h1
  have h2 := of_decide_eq_true h2
  obtain ⟨k, hk, a, b⟩ := two_most (fun k => decide (W.ch x < (W.H x).ends k)) (fun k => decide (W.ch y < (W.H y).ends k)) W.nk (by omega)
  have a := of_decide_eq_true a
  have b := of_decide_eq_true b
  have live : ∀ z, z < W.nh → W.ch z < (W.H z).ends k → g k = some (z : Int) := fun z hz l => by
    rcases S.en k hk z hz with q | ⟨p, _, e, c⟩
    · omega
    · exact (c.live (by omega)).2.1
  have e1 := live x hx a
  have e2 := live y hy b
  rw [e1] at e2
  have e3 : (x : Int) = (y : Int) := Option.some.inj e2
  omega
section
variable {T : Tm} {W : Town} {g : Nat → Option Int}
/-- all clocks go on -/
theorem Safe.ticks (S : Safe T W g) (m : Nat) (ck' ch' : Nat → Int) (h1 : ∀ k, k < W.nk → W.ck k + (m : Int) * T.low ≤ ck' k ∧ ck' k ≤ W.ck k + (m : Int) * T.high)
    (h2 : ∀ x, x < W.nh → W.ch x + (m : Int) * T.low ≤ ch' x ∧ ch' x ≤ W.ch x + (m : Int) * T.high) : Safe T { W with ck := ck', ch := ch' } g := by
  have h0 : 0 ≤ (m : Int) * T.low := Int.mul_nonneg (by omega) (by have := T.lo; omega)
  have cov : ∀ {k x : Nat} {n : Num} {a : Int}, k < W.nk → x < W.nh → Cov T (W.K k) (W.ck k) (g k) (x : Int) (W.ch x) n a → Cov T (W.K k) (ck' k) (g k) (x : Int) (ch' x) n a := fun {k x n a} hk hx c => c.tick (h2 x hx).1 (h1 k hk).2
  refine ⟨fun k hk => ?_, fun k hk => ?_, fun x hx => ?_, S.lf, S.mn, fun x hx p hp => ?_, fun m hm => ?_, fun k hk x hx e => ?_, S.nm, fun k hk x hx => ?_⟩
  · have := S.kc k hk
    have := h1 k hk
    dsimp only
    omega
  · have := S.ku k hk
    have := h1 k hk
    dsimp only
    omega
  · have := S.hc x hx
    have := h2 x hx
    dsimp only
    omega
  · obtain ⟨a, b⟩ := S.ak x hx p hp
    have := h2 x hx
    exact ⟨by dsimp only; omega, b⟩
  · have q := S.bg m hm
    cases m with
    | ask k x n => exact q
    | free k x n => exact q
    | lets k x n =>
      obtain ⟨q1, q2, q3, q4⟩ := q
      exact ⟨q1, q2, q3, fun p hp e => cov q1 q2 (q4 p hp e)⟩
  · obtain ⟨q1, q2, q3⟩ := S.kn k hk x hx e
    exact ⟨q1, q2, fun p hp e => cov hk hx (q3 p hp e)⟩
  · have := h2 x hx
    rcases S.en k hk x hx with q | ⟨p, hp, e, c⟩
    · left
      dsimp only
      omega
    · exact .inr ⟨p, hp, e, cov hk hx c⟩
/-- messages come twice, or never: fewer or the same ones -/
theorem Safe.bagSub (S : Safe T W g) {b : List Msg} (h : ∀ m ∈ b, m ∈ W.bag) : Safe T { W with bag := b } g :=
  ⟨S.kc, S.ku, S.hc, S.lf, S.mn, S.ak, fun m hm => by
    have q := S.bg m (h m hm)
    cases m <;> exact q, S.kn, S.nm, S.en⟩
/-- a keeper's state turns -/
theorem Safe.keeper (S : Safe T W g) {k : Nat} (hk : k < W.nk) (K' : Kp) (g' : Option Int) (c1 : K'.clock ≤ W.ck k) (c2 : K'.until_ ≤ W.ck k + T.wait)
    (cov : ∀ (x : Nat) (p : Num × Int), x < W.nh → p ∈ (W.H x).asks → Cov T (W.K k) (W.ck k) (g k) (x : Int) (W.ch x) p.1 p.2 → Cov T K' (W.ck k) g' (x : Int) (W.ch x) p.1 p.2)
    (kn : ∀ x : Nat, x < W.nh → K'.name = some (x : Int) → g' = some (x : Int) ∧ nlt K'.num ((W.H x).life, (W.H x).many) ∧ ∀ p ∈ (W.H x).asks, p.1 = K'.num → Cov T K' (W.ck k) g' (x : Int) (W.ch x) p.1 p.2)
    (nm : ∀ y, K'.name = some y → ∃ x : Nat, x < W.nh ∧ y = (x : Int)) : Safe T { W with K := set1 W.K k K' } (set1 g k g') := by
  refine ⟨fun j hj => ?_, fun j hj => ?_, S.hc, S.lf, S.mn, S.ak, fun m hm => ?_, fun j hj x hx e => ?_, fun j hj y e => ?_, fun j hj x hx => ?_⟩
  · dsimp only
    by_cases q : j = k
    · subst q; rw [set1_same]; exact c1
    · rw [set1_ne q]; exact S.kc j hj
  · dsimp only
    by_cases q : j = k
    · subst q; rw [set1_same]; exact c2
    · rw [set1_ne q]; exact S.ku j hj
  · have z := S.bg m hm
    cases m with
    | ask j x n => exact z
    | free j x n => exact z
    | lets j x n =>
      obtain ⟨q1, q2, q3, q4⟩ := z
      refine ⟨q1, q2, q3, fun p hp e => ?_⟩
      dsimp only
      by_cases q : j = k
      · subst q; rw [set1_same, set1_same]; exact cov x p q2 hp (q4 p hp e)
      · rw [set1_ne q, set1_ne q]; exact q4 p hp e
  · dsimp only at e ⊢
    by_cases q : j = k
    · subst q; rw [set1_same] at e; rw [set1_same, set1_same]; exact kn x hx e
    · rw [set1_ne q] at e; rw [set1_ne q, set1_ne q]; exact S.kn j hj x hx e
  · dsimp only at e
    by_cases q : j = k
    · subst q; rw [set1_same] at e; exact nm y e
    · rw [set1_ne q] at e; exact S.nm j hj y e
  · dsimp only
    by_cases q : j = k
    · subst q
      rw [set1_same, set1_same]
      rcases S.en j hj x hx with z | ⟨p, hp, e, c⟩
      · exact .inl z
      · exact .inr ⟨p, hp, e, cov x p hx hp c⟩
    · rw [set1_ne q, set1_ne q]; exact S.en j hj x hx
/-- a holder's state turns: its asks fewer, its ends covered -/
theorem Safe.asked (S : Safe T W g) {k x : Nat} (hk : k < W.nk) (hx : x < W.nh) {n : Num} (hn : nlt n ((W.H x).life, (W.H x).many)) :
    ∃ g', Safe T { W with K := set1 W.K k ((W.K k).asked T.wait (W.ck k) (x : Int) n), bag := if (W.K k).says (W.ck k) (x : Int) n = true then W.bag ++ [Msg.lets k x n] else W.bag } g' := by
  have hu := S.ku k hk
  have S1 : Safe T { W with K := set1 W.K k ((W.K k).asked T.wait (W.ck k) (x : Int) n) } (set1 g k (if (W.K k).says (W.ck k) (x : Int) n = true then some (x : Int) else g k)) ∧
      ((W.K k).says (W.ck k) (x : Int) n = true → ∀ p ∈ (W.H x).asks, p.1 = n → Cov T ((W.K k).asked T.wait (W.ck k) (x : Int) n) (W.ck k) (some (x : Int)) (x : Int) (W.ch x) p.1 p.2) := by
    have yes : (W.K k).says (W.ck k) (x : Int) n = true → ∀ p ∈ (W.H x).asks, p.1 = n → Cov T ((W.K k).asked T.wait (W.ck k) (x : Int) n) (W.ck k) (some (x : Int)) (x : Int) (W.ch x) p.1 p.2 := fun hy p hp e => by
      subst e
      exact Cov.yes (g := g k) hy (S.ak x hx p hp).1 (fun e1 e2 => (S.kn k hk x hx e1).2.2 p hp e2.symm) fun e1 => (S.kn k hk x hx e1).1
    have same : ∀ z : Nat, z < W.nh → (W.K k).name = some (z : Int) → ∀ p ∈ (W.H z).asks, p.1 = (W.K k).num → ((W.K k).says (W.ck k) (x : Int) n = true → z = x) →
        Cov T ((W.K k).asked T.wait (W.ck k) (x : Int) n) (W.ck k) (if (W.K k).says (W.ck k) (x : Int) n = true then some (x : Int) else g k) (z : Int) (W.ch z) p.1 p.2 := fun z hz e p hp e2 _ =>
      Cov.asked ((S.kn k hk z hz e).2.2 p hp e2) hu
    refine ⟨S.keeper hk _ _ ?_ ?_ (fun z p hz hp c => c.asked hu) (fun z hz e => ?_) (fun y e => ?_), yes⟩
    · unfold Kp.asked
      split
      · exact Int.le_refl _
      · split <;> exact Int.le_refl _
    · unfold Kp.asked
      split
      · exact hu
      · split
        · exact hu
        · exact Int.le_refl _
    · unfold Kp.asked at e ⊢
      unfold Kp.asked at same yes
      by_cases q : W.ck k < (W.K k).until_ ∧ ((W.K k).name ≠ some (x : Int) ∨ nlt n (W.K k).num)
      · rw [if_pos q] at e ⊢
        have no : (W.K k).says (W.ck k) (x : Int) n = false := by
          unfold Kp.says
          rcases q.2 with r | r <;> simp [q.1, r]
        rw [no, if_neg Bool.false_ne_true]
        exact S.kn k hk z hz e
      · rw [if_neg q] at e ⊢
        have ys : (W.K k).says (W.ck k) (x : Int) n = true := by
          unfold Kp.says
          by_cases r : W.ck k < (W.K k).until_
          · have r2 : ¬ ((W.K k).name ≠ some (x : Int) ∨ nlt n (W.K k).num) := fun z => q ⟨r, z⟩
            have r3 : (W.K k).name = some (x : Int) := Decidable.not_not.mp fun z => r2 (.inl z)
            have r4 : ¬ nlt n (W.K k).num := fun z => r2 (.inr z)
            simp [r3, r4]
          · simp [r]
        rw [ys, if_pos rfl]
        have ys' := yes ys
        rw [if_neg q] at ys'
        by_cases r : W.ck k < (W.K k).until_ ∧ n = (W.K k).num
        · rw [if_pos r] at e ⊢
          rw [if_pos r] at ys'
          have r3 : (W.K k).name = some (x : Int) := Decidable.not_not.mp fun z => q ⟨r.1, .inl z⟩
          have e' : (W.K k).name = some (z : Int) := e
          rw [r3] at e'
          have e3 : (x : Int) = (z : Int) := Option.some.inj e'
          have e4 : x = z := by omega
          subst e4
          refine ⟨rfl, (S.kn k hk x hz r3).2.1, fun p hp e5 => ys' p hp (e5.trans r.2.symm)⟩
        · rw [if_neg r] at e ⊢
          rw [if_neg r] at ys'
          have e3 : (x : Int) = (z : Int) := Option.some.inj e
          have e4 : x = z := by omega
          subst e4
          exact ⟨rfl, hn, fun p hp e5 => ys' p hp e5⟩
    · unfold Kp.asked at e
      split at e
      · exact S.nm k hk y e
      · split at e
        · exact S.nm k hk y e
        · exact ⟨x, hx, (Option.some.inj e).symm⟩
  obtain ⟨S1, yes⟩ := S1
  refine ⟨_, ⟨S1.kc, S1.ku, S1.hc, S1.lf, S1.mn, S1.ak, fun m hm => ?_, S1.kn, S1.nm, S1.en⟩⟩
  dsimp only at hm
  by_cases hy : (W.K k).says (W.ck k) (x : Int) n = true
  · rw [if_pos hy] at hm
    rcases List.mem_append.mp hm with z | z
    · have q := S1.bg m z
      cases m <;> exact q
    · have e := List.mem_singleton.mp z
      subst e
      refine ⟨hk, hx, hn, fun p hp e => ?_⟩
      dsimp only
      rw [set1_same, set1_same, if_pos hy]
      exact yes hy p hp e
  · rw [if_neg hy] at hm
    have q := S1.bg m hm
    cases m <;> exact q
theorem Safe.freed (S : Safe T W g) {k x : Nat} (hk : k < W.nk) (hx : x < W.nh) {n : Num} (hn : ∀ p ∈ (W.H x).asks, nlt n p.1) :
    ∃ g', Safe T { W with K := set1 W.K k ((W.K k).freed (W.ck k) (x : Int) n) } g' := by
  have hu := S.ku k hk
  have cv : ∀ (z : Nat) (p : Num × Int), z < W.nh → p ∈ (W.H z).asks → Cov T (W.K k) (W.ck k) (g k) (z : Int) (W.ch z) p.1 p.2 → Cov T ((W.K k).freed (W.ck k) (x : Int) n) (W.ck k) (g k) (z : Int) (W.ch z) p.1 p.2 := fun z p hz hp c =>
    c.freed fun e => by
      have e4 : z = x := by omega
      subst e4
      exact hn p hp
  have same : ((W.K k).freed (W.ck k) (x : Int) n).name = (W.K k).name ∧ ((W.K k).freed (W.ck k) (x : Int) n).num = (W.K k).num := by
    unfold Kp.freed
    split <;> exact ⟨rfl, rfl⟩
  refine ⟨_, S.keeper hk _ (g k) ?_ ?_ cv (fun z hz e => ?_) fun y e => ?_⟩
  · unfold Kp.freed
    split <;> exact Int.le_refl _
  · unfold Kp.freed
    split
    · show min _ _ ≤ _
      omega
    · exact hu
  · rw [same.1] at e
    rw [same.2]
    obtain ⟨q1, q2, q3⟩ := S.kn k hk z hz e
    exact ⟨q1, q2, fun p hp e5 => cv z p hz hp (q3 p hp e5)⟩
  · rw [same.1] at e
    exact S.nm k hk y e
theorem Safe.anewK (S : Safe T W g) {k : Nat} (hk : k < W.nk) : ∃ g', Safe T { W with K := set1 W.K k (Kp.new T.wait (W.ck k)) } g' :=
  ⟨_, S.keeper hk _ (g k) (Int.le_refl _) (Int.le_refl _) (fun _ _ _ _ c => c.anew (S.ku k hk)) (fun _ _ e => nomatch e) fun _ e => nomatch e⟩
/-- a holder's state turns: covered ends, asks that were there or are new -/
theorem Safe.holder (S : Safe T W g) {x : Nat} (hx : x < W.nh) (h' : Hd) (l' : Int) (b' : List Msg) (c1 : h'.clock ≤ W.ch x) (hl : W.life ≤ l') (c2 : h'.life ≤ l') (c3 : 0 ≤ h'.many) (up : nle ((W.H x).life, (W.H x).many) (h'.life, h'.many))
    (ak : ∀ p ∈ h'.asks, (p ∈ (W.H x).asks ∨ (p.1 = ((W.H x).life, (W.H x).many))) ∧ p.2 ≤ W.ch x ∧ nlt p.1 (h'.life, h'.many))
    (bg : ∀ m ∈ b', m ∈ W.bag ∨ (∃ k n, m = .ask k x n ∧ k < W.nk ∧ nlt n (h'.life, h'.many)) ∨ ∃ k n, m = .free k x n ∧ k < W.nk ∧ nlt n (h'.life, h'.many) ∧ ∀ p ∈ h'.asks, nlt n p.1)
    (en : ∀ k, k < W.nk → h'.ends k ≤ W.ch x ∨ ∃ p ∈ h'.asks, h'.ends k = p.2 + T.len ∧ Cov T (W.K k) (W.ck k) (g k) (x : Int) (W.ch x) p.1 p.2) :
    Safe T { W with H := set1 W.H x h', bag := b', life := l' } g := by
  have cov : ∀ {k : Nat} {n : Num}, nlt n ((W.H x).life, (W.H x).many) → (∀ p ∈ (W.H x).asks, p.1 = n → Cov T (W.K k) (W.ck k) (g k) (x : Int) (W.ch x) p.1 p.2) → ∀ p ∈ h'.asks, p.1 = n → Cov T (W.K k) (W.ck k) (g k) (x : Int) (W.ch x) p.1 p.2 := fun {k n} hn h p hp e => by
    rcases (ak p hp).1 with z | z
    · exact h p z e
    · rw [← e, z] at hn
      exact (nlt_irrefl hn).elim
  refine ⟨S.kc, S.ku, fun y hy => ?_, fun y hy => ?_, fun y hy => ?_, fun y hy p hp => ?_, fun m hm => ?_, fun k hk y hy e => ?_, S.nm, fun k hk y hy => ?_⟩
  · dsimp only
    by_cases q : y = x
    · subst q; rw [set1_same]; exact c1
    · rw [set1_ne q]; exact S.hc y hy
  · dsimp only
    by_cases q : y = x
    · subst q; rw [set1_same]; exact c2
    · rw [set1_ne q]; exact Int.le_trans (S.lf y hy) hl
  · dsimp only
    by_cases q : y = x
    · subst q; rw [set1_same]; exact c3
    · rw [set1_ne q]; exact S.mn y hy
  · dsimp only at hp ⊢
    by_cases q : y = x
    · subst q; rw [set1_same] at hp ⊢; exact (ak p hp).2
    · rw [set1_ne q] at hp ⊢; exact S.ak y hy p hp
  · dsimp only at hm
    rcases bg m hm with z | ⟨k, n, rfl, hk, hn⟩ | ⟨k, n, rfl, hk, hn, hp⟩
    · have r := S.bg m z
      cases m with
      | ask k y n =>
        obtain ⟨r1, r2, r3⟩ := r
        refine ⟨r1, r2, ?_⟩
        dsimp only
        by_cases q : y = x
        · subst q; rw [set1_same]; exact nlt_nle_trans r3 up
        · rw [set1_ne q]; exact r3
      | free k y n =>
        obtain ⟨r1, r2, r3, r4⟩ := r
        refine ⟨r1, r2, ?_⟩
        dsimp only
        by_cases q : y = x
        · subst q
          rw [set1_same]
          refine ⟨nlt_nle_trans r3 up, fun p hp => ?_⟩
          rcases (ak p hp).1 with z | z
          · exact r4 p z
          · rw [z]; exact r3
        · rw [set1_ne q]; exact ⟨r3, r4⟩
      | lets k y n =>
        obtain ⟨r1, r2, r3, r4⟩ := r
        refine ⟨r1, r2, ?_⟩
        dsimp only
        by_cases q : y = x
        · subst q; rw [set1_same]; exact ⟨nlt_nle_trans r3 up, cov r3 r4⟩
        · rw [set1_ne q]; exact ⟨r3, r4⟩
    · refine ⟨hk, hx, ?_⟩
      dsimp only
      rw [set1_same]
      exact hn
    · refine ⟨hk, hx, ?_⟩
      dsimp only
      rw [set1_same]
      exact ⟨hn, hp⟩
  · dsimp only at e ⊢
    obtain ⟨q1, q2, q3⟩ := S.kn k hk y hy e
    by_cases q : y = x
    · subst q; rw [set1_same]; exact ⟨q1, nlt_nle_trans q2 up, cov q2 q3⟩
    · rw [set1_ne q]; exact ⟨q1, q2, q3⟩
  · dsimp only
    by_cases q : y = x
    · subst q; rw [set1_same]; exact en k hk
    · rw [set1_ne q]; exact S.en k hk y hy
/-- a message more -/
theorem Safe.add (S : Safe T W g) {m : Msg} (h : MsgOk T W g m) : Safe T { W with bag := W.bag ++ [m] } g :=
  ⟨S.kc, S.ku, S.hc, S.lf, S.mn, S.ak, fun m' hm => by
    rcases List.mem_append.mp hm with z | z
    · have q := S.bg m' z
      cases m' <;> exact q
    · have e := List.mem_singleton.mp z
      subst e
      cases m' <;> exact h, S.kn, S.nm, S.en⟩
theorem Safe.ask (S : Safe T W g) {x : Nat} (hx : x < W.nh) : Safe T { W with H := set1 W.H x ((W.H x).ask (W.ch x)) } g := by
  have h := S.holder hx ((W.H x).ask (W.ch x)) W.life W.bag (Int.le_refl _) (Int.le_refl _) (S.lf x hx) (by have := S.mn x hx; show 0 ≤ (W.H x).many + 1; omega) (by show nle _ ((W.H x).life, (W.H x).many + 1); unfold nle; dsimp only; omega)
    (fun p hp => ?_) (fun m hm => .inl hm) (fun k hk => ?_)
  · exact h
  · have up : nlt ((W.H x).life, (W.H x).many) ((W.H x).life, (W.H x).many + 1) := by unfold nlt; dsimp only; omega
    rcases List.mem_append.mp (show p ∈ (W.H x).asks ++ [(((W.H x).life, (W.H x).many), W.ch x)] from hp) with z | z
    · obtain ⟨q1, q2⟩ := S.ak x hx p z
      exact ⟨.inl z, q1, nlt_nle_trans q2 (nle_of_nlt up)⟩
    · have e := List.mem_singleton.mp z
      subst e
      exact ⟨.inr rfl, Int.le_refl _, up⟩
  · rcases S.en k hk x hx with q | ⟨p, hp, e, c⟩
    · exact .inl q
    · exact .inr ⟨p, List.mem_append_left _ hp, e, c⟩
theorem Safe.seen (S : Safe T W g) {x : Nat} (hx : x < W.nh) : Safe T { W with H := set1 W.H x ((W.H x).seen (W.ch x)) } g := by
  have h := S.holder hx ((W.H x).seen (W.ch x)) W.life W.bag (Int.le_refl _) (Int.le_refl _) (S.lf x hx) (S.mn x hx) (nle_refl _) (fun p hp => ⟨.inl hp, S.ak x hx p hp⟩) (fun m hm => .inl hm) (fun k hk => S.en k hk x hx)
  exact h
theorem Safe.hear (S : Safe T W g) {k x : Nat} (hx : x < W.nh) {n : Num} (hm : MsgOk T W g (.lets k x n)) : Safe T { W with H := set1 W.H x ((W.H x).hear T.len (W.ch x) k n) } g := by
  obtain ⟨_, _, _, hm⟩ := hm
  have h := S.holder hx ((W.H x).hear T.len (W.ch x) k n) W.life W.bag (by unfold Hd.hear; split <;> exact Int.le_refl _) (Int.le_refl _) (by unfold Hd.hear; split <;> exact S.lf x hx) (by unfold Hd.hear; split <;> exact S.mn x hx)
    (by unfold Hd.hear; split <;> exact nle_refl _) (fun p hp => ?_) (fun m hm => .inl hm) (fun j hj => ?_)
  · exact h
  · unfold Hd.hear at hp ⊢
    split at hp <;> exact ⟨.inl hp, S.ak x hx p hp⟩
  · unfold Hd.hear
    cases q : (W.H x).asks.find? (fun p => decide (p.1 = n)) with
    | none => exact S.en j hj x hx
    | some p =>
      dsimp only
      by_cases r : j = k
      · subst r
        rw [set1_same]
        by_cases z : p.2 + T.len ≤ (W.H x).ends j
        · rw [Int.max_eq_left z]; exact S.en j hj x hx
        · rw [Int.max_eq_right (by omega)]
          have hp := List.mem_of_find?_eq_some q
          have he : p.1 = n := of_decide_eq_true (List.find?_some (p := fun p : Num × Int => decide (p.1 = n)) q)
          exact .inr ⟨p, hp, rfl, hm p hp he⟩
      · rw [set1_ne r]; exact S.en j hj x hx
theorem Safe.free (S : Safe T W g) {x : Nat} (hx : x < W.nh) {f : Int} (hf : f ≤ W.ch x) : Safe T { W with H := set1 W.H x ((W.H x).free f (W.ch x)) } g := by
  have h := S.holder hx ((W.H x).free f (W.ch x)) W.life W.bag (Int.le_refl _) (Int.le_refl _) (S.lf x hx) (S.mn x hx) (nle_refl _) (fun p hp => nomatch hp) (fun m hm => .inl hm) (fun k hk => .inl hf)
  exact h
theorem Safe.anewH (S : Safe T W g) {x : Nat} (hx : x < W.nh) : Safe T { W with H := set1 W.H x (Hd.new (W.life + 1) (W.ch x)), life := W.life + 1 } g := by
  have l := S.lf x hx
  have h := S.holder hx (Hd.new (W.life + 1) (W.ch x)) (W.life + 1) W.bag (Int.le_refl _) (by omega) (Int.le_refl _) (Int.le_refl 0) (by show nle _ (W.life + 1, 0); unfold nle; dsimp only; omega) (fun p hp => nomatch hp) (fun m hm => .inl hm) (fun k hk => .inl (Int.le_refl _))
  exact h
/-- the town at its start -/
theorem Safe.start (T : Tm) (nk nh : Nat) (ck ch ck0 ch0 : Nat → Int) (hk : ∀ k, k < nk → ck0 k ≤ ck k) (hh : ∀ x, x < nh → ch0 x ≤ ch x) :
    Safe T ⟨nk, nh, ck, ch, fun k => Kp.new T.wait (ck0 k), fun x => Hd.new 0 (ch0 x), [], 0⟩ (fun _ => none) where
  kc := fun k h => hk k h
  ku := fun k h => by have := hk k h; show ck0 k + T.wait ≤ ck k + T.wait; omega
  hc := fun x h => hh x h
  lf := fun _ _ => Int.le_refl 0
  mn := fun _ _ => Int.le_refl 0
  ak := fun _ _ _ hp => (by cases hp)
  bg := fun _ hm => (by cases hm)
  kn := fun _ _ _ _ e => (by cases e)
  nm := fun _ _ _ e => (by cases e)
  en := fun k _ x h => .inl (hh x h)
end
end Lease
set_option Elab.async false
set_option linter.all false
set_option maxRecDepth 100000
set_option maxHeartbeats 4000000
set_option genInjectivity false
namespace K10
open PySem L2
def top (i : Nat) : Stmt := PySem.Challenge.pw_leasehold_k10_whole_never_two.main.body.getD i (.Pass ⟨0, 0, 0, 0⟩)
abbrev s_wall : Stmt := top 0
abbrev s_gone_on : Stmt := top 8
theorem sc_gone_on : FnScope ["latest", "clock"] ["latest", "clock"] (defScope s_gone_on) := ⟨rfl, rfl, rfl, by decide +kernel, rfl, by decide +kernel, by decide +kernel⟩
abbrev s_Holder_init : Stmt := inClass (top 10) 0
theorem sc_Holder_init : FnScope ["self", "terms", "name", "life", "clock"] ["self", "terms", "name", "life", "clock"] (defScope s_Holder_init) := ⟨rfl, rfl, rfl, by decide +kernel, rfl, by decide +kernel, by decide +kernel⟩
abbrev s_Holder_ask : Stmt := inClass (top 10) 1
theorem sc_Holder_ask : FnScope ["self", "clock", "number"] ["self", "clock"] (defScope s_Holder_ask) := ⟨rfl, rfl, rfl, by decide +kernel, rfl, by decide +kernel, by decide +kernel⟩
abbrev s_Holder_forget_over : Stmt := inClass (top 10) 2
theorem sc_Holder_forget_over : FnScope ["self", "clock", "oldest"] ["self", "clock"] (defScope s_Holder_forget_over) := ⟨rfl, rfl, rfl, by decide +kernel, rfl, by decide +kernel, by decide +kernel⟩
abbrev s_Holder_hear : Stmt := inClass (top 10) 3
theorem sc_Holder_hear : FnScope ["self", "clock", "keeper", "number"] ["self", "clock", "keeper", "number"] (defScope s_Holder_hear) := ⟨rfl, rfl, rfl, by decide +kernel, rfl, by decide +kernel, by decide +kernel⟩
abbrev s_Holder_holds : Stmt := inClass (top 10) 4
theorem sc_Holder_holds : FnScope ["self", "clock"] ["self", "clock"] (defScope s_Holder_holds) := ⟨rfl, rfl, rfl, by decide +kernel, rfl, by decide +kernel, by decide +kernel⟩
abbrev s_Holder_until : Stmt := inClass (top 10) 5
theorem sc_Holder_until : FnScope ["self", "clock", "end"] ["self", "clock"] (defScope s_Holder_until) := ⟨rfl, rfl, rfl, by decide +kernel, rfl, by decide +kernel, by decide +kernel⟩
abbrev s_Holder_free : Stmt := inClass (top 10) 6
theorem sc_Holder_free : FnScope ["self", "clock", "latest"] ["self", "clock"] (defScope s_Holder_free) := ⟨rfl, rfl, rfl, by decide +kernel, rfl, by decide +kernel, by decide +kernel⟩
abbrev s_Keeper_init : Stmt := inClass (top 12) 0
theorem sc_Keeper_init : FnScope ["self", "terms", "clock"] ["self", "terms", "clock"] (defScope s_Keeper_init) := ⟨rfl, rfl, rfl, by decide +kernel, rfl, by decide +kernel, by decide +kernel⟩
abbrev s_Keeper_asked : Stmt := inClass (top 12) 1
theorem sc_Keeper_asked : FnScope ["self", "clock", "name", "number"] ["self", "clock", "name", "number"] (defScope s_Keeper_asked) := ⟨rfl, rfl, rfl, by decide +kernel, rfl, by decide +kernel, by decide +kernel⟩
abbrev s_Keeper_freed : Stmt := inClass (top 12) 2
theorem sc_Keeper_freed : FnScope ["self", "clock", "name", "number"] ["self", "clock", "name", "number"] (defScope s_Keeper_freed) := ⟨rfl, rfl, rfl, by decide +kernel, rfl, by decide +kernel, by decide +kernel⟩
abbrev s_refuse_bad_steps : Stmt := top 17
theorem sc_refuse_bad_steps : FnScope ["low", "high"] ["low", "high"] (defScope s_refuse_bad_steps) := ⟨rfl, rfl, rfl, by decide +kernel, rfl, by decide +kernel, by decide +kernel⟩
abbrev s_refuse_bad_length : Stmt := top 18
theorem sc_refuse_bad_length : FnScope ["length"] ["length"] (defScope s_refuse_bad_length) := ⟨rfl, rfl, rfl, by decide +kernel, rfl, by decide +kernel, by decide +kernel⟩
abbrev s_refuse_bad_keepers : Stmt := top 19
theorem sc_refuse_bad_keepers : FnScope ["keepers"] ["keepers"] (defScope s_refuse_bad_keepers) := ⟨rfl, rfl, rfl, by decide +kernel, rfl, by decide +kernel, by decide +kernel⟩
abbrev s_Terms_init : Stmt := inClass (top 20) 0
theorem sc_Terms_init : FnScope ["self", "low", "high", "length", "keepers"] ["self", "low", "high", "length", "keepers"] (defScope s_Terms_init) := ⟨rfl, rfl, rfl, by decide +kernel, rfl, by decide +kernel, by decide +kernel⟩
abbrev s_Terms_ticks : Stmt := inClass (top 20) 1
theorem sc_Terms_ticks : FnScope ["self"] ["self"] (defScope s_Terms_ticks) := ⟨rfl, rfl, rfl, by decide +kernel, rfl, by decide +kernel, by decide +kernel⟩
abbrev s_Terms_wait : Stmt := inClass (top 20) 2
theorem sc_Terms_wait : FnScope ["self"] ["self"] (defScope s_Terms_wait) := ⟨rfl, rfl, rfl, by decide +kernel, rfl, by decide +kernel, by decide +kernel⟩
abbrev s_Terms_most : Stmt := inClass (top 20) 3
theorem sc_Terms_most : FnScope ["self"] ["self"] (defScope s_Terms_most) := ⟨rfl, rfl, rfl, by decide +kernel, rfl, by decide +kernel, by decide +kernel⟩
abbrev s_law_cell : Stmt := top 22
theorem sc_law_cell : FnScope ["_law_script", "_law_k"] ["_law_script", "_law_k"] (defScope s_law_cell) := ⟨rfl, rfl, rfl, by decide +kernel, rfl, by decide +kernel, by decide +kernel⟩
abbrev s_law_mix : Stmt := top 23
theorem sc_law_mix : FnScope ["_law_script", "_law_k", "_law_number"] ["_law_script", "_law_k"] (defScope s_law_mix) := ⟨rfl, rfl, rfl, by decide +kernel, rfl, by decide +kernel, by decide +kernel⟩
abbrev s_law_terms : Stmt := top 24
theorem sc_law_terms : FnScope ["_law_script", "_law_k", "_law_low", "_law_high", "_law_length"] ["_law_script", "_law_k"] (defScope s_law_terms) := ⟨rfl, rfl, rfl, by decide +kernel, rfl, by decide +kernel, by decide +kernel⟩
abbrev s_law_wait : Stmt := top 25
theorem sc_law_wait : FnScope ["_law_terms_here", "_law_ticks_here"] ["_law_terms_here"] (defScope s_law_wait) := ⟨rfl, rfl, rfl, by decide +kernel, rfl, by decide +kernel, by decide +kernel⟩
abbrev s_law_ticks : Stmt := top 26
theorem sc_law_ticks : FnScope ["_law_script", "_law_k", "_law_terms_here", "_law_clocks", "_law_many", "_law_way", "_law_j", "_law_step"] ["_law_script", "_law_k", "_law_terms_here", "_law_clocks", "_law_many"] (defScope s_law_ticks) := ⟨rfl, rfl, rfl, by decide +kernel, rfl, by decide +kernel, by decide +kernel⟩
abbrev s_law_come : Stmt := top 27
theorem sc_law_come : FnScope ["_law_message", "_law_town", "_law_keep", "_law_kind", "_law_keeper", "_law_name", "_law_number", "_law_clocks"] ["_law_message", "_law_town", "_law_keep"] (defScope s_law_come) := ⟨rfl, rfl, rfl, by decide +kernel, rfl, by decide +kernel, by decide +kernel⟩
abbrev s_law_to_all : Stmt := top 28
theorem sc_law_to_all : FnScope ["_law_town", "_law_kind", "_law_name", "_law_number", "_law_keeper"] ["_law_town", "_law_kind", "_law_name", "_law_number"] (defScope s_law_to_all) := ⟨rfl, rfl, rfl, by decide +kernel, rfl, by decide +kernel, by decide +kernel⟩
abbrev s_law_anew : Stmt := top 29
theorem sc_law_anew : FnScope ["_law_town", "_law_made", "_law_number", "_law_many", "_law_at"] ["_law_town", "_law_made", "_law_number"] (defScope s_law_anew) := ⟨rfl, rfl, rfl, by decide +kernel, rfl, by decide +kernel, by decide +kernel⟩
abbrev s_law_one : Stmt := top 30
theorem sc_law_one : FnScope ["_law_town", "_law_many", "_law_hold", "_law_name", "_law_clock", "_law_holds", "_law_until"] ["_law_town"] (defScope s_law_one) := ⟨rfl, rfl, rfl, by decide +kernel, rfl, by decide +kernel, by decide +kernel⟩
abbrev s_law_scene : Stmt := top 31
theorem sc_law_scene : FnScope ["_law_script", "_law_town", "_law_terms_here", "_law_made", "_law_many", "_law_name", "_law_number", "_law_keeper"] ["_law_script", "_law_town", "_law_terms_here", "_law_made"] (defScope s_law_scene) := ⟨rfl, rfl, rfl, by decide +kernel, rfl, by decide +kernel, by decide +kernel⟩
abbrev s_law : Stmt := top 32
theorem sc_law : FnScope ["_law_script", "_law_terms_here", "_law_made", "_law_holders", "_law_clocks", "_law_town", "_law_k", "_law_number", "_law_way", "_law_name", "_law_clock", "_law_last"] ["_law_script"] (defScope s_law) := ⟨rfl, rfl, rfl, by decide +kernel, rfl, by decide +kernel, by decide +kernel⟩
theorem lo_gone_on_latest : (defScope s_gone_on).names.lookup ("latest" : Str) = some .local := by decide +kernel
theorem lo_gone_on_clock : (defScope s_gone_on).names.lookup ("clock" : Str) = some .local := by decide +kernel
theorem lo_gone_on_Back : (defScope s_gone_on).names.lookup ("Back" : Str) = some .globalImplicit := by decide +kernel
theorem lo_Holder_init_self : (defScope s_Holder_init).names.lookup ("self" : Str) = some .local := by decide +kernel
theorem lo_Holder_init_terms : (defScope s_Holder_init).names.lookup ("terms" : Str) = some .local := by decide +kernel
theorem lo_Holder_init_name : (defScope s_Holder_init).names.lookup ("name" : Str) = some .local := by decide +kernel
theorem lo_Holder_init_life : (defScope s_Holder_init).names.lookup ("life" : Str) = some .local := by decide +kernel
theorem lo_Holder_init_clock : (defScope s_Holder_init).names.lookup ("clock" : Str) = some .local := by decide +kernel
theorem lo_Holder_ask_self : (defScope s_Holder_ask).names.lookup ("self" : Str) = some .local := by decide +kernel
theorem lo_Holder_ask_clock : (defScope s_Holder_ask).names.lookup ("clock" : Str) = some .local := by decide +kernel
theorem lo_Holder_ask_number : (defScope s_Holder_ask).names.lookup ("number" : Str) = some .local := by decide +kernel
theorem lo_Holder_ask_gone_on : (defScope s_Holder_ask).names.lookup ("gone_on" : Str) = some .globalImplicit := by decide +kernel
theorem lo_Holder_forget_over_self : (defScope s_Holder_forget_over).names.lookup ("self" : Str) = some .local := by decide +kernel
theorem lo_Holder_forget_over_clock : (defScope s_Holder_forget_over).names.lookup ("clock" : Str) = some .local := by decide +kernel
theorem lo_Holder_forget_over_oldest : (defScope s_Holder_forget_over).names.lookup ("oldest" : Str) = some .local := by decide +kernel
theorem lo_Holder_forget_over_len : (defScope s_Holder_forget_over).names.lookup ("len" : Str) = some .globalImplicit := by decide +kernel
theorem lo_Holder_hear_self : (defScope s_Holder_hear).names.lookup ("self" : Str) = some .local := by decide +kernel
theorem lo_Holder_hear_clock : (defScope s_Holder_hear).names.lookup ("clock" : Str) = some .local := by decide +kernel
theorem lo_Holder_hear_keeper : (defScope s_Holder_hear).names.lookup ("keeper" : Str) = some .local := by decide +kernel
theorem lo_Holder_hear_number : (defScope s_Holder_hear).names.lookup ("number" : Str) = some .local := by decide +kernel
theorem lo_Holder_hear_gone_on : (defScope s_Holder_hear).names.lookup ("gone_on" : Str) = some .globalImplicit := by decide +kernel
theorem lo_Holder_hear_NoKeeper : (defScope s_Holder_hear).names.lookup ("NoKeeper" : Str) = some .globalImplicit := by decide +kernel
theorem lo_Holder_hear_max : (defScope s_Holder_hear).names.lookup ("max" : Str) = some .globalImplicit := by decide +kernel
theorem lo_Holder_hear_len : (defScope s_Holder_hear).names.lookup ("len" : Str) = some .globalImplicit := by decide +kernel
theorem lo_Holder_holds_self : (defScope s_Holder_holds).names.lookup ("self" : Str) = some .local := by decide +kernel
theorem lo_Holder_holds_clock : (defScope s_Holder_holds).names.lookup ("clock" : Str) = some .local := by decide +kernel
theorem lo_Holder_until_self : (defScope s_Holder_until).names.lookup ("self" : Str) = some .local := by decide +kernel
theorem lo_Holder_until_clock : (defScope s_Holder_until).names.lookup ("clock" : Str) = some .local := by decide +kernel
theorem lo_Holder_until_end : (defScope s_Holder_until).names.lookup ("end" : Str) = some .local := by decide +kernel
theorem lo_Holder_until_gone_on : (defScope s_Holder_until).names.lookup ("gone_on" : Str) = some .globalImplicit := by decide +kernel
theorem lo_Holder_until_sorted : (defScope s_Holder_until).names.lookup ("sorted" : Str) = some .globalImplicit := by decide +kernel
theorem lo_Holder_free_self : (defScope s_Holder_free).names.lookup ("self" : Str) = some .local := by decide +kernel
theorem lo_Holder_free_clock : (defScope s_Holder_free).names.lookup ("clock" : Str) = some .local := by decide +kernel
theorem lo_Holder_free_latest : (defScope s_Holder_free).names.lookup ("latest" : Str) = some .local := by decide +kernel
theorem lo_Holder_free_gone_on : (defScope s_Holder_free).names.lookup ("gone_on" : Str) = some .globalImplicit := by decide +kernel
theorem lo_Holder_free_NotAsked : (defScope s_Holder_free).names.lookup ("NotAsked" : Str) = some .globalImplicit := by decide +kernel
theorem lo_Holder_free_len : (defScope s_Holder_free).names.lookup ("len" : Str) = some .globalImplicit := by decide +kernel
theorem lo_Keeper_init_self : (defScope s_Keeper_init).names.lookup ("self" : Str) = some .local := by decide +kernel
theorem lo_Keeper_init_terms : (defScope s_Keeper_init).names.lookup ("terms" : Str) = some .local := by decide +kernel
theorem lo_Keeper_init_clock : (defScope s_Keeper_init).names.lookup ("clock" : Str) = some .local := by decide +kernel
theorem lo_Keeper_asked_self : (defScope s_Keeper_asked).names.lookup ("self" : Str) = some .local := by decide +kernel
theorem lo_Keeper_asked_clock : (defScope s_Keeper_asked).names.lookup ("clock" : Str) = some .local := by decide +kernel
theorem lo_Keeper_asked_name : (defScope s_Keeper_asked).names.lookup ("name" : Str) = some .local := by decide +kernel
theorem lo_Keeper_asked_number : (defScope s_Keeper_asked).names.lookup ("number" : Str) = some .local := by decide +kernel
theorem lo_Keeper_asked_gone_on : (defScope s_Keeper_asked).names.lookup ("gone_on" : Str) = some .globalImplicit := by decide +kernel
theorem lo_Keeper_freed_self : (defScope s_Keeper_freed).names.lookup ("self" : Str) = some .local := by decide +kernel
theorem lo_Keeper_freed_clock : (defScope s_Keeper_freed).names.lookup ("clock" : Str) = some .local := by decide +kernel
theorem lo_Keeper_freed_name : (defScope s_Keeper_freed).names.lookup ("name" : Str) = some .local := by decide +kernel
theorem lo_Keeper_freed_number : (defScope s_Keeper_freed).names.lookup ("number" : Str) = some .local := by decide +kernel
theorem lo_Keeper_freed_gone_on : (defScope s_Keeper_freed).names.lookup ("gone_on" : Str) = some .globalImplicit := by decide +kernel
theorem lo_refuse_bad_steps_low : (defScope s_refuse_bad_steps).names.lookup ("low" : Str) = some .local := by decide +kernel
theorem lo_refuse_bad_steps_high : (defScope s_refuse_bad_steps).names.lookup ("high" : Str) = some .local := by decide +kernel
theorem lo_refuse_bad_steps_MOST_STEP : (defScope s_refuse_bad_steps).names.lookup ("MOST_STEP" : Str) = some .globalImplicit := by decide +kernel
theorem lo_refuse_bad_steps_BadTerms : (defScope s_refuse_bad_steps).names.lookup ("BadTerms" : Str) = some .globalImplicit := by decide +kernel
theorem lo_refuse_bad_length_length : (defScope s_refuse_bad_length).names.lookup ("length" : Str) = some .local := by decide +kernel
theorem lo_refuse_bad_length_MOST_LENGTH : (defScope s_refuse_bad_length).names.lookup ("MOST_LENGTH" : Str) = some .globalImplicit := by decide +kernel
theorem lo_refuse_bad_length_BadTerms : (defScope s_refuse_bad_length).names.lookup ("BadTerms" : Str) = some .globalImplicit := by decide +kernel
theorem lo_refuse_bad_keepers_keepers : (defScope s_refuse_bad_keepers).names.lookup ("keepers" : Str) = some .local := by decide +kernel
theorem lo_refuse_bad_keepers_MOST_KEEPERS : (defScope s_refuse_bad_keepers).names.lookup ("MOST_KEEPERS" : Str) = some .globalImplicit := by decide +kernel
theorem lo_refuse_bad_keepers_BadTerms : (defScope s_refuse_bad_keepers).names.lookup ("BadTerms" : Str) = some .globalImplicit := by decide +kernel
theorem lo_Terms_init_self : (defScope s_Terms_init).names.lookup ("self" : Str) = some .local := by decide +kernel
theorem lo_Terms_init_low : (defScope s_Terms_init).names.lookup ("low" : Str) = some .local := by decide +kernel
theorem lo_Terms_init_high : (defScope s_Terms_init).names.lookup ("high" : Str) = some .local := by decide +kernel
theorem lo_Terms_init_length : (defScope s_Terms_init).names.lookup ("length" : Str) = some .local := by decide +kernel
theorem lo_Terms_init_keepers : (defScope s_Terms_init).names.lookup ("keepers" : Str) = some .local := by decide +kernel
theorem lo_Terms_init_refuse_bad_steps : (defScope s_Terms_init).names.lookup ("refuse_bad_steps" : Str) = some .globalImplicit := by decide +kernel
theorem lo_Terms_init_refuse_bad_length : (defScope s_Terms_init).names.lookup ("refuse_bad_length" : Str) = some .globalImplicit := by decide +kernel
theorem lo_Terms_init_refuse_bad_keepers : (defScope s_Terms_init).names.lookup ("refuse_bad_keepers" : Str) = some .globalImplicit := by decide +kernel
theorem lo_Terms_ticks_self : (defScope s_Terms_ticks).names.lookup ("self" : Str) = some .local := by decide +kernel
theorem lo_Terms_wait_self : (defScope s_Terms_wait).names.lookup ("self" : Str) = some .local := by decide +kernel
theorem lo_Terms_most_self : (defScope s_Terms_most).names.lookup ("self" : Str) = some .local := by decide +kernel
theorem lo_law_cell__law_script : (defScope s_law_cell).names.lookup ("_law_script" : Str) = some .local := by decide +kernel
theorem lo_law_cell__law_k : (defScope s_law_cell).names.lookup ("_law_k" : Str) = some .local := by decide +kernel
theorem lo_law_cell_len : (defScope s_law_cell).names.lookup ("len" : Str) = some .globalImplicit := by decide +kernel
theorem lo_law_mix__law_script : (defScope s_law_mix).names.lookup ("_law_script" : Str) = some .local := by decide +kernel
theorem lo_law_mix__law_k : (defScope s_law_mix).names.lookup ("_law_k" : Str) = some .local := by decide +kernel
theorem lo_law_mix__law_number : (defScope s_law_mix).names.lookup ("_law_number" : Str) = some .local := by decide +kernel
theorem lo_law_mix__law_cell : (defScope s_law_mix).names.lookup ("_law_cell" : Str) = some .globalImplicit := by decide +kernel
theorem lo_law_terms__law_script : (defScope s_law_terms).names.lookup ("_law_script" : Str) = some .local := by decide +kernel
theorem lo_law_terms__law_k : (defScope s_law_terms).names.lookup ("_law_k" : Str) = some .local := by decide +kernel
theorem lo_law_terms__law_low : (defScope s_law_terms).names.lookup ("_law_low" : Str) = some .local := by decide +kernel
theorem lo_law_terms__law_high : (defScope s_law_terms).names.lookup ("_law_high" : Str) = some .local := by decide +kernel
theorem lo_law_terms__law_length : (defScope s_law_terms).names.lookup ("_law_length" : Str) = some .local := by decide +kernel
theorem lo_law_terms__law_mix : (defScope s_law_terms).names.lookup ("_law_mix" : Str) = some .globalImplicit := by decide +kernel
theorem lo_law_wait__law_terms_here : (defScope s_law_wait).names.lookup ("_law_terms_here" : Str) = some .local := by decide +kernel
theorem lo_law_wait__law_ticks_here : (defScope s_law_wait).names.lookup ("_law_ticks_here" : Str) = some .local := by decide +kernel
theorem lo_law_ticks__law_script : (defScope s_law_ticks).names.lookup ("_law_script" : Str) = some .local := by decide +kernel
theorem lo_law_ticks__law_k : (defScope s_law_ticks).names.lookup ("_law_k" : Str) = some .local := by decide +kernel
theorem lo_law_ticks__law_terms_here : (defScope s_law_ticks).names.lookup ("_law_terms_here" : Str) = some .local := by decide +kernel
theorem lo_law_ticks__law_clocks : (defScope s_law_ticks).names.lookup ("_law_clocks" : Str) = some .local := by decide +kernel
theorem lo_law_ticks__law_many : (defScope s_law_ticks).names.lookup ("_law_many" : Str) = some .local := by decide +kernel
theorem lo_law_ticks__law_way : (defScope s_law_ticks).names.lookup ("_law_way" : Str) = some .local := by decide +kernel
theorem lo_law_ticks__law_j : (defScope s_law_ticks).names.lookup ("_law_j" : Str) = some .local := by decide +kernel
theorem lo_law_ticks__law_step : (defScope s_law_ticks).names.lookup ("_law_step" : Str) = some .local := by decide +kernel
theorem lo_law_ticks_range : (defScope s_law_ticks).names.lookup ("range" : Str) = some .globalImplicit := by decide +kernel
theorem lo_law_ticks__law_mix : (defScope s_law_ticks).names.lookup ("_law_mix" : Str) = some .globalImplicit := by decide +kernel
theorem lo_law_ticks_len : (defScope s_law_ticks).names.lookup ("len" : Str) = some .globalImplicit := by decide +kernel
theorem lo_law_ticks_int : (defScope s_law_ticks).names.lookup ("int" : Str) = some .globalImplicit := by decide +kernel
theorem lo_law_come__law_message : (defScope s_law_come).names.lookup ("_law_message" : Str) = some .local := by decide +kernel
theorem lo_law_come__law_town : (defScope s_law_come).names.lookup ("_law_town" : Str) = some .local := by decide +kernel
theorem lo_law_come__law_keep : (defScope s_law_come).names.lookup ("_law_keep" : Str) = some .local := by decide +kernel
theorem lo_law_come__law_kind : (defScope s_law_come).names.lookup ("_law_kind" : Str) = some .local := by decide +kernel
theorem lo_law_come__law_keeper : (defScope s_law_come).names.lookup ("_law_keeper" : Str) = some .local := by decide +kernel
theorem lo_law_come__law_name : (defScope s_law_come).names.lookup ("_law_name" : Str) = some .local := by decide +kernel
theorem lo_law_come__law_number : (defScope s_law_come).names.lookup ("_law_number" : Str) = some .local := by decide +kernel
theorem lo_law_come__law_clocks : (defScope s_law_come).names.lookup ("_law_clocks" : Str) = some .local := by decide +kernel
theorem lo_law_come_len : (defScope s_law_come).names.lookup ("len" : Str) = some .globalImplicit := by decide +kernel
theorem lo_law_to_all__law_town : (defScope s_law_to_all).names.lookup ("_law_town" : Str) = some .local := by decide +kernel
theorem lo_law_to_all__law_kind : (defScope s_law_to_all).names.lookup ("_law_kind" : Str) = some .local := by decide +kernel
theorem lo_law_to_all__law_name : (defScope s_law_to_all).names.lookup ("_law_name" : Str) = some .local := by decide +kernel
theorem lo_law_to_all__law_number : (defScope s_law_to_all).names.lookup ("_law_number" : Str) = some .local := by decide +kernel
theorem lo_law_to_all__law_keeper : (defScope s_law_to_all).names.lookup ("_law_keeper" : Str) = some .local := by decide +kernel
theorem lo_law_to_all_range : (defScope s_law_to_all).names.lookup ("range" : Str) = some .globalImplicit := by decide +kernel
theorem lo_law_to_all_len : (defScope s_law_to_all).names.lookup ("len" : Str) = some .globalImplicit := by decide +kernel
theorem lo_law_anew__law_town : (defScope s_law_anew).names.lookup ("_law_town" : Str) = some .local := by decide +kernel
theorem lo_law_anew__law_made : (defScope s_law_anew).names.lookup ("_law_made" : Str) = some .local := by decide +kernel
theorem lo_law_anew__law_number : (defScope s_law_anew).names.lookup ("_law_number" : Str) = some .local := by decide +kernel
theorem lo_law_anew__law_many : (defScope s_law_anew).names.lookup ("_law_many" : Str) = some .local := by decide +kernel
theorem lo_law_anew__law_at : (defScope s_law_anew).names.lookup ("_law_at" : Str) = some .local := by decide +kernel
theorem lo_law_anew_len : (defScope s_law_anew).names.lookup ("len" : Str) = some .globalImplicit := by decide +kernel
theorem lo_law_anew_Keeper : (defScope s_law_anew).names.lookup ("Keeper" : Str) = some .globalImplicit := by decide +kernel
theorem lo_law_anew_Holder : (defScope s_law_anew).names.lookup ("Holder" : Str) = some .globalImplicit := by decide +kernel
theorem lo_law_one__law_town : (defScope s_law_one).names.lookup ("_law_town" : Str) = some .local := by decide +kernel
theorem lo_law_one__law_many : (defScope s_law_one).names.lookup ("_law_many" : Str) = some .local := by decide +kernel
theorem lo_law_one__law_hold : (defScope s_law_one).names.lookup ("_law_hold" : Str) = some .local := by decide +kernel
theorem lo_law_one__law_name : (defScope s_law_one).names.lookup ("_law_name" : Str) = some .local := by decide +kernel
theorem lo_law_one__law_clock : (defScope s_law_one).names.lookup ("_law_clock" : Str) = some .local := by decide +kernel
theorem lo_law_one__law_holds : (defScope s_law_one).names.lookup ("_law_holds" : Str) = some .local := by decide +kernel
theorem lo_law_one__law_until : (defScope s_law_one).names.lookup ("_law_until" : Str) = some .local := by decide +kernel
theorem lo_law_one_len : (defScope s_law_one).names.lookup ("len" : Str) = some .globalImplicit := by decide +kernel
theorem lo_law_one_range : (defScope s_law_one).names.lookup ("range" : Str) = some .globalImplicit := by decide +kernel
theorem lo_law_one_int : (defScope s_law_one).names.lookup ("int" : Str) = some .globalImplicit := by decide +kernel
theorem lo_law_scene__law_script : (defScope s_law_scene).names.lookup ("_law_script" : Str) = some .local := by decide +kernel
theorem lo_law_scene__law_town : (defScope s_law_scene).names.lookup ("_law_town" : Str) = some .local := by decide +kernel
theorem lo_law_scene__law_terms_here : (defScope s_law_scene).names.lookup ("_law_terms_here" : Str) = some .local := by decide +kernel
theorem lo_law_scene__law_made : (defScope s_law_scene).names.lookup ("_law_made" : Str) = some .local := by decide +kernel
theorem lo_law_scene__law_many : (defScope s_law_scene).names.lookup ("_law_many" : Str) = some .local := by decide +kernel
theorem lo_law_scene__law_name : (defScope s_law_scene).names.lookup ("_law_name" : Str) = some .local := by decide +kernel
theorem lo_law_scene__law_number : (defScope s_law_scene).names.lookup ("_law_number" : Str) = some .local := by decide +kernel
theorem lo_law_scene__law_keeper : (defScope s_law_scene).names.lookup ("_law_keeper" : Str) = some .local := by decide +kernel
theorem lo_law_scene_len : (defScope s_law_scene).names.lookup ("len" : Str) = some .globalImplicit := by decide +kernel
theorem lo_law_scene__law_one : (defScope s_law_scene).names.lookup ("_law_one" : Str) = some .globalImplicit := by decide +kernel
theorem lo_law_scene_range : (defScope s_law_scene).names.lookup ("range" : Str) = some .globalImplicit := by decide +kernel
theorem lo_law_scene__law_ticks : (defScope s_law_scene).names.lookup ("_law_ticks" : Str) = some .globalImplicit := by decide +kernel
theorem lo_law_scene_Keeper : (defScope s_law_scene).names.lookup ("Keeper" : Str) = some .globalImplicit := by decide +kernel
theorem lo_law_scene_int : (defScope s_law_scene).names.lookup ("int" : Str) = some .globalImplicit := by decide +kernel
theorem lo_law_scene__law_mix : (defScope s_law_scene).names.lookup ("_law_mix" : Str) = some .globalImplicit := by decide +kernel
theorem lo_law_scene__law_wait : (defScope s_law_scene).names.lookup ("_law_wait" : Str) = some .globalImplicit := by decide +kernel
theorem lo_law__law_script : (defScope s_law).names.lookup ("_law_script" : Str) = some .cell := by decide +kernel
theorem lo_law__law_terms_here : (defScope s_law).names.lookup ("_law_terms_here" : Str) = some .cell := by decide +kernel
theorem lo_law__law_made : (defScope s_law).names.lookup ("_law_made" : Str) = some .cell := by decide +kernel
theorem lo_law__law_holders : (defScope s_law).names.lookup ("_law_holders" : Str) = some .local := by decide +kernel
theorem lo_law__law_clocks : (defScope s_law).names.lookup ("_law_clocks" : Str) = some .cell := by decide +kernel
theorem lo_law__law_town : (defScope s_law).names.lookup ("_law_town" : Str) = some .local := by decide +kernel
theorem lo_law__law_k : (defScope s_law).names.lookup ("_law_k" : Str) = some .local := by decide +kernel
theorem lo_law__law_number : (defScope s_law).names.lookup ("_law_number" : Str) = some .local := by decide +kernel
theorem lo_law__law_way : (defScope s_law).names.lookup ("_law_way" : Str) = some .local := by decide +kernel
theorem lo_law__law_name : (defScope s_law).names.lookup ("_law_name" : Str) = some .local := by decide +kernel
theorem lo_law__law_clock : (defScope s_law).names.lookup ("_law_clock" : Str) = some .local := by decide +kernel
theorem lo_law__law_last : (defScope s_law).names.lookup ("_law_last" : Str) = some .local := by decide +kernel
theorem lo_law__law_terms : (defScope s_law).names.lookup ("_law_terms" : Str) = some .globalImplicit := by decide +kernel
theorem lo_law_Terms : (defScope s_law).names.lookup ("Terms" : Str) = some .globalImplicit := by decide +kernel
theorem lo_law__law_ticks : (defScope s_law).names.lookup ("_law_ticks" : Str) = some .globalImplicit := by decide +kernel
theorem lo_law_range : (defScope s_law).names.lookup ("range" : Str) = some .globalImplicit := by decide +kernel
theorem lo_law__law_mix : (defScope s_law).names.lookup ("_law_mix" : Str) = some .globalImplicit := by decide +kernel
theorem lo_law__law_scene : (defScope s_law).names.lookup ("_law_scene" : Str) = some .globalImplicit := by decide +kernel
theorem lo_law__law_one : (defScope s_law).names.lookup ("_law_one" : Str) = some .globalImplicit := by decide +kernel
theorem lo_law__law_wait : (defScope s_law).names.lookup ("_law_wait" : Str) = some .globalImplicit := by decide +kernel
theorem lo_law__law_to_all : (defScope s_law).names.lookup ("_law_to_all" : Str) = some .globalImplicit := by decide +kernel
theorem lo_law__law_anew : (defScope s_law).names.lookup ("_law_anew" : Str) = some .globalImplicit := by decide +kernel
theorem lo_law__law_come : (defScope s_law).names.lookup ("_law_come" : Str) = some .globalImplicit := by decide +kernel
theorem lo_law_min : (defScope s_law).names.lookup ("min" : Str) = some .globalImplicit := by decide +kernel
theorem lo_law_len : (defScope s_law).names.lookup ("len" : Str) = some .globalImplicit := by decide +kernel
theorem nm_latest : Nm "latest" := ⟨by decide +kernel, by decide +kernel, by decide +kernel⟩
theorem nm_clock : Nm "clock" := ⟨by decide +kernel, by decide +kernel, by decide +kernel⟩
theorem nm_Back : Nm "Back" := ⟨by decide +kernel, by decide +kernel, by decide +kernel⟩
theorem nm_self : Nm "self" := ⟨by decide +kernel, by decide +kernel, by decide +kernel⟩
theorem nm_terms : Nm "terms" := ⟨by decide +kernel, by decide +kernel, by decide +kernel⟩
theorem nm_name : Nm "name" := ⟨by decide +kernel, by decide +kernel, by decide +kernel⟩
theorem nm_life : Nm "life" := ⟨by decide +kernel, by decide +kernel, by decide +kernel⟩
theorem nm_number : Nm "number" := ⟨by decide +kernel, by decide +kernel, by decide +kernel⟩
theorem nm_gone_on : Nm "gone_on" := ⟨by decide +kernel, by decide +kernel, by decide +kernel⟩
theorem nm_oldest : Nm "oldest" := ⟨by decide +kernel, by decide +kernel, by decide +kernel⟩
theorem nm_len : Nm "len" := ⟨by decide +kernel, by decide +kernel, by decide +kernel⟩
theorem nm_keeper : Nm "keeper" := ⟨by decide +kernel, by decide +kernel, by decide +kernel⟩
theorem nm_NoKeeper : Nm "NoKeeper" := ⟨by decide +kernel, by decide +kernel, by decide +kernel⟩
theorem nm_max : Nm "max" := ⟨by decide +kernel, by decide +kernel, by decide +kernel⟩
theorem nm_end : Nm "end" := ⟨by decide +kernel, by decide +kernel, by decide +kernel⟩
theorem nm_sorted : Nm "sorted" := ⟨by decide +kernel, by decide +kernel, by decide +kernel⟩
theorem nm_NotAsked : Nm "NotAsked" := ⟨by decide +kernel, by decide +kernel, by decide +kernel⟩
theorem nm_low : Nm "low" := ⟨by decide +kernel, by decide +kernel, by decide +kernel⟩
theorem nm_high : Nm "high" := ⟨by decide +kernel, by decide +kernel, by decide +kernel⟩
theorem nm_MOST_STEP : Nm "MOST_STEP" := ⟨by decide +kernel, by decide +kernel, by decide +kernel⟩
theorem nm_BadTerms : Nm "BadTerms" := ⟨by decide +kernel, by decide +kernel, by decide +kernel⟩
theorem nm_length : Nm "length" := ⟨by decide +kernel, by decide +kernel, by decide +kernel⟩
theorem nm_MOST_LENGTH : Nm "MOST_LENGTH" := ⟨by decide +kernel, by decide +kernel, by decide +kernel⟩
theorem nm_keepers : Nm "keepers" := ⟨by decide +kernel, by decide +kernel, by decide +kernel⟩
theorem nm_MOST_KEEPERS : Nm "MOST_KEEPERS" := ⟨by decide +kernel, by decide +kernel, by decide +kernel⟩
theorem nm_refuse_bad_steps : Nm "refuse_bad_steps" := ⟨by decide +kernel, by decide +kernel, by decide +kernel⟩
theorem nm_refuse_bad_length : Nm "refuse_bad_length" := ⟨by decide +kernel, by decide +kernel, by decide +kernel⟩
theorem nm_refuse_bad_keepers : Nm "refuse_bad_keepers" := ⟨by decide +kernel, by decide +kernel, by decide +kernel⟩
theorem nm__law_script : Nm "_law_script" := ⟨by decide +kernel, by decide +kernel, by decide +kernel⟩
theorem nm__law_k : Nm "_law_k" := ⟨by decide +kernel, by decide +kernel, by decide +kernel⟩
theorem nm__law_number : Nm "_law_number" := ⟨by decide +kernel, by decide +kernel, by decide +kernel⟩
theorem nm__law_cell : Nm "_law_cell" := ⟨by decide +kernel, by decide +kernel, by decide +kernel⟩
theorem nm__law_low : Nm "_law_low" := ⟨by decide +kernel, by decide +kernel, by decide +kernel⟩
theorem nm__law_high : Nm "_law_high" := ⟨by decide +kernel, by decide +kernel, by decide +kernel⟩
theorem nm__law_length : Nm "_law_length" := ⟨by decide +kernel, by decide +kernel, by decide +kernel⟩
theorem nm__law_mix : Nm "_law_mix" := ⟨by decide +kernel, by decide +kernel, by decide +kernel⟩
theorem nm__law_terms_here : Nm "_law_terms_here" := ⟨by decide +kernel, by decide +kernel, by decide +kernel⟩
theorem nm__law_ticks_here : Nm "_law_ticks_here" := ⟨by decide +kernel, by decide +kernel, by decide +kernel⟩
theorem nm__law_clocks : Nm "_law_clocks" := ⟨by decide +kernel, by decide +kernel, by decide +kernel⟩
theorem nm__law_many : Nm "_law_many" := ⟨by decide +kernel, by decide +kernel, by decide +kernel⟩
theorem nm__law_way : Nm "_law_way" := ⟨by decide +kernel, by decide +kernel, by decide +kernel⟩
theorem nm__law_j : Nm "_law_j" := ⟨by decide +kernel, by decide +kernel, by decide +kernel⟩
theorem nm__law_step : Nm "_law_step" := ⟨by decide +kernel, by decide +kernel, by decide +kernel⟩
theorem nm_int : Nm "int" := ⟨by decide +kernel, by decide +kernel, by decide +kernel⟩
theorem nm__law_message : Nm "_law_message" := ⟨by decide +kernel, by decide +kernel, by decide +kernel⟩
theorem nm__law_town : Nm "_law_town" := ⟨by decide +kernel, by decide +kernel, by decide +kernel⟩
theorem nm__law_keep : Nm "_law_keep" := ⟨by decide +kernel, by decide +kernel, by decide +kernel⟩
theorem nm__law_kind : Nm "_law_kind" := ⟨by decide +kernel, by decide +kernel, by decide +kernel⟩
theorem nm__law_keeper : Nm "_law_keeper" := ⟨by decide +kernel, by decide +kernel, by decide +kernel⟩
theorem nm__law_name : Nm "_law_name" := ⟨by decide +kernel, by decide +kernel, by decide +kernel⟩
theorem nm__law_made : Nm "_law_made" := ⟨by decide +kernel, by decide +kernel, by decide +kernel⟩
theorem nm__law_at : Nm "_law_at" := ⟨by decide +kernel, by decide +kernel, by decide +kernel⟩
theorem nm_Keeper : Nm "Keeper" := ⟨by decide +kernel, by decide +kernel, by decide +kernel⟩
theorem nm_Holder : Nm "Holder" := ⟨by decide +kernel, by decide +kernel, by decide +kernel⟩
theorem nm__law_hold : Nm "_law_hold" := ⟨by decide +kernel, by decide +kernel, by decide +kernel⟩
theorem nm__law_clock : Nm "_law_clock" := ⟨by decide +kernel, by decide +kernel, by decide +kernel⟩
theorem nm__law_holds : Nm "_law_holds" := ⟨by decide +kernel, by decide +kernel, by decide +kernel⟩
theorem nm__law_until : Nm "_law_until" := ⟨by decide +kernel, by decide +kernel, by decide +kernel⟩
theorem nm__law_one : Nm "_law_one" := ⟨by decide +kernel, by decide +kernel, by decide +kernel⟩
theorem nm__law_ticks : Nm "_law_ticks" := ⟨by decide +kernel, by decide +kernel, by decide +kernel⟩
theorem nm__law_wait : Nm "_law_wait" := ⟨by decide +kernel, by decide +kernel, by decide +kernel⟩
theorem nm__law_holders : Nm "_law_holders" := ⟨by decide +kernel, by decide +kernel, by decide +kernel⟩
theorem nm__law_last : Nm "_law_last" := ⟨by decide +kernel, by decide +kernel, by decide +kernel⟩
theorem nm__law_terms : Nm "_law_terms" := ⟨by decide +kernel, by decide +kernel, by decide +kernel⟩
theorem nm_Terms : Nm "Terms" := ⟨by decide +kernel, by decide +kernel, by decide +kernel⟩
theorem nm__law_scene : Nm "_law_scene" := ⟨by decide +kernel, by decide +kernel, by decide +kernel⟩
theorem nm__law_to_all : Nm "_law_to_all" := ⟨by decide +kernel, by decide +kernel, by decide +kernel⟩
theorem nm__law_anew : Nm "_law_anew" := ⟨by decide +kernel, by decide +kernel, by decide +kernel⟩
theorem nm__law_come : Nm "_law_come" := ⟨by decide +kernel, by decide +kernel, by decide +kernel⟩
theorem nm_min : Nm "min" := ⟨by decide +kernel, by decide +kernel, by decide +kernel⟩
def flds_Holder (v_length v_needed v_name v_life v_latest v_told v_asks v_ends : V) : List (Str × V) := [("length", v_length), ("needed", v_needed), ("name", v_name), ("life", v_life), ("latest", v_latest), ("told", v_told), ("asks", v_asks), ("ends", v_ends)]
section
variable {v_length v_needed v_name v_life v_latest v_told v_asks v_ends : V}
theorem get_Holder_length : (flds_Holder v_length v_needed v_name v_life v_latest v_told v_asks v_ends).lookup ("length" : Str) = some v_length := by rfl
theorem get_Holder_needed : (flds_Holder v_length v_needed v_name v_life v_latest v_told v_asks v_ends).lookup ("needed" : Str) = some v_needed := by rfl
theorem get_Holder_life : (flds_Holder v_length v_needed v_name v_life v_latest v_told v_asks v_ends).lookup ("life" : Str) = some v_life := by rfl
theorem get_Holder_latest : (flds_Holder v_length v_needed v_name v_life v_latest v_told v_asks v_ends).lookup ("latest" : Str) = some v_latest := by rfl
theorem put_Holder_latest {y : V} : putF "latest" y (flds_Holder v_length v_needed v_name v_life v_latest v_told v_asks v_ends) = flds_Holder v_length v_needed v_name v_life y v_told v_asks v_ends := by rfl
theorem get_Holder_told : (flds_Holder v_length v_needed v_name v_life v_latest v_told v_asks v_ends).lookup ("told" : Str) = some v_told := by rfl
theorem put_Holder_told {y : V} : putF "told" y (flds_Holder v_length v_needed v_name v_life v_latest v_told v_asks v_ends) = flds_Holder v_length v_needed v_name v_life v_latest y v_asks v_ends := by rfl
theorem get_Holder_asks : (flds_Holder v_length v_needed v_name v_life v_latest v_told v_asks v_ends).lookup ("asks" : Str) = some v_asks := by rfl
theorem put_Holder_asks {y : V} : putF "asks" y (flds_Holder v_length v_needed v_name v_life v_latest v_told v_asks v_ends) = flds_Holder v_length v_needed v_name v_life v_latest v_told y v_ends := by rfl
theorem get_Holder_ends : (flds_Holder v_length v_needed v_name v_life v_latest v_told v_asks v_ends).lookup ("ends" : Str) = some v_ends := by rfl
theorem put_Holder_ends {y : V} : putF "ends" y (flds_Holder v_length v_needed v_name v_life v_latest v_told v_asks v_ends) = flds_Holder v_length v_needed v_name v_life v_latest v_told v_asks y := by rfl
theorem no_Holder_ask : (flds_Holder v_length v_needed v_name v_life v_latest v_told v_asks v_ends).lookup ("ask" : Str) = none := by rfl
theorem no_Holder_forget_over : (flds_Holder v_length v_needed v_name v_life v_latest v_told v_asks v_ends).lookup ("forget_over" : Str) = none := by rfl
theorem no_Holder_hear : (flds_Holder v_length v_needed v_name v_life v_latest v_told v_asks v_ends).lookup ("hear" : Str) = none := by rfl
theorem no_Holder_holds : (flds_Holder v_length v_needed v_name v_life v_latest v_told v_asks v_ends).lookup ("holds" : Str) = none := by rfl
theorem no_Holder_until : (flds_Holder v_length v_needed v_name v_life v_latest v_told v_asks v_ends).lookup ("until" : Str) = none := by rfl
theorem no_Holder_free : (flds_Holder v_length v_needed v_name v_life v_latest v_told v_asks v_ends).lookup ("free" : Str) = none := by rfl
end
def flds_Keeper (v_pause v_latest v_name v_number v_over : V) : List (Str × V) := [("pause", v_pause), ("latest", v_latest), ("name", v_name), ("number", v_number), ("over", v_over)]
section
variable {v_pause v_latest v_name v_number v_over : V}
theorem get_Keeper_pause : (flds_Keeper v_pause v_latest v_name v_number v_over).lookup ("pause" : Str) = some v_pause := by rfl
theorem get_Keeper_latest : (flds_Keeper v_pause v_latest v_name v_number v_over).lookup ("latest" : Str) = some v_latest := by rfl
theorem put_Keeper_latest {y : V} : putF "latest" y (flds_Keeper v_pause v_latest v_name v_number v_over) = flds_Keeper v_pause y v_name v_number v_over := by rfl
theorem get_Keeper_name : (flds_Keeper v_pause v_latest v_name v_number v_over).lookup ("name" : Str) = some v_name := by rfl
theorem put_Keeper_name {y : V} : putF "name" y (flds_Keeper v_pause v_latest v_name v_number v_over) = flds_Keeper v_pause v_latest y v_number v_over := by rfl
theorem get_Keeper_number : (flds_Keeper v_pause v_latest v_name v_number v_over).lookup ("number" : Str) = some v_number := by rfl
theorem put_Keeper_number {y : V} : putF "number" y (flds_Keeper v_pause v_latest v_name v_number v_over) = flds_Keeper v_pause v_latest v_name y v_over := by rfl
theorem get_Keeper_over : (flds_Keeper v_pause v_latest v_name v_number v_over).lookup ("over" : Str) = some v_over := by rfl
theorem put_Keeper_over {y : V} : putF "over" y (flds_Keeper v_pause v_latest v_name v_number v_over) = flds_Keeper v_pause v_latest v_name v_number y := by rfl
end
def flds_Terms (v_low v_high v_length v_keepers : V) : List (Str × V) := [("low", v_low), ("high", v_high), ("length", v_length), ("keepers", v_keepers)]
section
variable {v_low v_high v_length v_keepers : V}
theorem get_Terms_low : (flds_Terms v_low v_high v_length v_keepers).lookup ("low" : Str) = some v_low := by rfl
theorem get_Terms_high : (flds_Terms v_low v_high v_length v_keepers).lookup ("high" : Str) = some v_high := by rfl
theorem get_Terms_length : (flds_Terms v_low v_high v_length v_keepers).lookup ("length" : Str) = some v_length := by rfl
theorem get_Terms_keepers : (flds_Terms v_low v_high v_length v_keepers).lookup ("keepers" : Str) = some v_keepers := by rfl
theorem no_Terms_ticks : (flds_Terms v_low v_high v_length v_keepers).lookup ("ticks" : Str) = none := by rfl
theorem no_Terms_wait : (flds_Terms v_low v_high v_length v_keepers).lookup ("wait" : Str) = none := by rfl
theorem no_Terms_most : (flds_Terms v_low v_high v_length v_keepers).lookup ("most" : Str) = none := by rfl
end
structure Adr where
  f_wall : Addr
  d_wall : FuncData
  f_gone_on : Addr
  d_gone_on : FuncData
  f_Holder_init : Addr
  d_Holder_init : FuncData
  f_Holder_ask : Addr
  d_Holder_ask : FuncData
  f_Holder_forget_over : Addr
  d_Holder_forget_over : FuncData
  f_Holder_hear : Addr
  d_Holder_hear : FuncData
  f_Holder_holds : Addr
  d_Holder_holds : FuncData
  f_Holder_until : Addr
  d_Holder_until : FuncData
  f_Holder_free : Addr
  d_Holder_free : FuncData
  f_Keeper_init : Addr
  d_Keeper_init : FuncData
  f_Keeper_asked : Addr
  d_Keeper_asked : FuncData
  f_Keeper_freed : Addr
  d_Keeper_freed : FuncData
  f_refuse_bad_steps : Addr
  d_refuse_bad_steps : FuncData
  f_refuse_bad_length : Addr
  d_refuse_bad_length : FuncData
  f_refuse_bad_keepers : Addr
  d_refuse_bad_keepers : FuncData
  f_Terms_init : Addr
  d_Terms_init : FuncData
  f_Terms_ticks : Addr
  d_Terms_ticks : FuncData
  f_Terms_wait : Addr
  d_Terms_wait : FuncData
  f_Terms_most : Addr
  d_Terms_most : FuncData
  f_law_cell : Addr
  d_law_cell : FuncData
  f_law_mix : Addr
  d_law_mix : FuncData
  f_law_terms : Addr
  d_law_terms : FuncData
  f_law_wait : Addr
  d_law_wait : FuncData
  f_law_ticks : Addr
  d_law_ticks : FuncData
  f_law_come : Addr
  d_law_come : FuncData
  f_law_to_all : Addr
  d_law_to_all : FuncData
  f_law_anew : Addr
  d_law_anew : FuncData
  f_law_one : Addr
  d_law_one : FuncData
  f_law_scene : Addr
  d_law_scene : FuncData
  f_law : Addr
  d_law : FuncData
  Holder : Addr
  Keeper : Addr
  Terms : Addr
  LeaseError : Addr
  BadTerms : Addr
  Back : Addr
  NoKeeper : Addr
  NotAsked : Addr
structure Txt (K : PySem.W.Frag) (mg : Str → Option Value) (t : Adr) : Prop where
  F_wall : Fun K "_wall" "_wall" s_wall t.f_wall t.d_wall
  b_wall : Binds K t.d_wall ["k"] []
  m_wall : mg "_wall" = some (.ref t.f_wall)
  F_gone_on : Fun K "gone_on" "gone_on" s_gone_on t.f_gone_on t.d_gone_on
  b_gone_on : Binds K t.d_gone_on ["latest", "clock"] []
  m_gone_on : mg "gone_on" = some (.ref t.f_gone_on)
  F_Holder_init : Fun K "__init__" "Holder.__init__" s_Holder_init t.f_Holder_init t.d_Holder_init
  b_Holder_init : Binds K t.d_Holder_init ["self", "terms", "name", "life", "clock"] []
  F_Holder_ask : Fun K "ask" "Holder.ask" s_Holder_ask t.f_Holder_ask t.d_Holder_ask
  b_Holder_ask : Binds K t.d_Holder_ask ["self", "clock"] []
  h_Holder_ask : Meth K t.Holder "ask" t.f_Holder_ask
  F_Holder_forget_over : Fun K "forget_over" "Holder.forget_over" s_Holder_forget_over t.f_Holder_forget_over t.d_Holder_forget_over
  b_Holder_forget_over : Binds K t.d_Holder_forget_over ["self", "clock"] []
  h_Holder_forget_over : Meth K t.Holder "forget_over" t.f_Holder_forget_over
  F_Holder_hear : Fun K "hear" "Holder.hear" s_Holder_hear t.f_Holder_hear t.d_Holder_hear
  b_Holder_hear : Binds K t.d_Holder_hear ["self", "clock", "keeper", "number"] []
  h_Holder_hear : Meth K t.Holder "hear" t.f_Holder_hear
  F_Holder_holds : Fun K "holds" "Holder.holds" s_Holder_holds t.f_Holder_holds t.d_Holder_holds
  b_Holder_holds : Binds K t.d_Holder_holds ["self", "clock"] []
  h_Holder_holds : Meth K t.Holder "holds" t.f_Holder_holds
  F_Holder_until : Fun K "until" "Holder.until" s_Holder_until t.f_Holder_until t.d_Holder_until
  b_Holder_until : Binds K t.d_Holder_until ["self", "clock"] []
  h_Holder_until : Meth K t.Holder "until" t.f_Holder_until
  F_Holder_free : Fun K "free" "Holder.free" s_Holder_free t.f_Holder_free t.d_Holder_free
  b_Holder_free : Binds K t.d_Holder_free ["self", "clock"] []
  h_Holder_free : Meth K t.Holder "free" t.f_Holder_free
  F_Keeper_init : Fun K "__init__" "Keeper.__init__" s_Keeper_init t.f_Keeper_init t.d_Keeper_init
  b_Keeper_init : Binds K t.d_Keeper_init ["self", "terms", "clock"] []
  F_Keeper_asked : Fun K "asked" "Keeper.asked" s_Keeper_asked t.f_Keeper_asked t.d_Keeper_asked
  b_Keeper_asked : Binds K t.d_Keeper_asked ["self", "clock", "name", "number"] []
  h_Keeper_asked : Meth K t.Keeper "asked" t.f_Keeper_asked
  F_Keeper_freed : Fun K "freed" "Keeper.freed" s_Keeper_freed t.f_Keeper_freed t.d_Keeper_freed
  b_Keeper_freed : Binds K t.d_Keeper_freed ["self", "clock", "name", "number"] []
  h_Keeper_freed : Meth K t.Keeper "freed" t.f_Keeper_freed
  F_refuse_bad_steps : Fun K "refuse_bad_steps" "refuse_bad_steps" s_refuse_bad_steps t.f_refuse_bad_steps t.d_refuse_bad_steps
  b_refuse_bad_steps : Binds K t.d_refuse_bad_steps ["low", "high"] []
  m_refuse_bad_steps : mg "refuse_bad_steps" = some (.ref t.f_refuse_bad_steps)
  F_refuse_bad_length : Fun K "refuse_bad_length" "refuse_bad_length" s_refuse_bad_length t.f_refuse_bad_length t.d_refuse_bad_length
  b_refuse_bad_length : Binds K t.d_refuse_bad_length ["length"] []
  m_refuse_bad_length : mg "refuse_bad_length" = some (.ref t.f_refuse_bad_length)
  F_refuse_bad_keepers : Fun K "refuse_bad_keepers" "refuse_bad_keepers" s_refuse_bad_keepers t.f_refuse_bad_keepers t.d_refuse_bad_keepers
  b_refuse_bad_keepers : Binds K t.d_refuse_bad_keepers ["keepers"] []
  m_refuse_bad_keepers : mg "refuse_bad_keepers" = some (.ref t.f_refuse_bad_keepers)
  F_Terms_init : Fun K "__init__" "Terms.__init__" s_Terms_init t.f_Terms_init t.d_Terms_init
  b_Terms_init : Binds K t.d_Terms_init ["self", "low", "high", "length", "keepers"] []
  F_Terms_ticks : Fun K "ticks" "Terms.ticks" s_Terms_ticks t.f_Terms_ticks t.d_Terms_ticks
  b_Terms_ticks : Binds K t.d_Terms_ticks ["self"] []
  h_Terms_ticks : Meth K t.Terms "ticks" t.f_Terms_ticks
  F_Terms_wait : Fun K "wait" "Terms.wait" s_Terms_wait t.f_Terms_wait t.d_Terms_wait
  b_Terms_wait : Binds K t.d_Terms_wait ["self"] []
  h_Terms_wait : Meth K t.Terms "wait" t.f_Terms_wait
  F_Terms_most : Fun K "most" "Terms.most" s_Terms_most t.f_Terms_most t.d_Terms_most
  b_Terms_most : Binds K t.d_Terms_most ["self"] []
  h_Terms_most : Meth K t.Terms "most" t.f_Terms_most
  F_law_cell : Fun K "_law_cell" "_law_cell" s_law_cell t.f_law_cell t.d_law_cell
  b_law_cell : Binds K t.d_law_cell ["_law_script", "_law_k"] []
  m_law_cell : mg "_law_cell" = some (.ref t.f_law_cell)
  F_law_mix : Fun K "_law_mix" "_law_mix" s_law_mix t.f_law_mix t.d_law_mix
  b_law_mix : Binds K t.d_law_mix ["_law_script", "_law_k"] []
  m_law_mix : mg "_law_mix" = some (.ref t.f_law_mix)
  F_law_terms : Fun K "_law_terms" "_law_terms" s_law_terms t.f_law_terms t.d_law_terms
  b_law_terms : Binds K t.d_law_terms ["_law_script", "_law_k"] []
  m_law_terms : mg "_law_terms" = some (.ref t.f_law_terms)
  F_law_wait : Fun K "_law_wait" "_law_wait" s_law_wait t.f_law_wait t.d_law_wait
  b_law_wait : Binds K t.d_law_wait ["_law_terms_here"] []
  m_law_wait : mg "_law_wait" = some (.ref t.f_law_wait)
  F_law_ticks : Fun K "_law_ticks" "_law_ticks" s_law_ticks t.f_law_ticks t.d_law_ticks
  b_law_ticks : Binds K t.d_law_ticks ["_law_script", "_law_k", "_law_terms_here", "_law_clocks", "_law_many"] []
  m_law_ticks : mg "_law_ticks" = some (.ref t.f_law_ticks)
  F_law_come : Fun K "_law_come" "_law_come" s_law_come t.f_law_come t.d_law_come
  b_law_come : Binds K t.d_law_come ["_law_message", "_law_town", "_law_keep"] []
  m_law_come : mg "_law_come" = some (.ref t.f_law_come)
  F_law_to_all : Fun K "_law_to_all" "_law_to_all" s_law_to_all t.f_law_to_all t.d_law_to_all
  b_law_to_all : Binds K t.d_law_to_all ["_law_town", "_law_kind", "_law_name", "_law_number"] []
  m_law_to_all : mg "_law_to_all" = some (.ref t.f_law_to_all)
  F_law_anew : Fun K "_law_anew" "_law_anew" s_law_anew t.f_law_anew t.d_law_anew
  b_law_anew : Binds K t.d_law_anew ["_law_town", "_law_made", "_law_number"] []
  m_law_anew : mg "_law_anew" = some (.ref t.f_law_anew)
  F_law_one : Fun K "_law_one" "_law_one" s_law_one t.f_law_one t.d_law_one
  b_law_one : Binds K t.d_law_one ["_law_town"] []
  m_law_one : mg "_law_one" = some (.ref t.f_law_one)
  F_law_scene : Fun K "_law_scene" "_law_scene" s_law_scene t.f_law_scene t.d_law_scene
  b_law_scene : Binds K t.d_law_scene ["_law_script", "_law_town", "_law_terms_here", "_law_made"] []
  m_law_scene : mg "_law_scene" = some (.ref t.f_law_scene)
  F_law : Fun K "law" "law" s_law t.f_law t.d_law
  b_law : Binds K t.d_law ["_law_script"] []
  m_law : mg "law" = some (.ref t.f_law)
  m_Holder : mg "Holder" = some (.ref t.Holder)
  cl_Holder : Cls K t.Holder
  k_Holder : Mk K t.Holder t.f_Holder_init
  nf_Holder_length : NoAttr K t.Holder "length"
  nf_Holder_needed : NoAttr K t.Holder "needed"
  nf_Holder_name : NoAttr K t.Holder "name"
  nf_Holder_life : NoAttr K t.Holder "life"
  nf_Holder_latest : NoAttr K t.Holder "latest"
  nf_Holder_told : NoAttr K t.Holder "told"
  nf_Holder_asks : NoAttr K t.Holder "asks"
  nf_Holder_ends : NoAttr K t.Holder "ends"
  m_Keeper : mg "Keeper" = some (.ref t.Keeper)
  cl_Keeper : Cls K t.Keeper
  k_Keeper : Mk K t.Keeper t.f_Keeper_init
  nf_Keeper_pause : NoAttr K t.Keeper "pause"
  nf_Keeper_latest : NoAttr K t.Keeper "latest"
  nf_Keeper_name : NoAttr K t.Keeper "name"
  nf_Keeper_number : NoAttr K t.Keeper "number"
  nf_Keeper_over : NoAttr K t.Keeper "over"
  m_Terms : mg "Terms" = some (.ref t.Terms)
  cl_Terms : Cls K t.Terms
  k_Terms : Mk K t.Terms t.f_Terms_init
  nf_Terms_low : NoAttr K t.Terms "low"
  nf_Terms_high : NoAttr K t.Terms "high"
  nf_Terms_length : NoAttr K t.Terms "length"
  nf_Terms_keepers : NoAttr K t.Terms "keepers"
  m_LeaseError : mg "LeaseError" = some (.ref t.LeaseError)
  n_LeaseError : PySem.W.nsIn K mainGlobals "LeaseError" = some (some (.ref t.LeaseError))
  x_LeaseError : PySem.W.excIn K t.LeaseError [.type "ValueError", .type "Exception", .type "BaseException", .type "object"] "ValueError.__new__" = true
  m_BadTerms : mg "BadTerms" = some (.ref t.BadTerms)
  n_BadTerms : PySem.W.nsIn K mainGlobals "BadTerms" = some (some (.ref t.BadTerms))
  x_BadTerms : PySem.W.excIn K t.BadTerms [.type "ValueError", .type "Exception", .type "BaseException", .type "object"] "ValueError.__new__" = true
  m_Back : mg "Back" = some (.ref t.Back)
  n_Back : PySem.W.nsIn K mainGlobals "Back" = some (some (.ref t.Back))
  x_Back : PySem.W.excIn K t.Back [.type "ValueError", .type "Exception", .type "BaseException", .type "object"] "ValueError.__new__" = true
  m_NoKeeper : mg "NoKeeper" = some (.ref t.NoKeeper)
  n_NoKeeper : PySem.W.nsIn K mainGlobals "NoKeeper" = some (some (.ref t.NoKeeper))
  x_NoKeeper : PySem.W.excIn K t.NoKeeper [.type "ValueError", .type "Exception", .type "BaseException", .type "object"] "ValueError.__new__" = true
  m_NotAsked : mg "NotAsked" = some (.ref t.NotAsked)
  n_NotAsked : PySem.W.nsIn K mainGlobals "NotAsked" = some (some (.ref t.NotAsked))
  x_NotAsked : PySem.W.excIn K t.NotAsked [.type "ValueError", .type "Exception", .type "BaseException", .type "object"] "ValueError.__new__" = true
  m_MOST_STEP : ∃ u, mg "MOST_STEP" = some (.int 1000 u)
  m_MOST_LENGTH : ∃ u, mg "MOST_LENGTH" = some (.int 1000000 u)
  m_MOST_KEEPERS : ∃ u, mg "MOST_KEEPERS" = some (.int 9 u)
  z_int : mg "int" = none
  z_len : mg "len" = none
  z_max : mg "max" = none
  z_min : mg "min" = none
  z_range : mg "range" = none
  z_sorted : mg "sorted" = none
section
variable {K : PySem.W.Frag} {mg : Str → Option Value} {t : Adr} {H : Hp} {p dx : Addr} {Q : VK} {Q1 : Hp → Prop} {Q0 : Prop} {y : V}
section
variable {v_length v_needed v_name v_life v_latest v_told v_asks v_ends : V}
theorem rd_Holder_length (T : Txt K mg t) (hp : H p = some (.ins t.Holder dx (flds_Holder v_length v_needed v_name v_life v_latest v_told v_asks v_ends))) (q : Q v_length H) : rFld K "length" (.ref p) H Q := rd_fld hp T.cl_Holder T.nf_Holder_length get_Holder_length q
theorem rd_Holder_needed (T : Txt K mg t) (hp : H p = some (.ins t.Holder dx (flds_Holder v_length v_needed v_name v_life v_latest v_told v_asks v_ends))) (q : Q v_needed H) : rFld K "needed" (.ref p) H Q := rd_fld hp T.cl_Holder T.nf_Holder_needed get_Holder_needed q
theorem rd_Holder_life (T : Txt K mg t) (hp : H p = some (.ins t.Holder dx (flds_Holder v_length v_needed v_name v_life v_latest v_told v_asks v_ends))) (q : Q v_life H) : rFld K "life" (.ref p) H Q := rd_fld hp T.cl_Holder T.nf_Holder_life get_Holder_life q
theorem rd_Holder_latest (T : Txt K mg t) (hp : H p = some (.ins t.Holder dx (flds_Holder v_length v_needed v_name v_life v_latest v_told v_asks v_ends))) (q : Q v_latest H) : rFld K "latest" (.ref p) H Q := rd_fld hp T.cl_Holder T.nf_Holder_latest get_Holder_latest q
theorem st_Holder_latest (T : Txt K mg t) (hp : H p = some (.ins t.Holder dx (flds_Holder v_length v_needed v_name v_life v_latest v_told v_asks v_ends))) (q : Q1 (upd H p (.ins t.Holder dx (flds_Holder v_length v_needed v_name v_life y v_told v_asks v_ends)))) : rPutF K "latest" y (.ref p) H Q1 := rd_put hp T.cl_Holder T.nf_Holder_latest (by decide : 8 < 1000) (by rw [put_Holder_latest]; exact q)
theorem rd_Holder_told (T : Txt K mg t) (hp : H p = some (.ins t.Holder dx (flds_Holder v_length v_needed v_name v_life v_latest v_told v_asks v_ends))) (q : Q v_told H) : rFld K "told" (.ref p) H Q := rd_fld hp T.cl_Holder T.nf_Holder_told get_Holder_told q
theorem rd_Holder_asks (T : Txt K mg t) (hp : H p = some (.ins t.Holder dx (flds_Holder v_length v_needed v_name v_life v_latest v_told v_asks v_ends))) (q : Q v_asks H) : rFld K "asks" (.ref p) H Q := rd_fld hp T.cl_Holder T.nf_Holder_asks get_Holder_asks q
theorem st_Holder_asks (T : Txt K mg t) (hp : H p = some (.ins t.Holder dx (flds_Holder v_length v_needed v_name v_life v_latest v_told v_asks v_ends))) (q : Q1 (upd H p (.ins t.Holder dx (flds_Holder v_length v_needed v_name v_life v_latest v_told y v_ends)))) : rPutF K "asks" y (.ref p) H Q1 := rd_put hp T.cl_Holder T.nf_Holder_asks (by decide : 8 < 1000) (by rw [put_Holder_asks]; exact q)
theorem rd_Holder_ends (T : Txt K mg t) (hp : H p = some (.ins t.Holder dx (flds_Holder v_length v_needed v_name v_life v_latest v_told v_asks v_ends))) (q : Q v_ends H) : rFld K "ends" (.ref p) H Q := rd_fld hp T.cl_Holder T.nf_Holder_ends get_Holder_ends q
theorem st_Holder_ends (T : Txt K mg t) (hp : H p = some (.ins t.Holder dx (flds_Holder v_length v_needed v_name v_life v_latest v_told v_asks v_ends))) (q : Q1 (upd H p (.ins t.Holder dx (flds_Holder v_length v_needed v_name v_life v_latest v_told v_asks y)))) : rPutF K "ends" y (.ref p) H Q1 := rd_put hp T.cl_Holder T.nf_Holder_ends (by decide : 8 < 1000) (by rw [put_Holder_ends]; exact q)
theorem me_Holder_forget_over (hp : H p = some (.ins t.Holder dx (flds_Holder v_length v_needed v_name v_life v_latest v_told v_asks v_ends))) (q : Q0) : rMeth t.Holder "forget_over" (.ref p) H Q0 := rd_meth hp no_Holder_forget_over q
theorem me_Holder_until (hp : H p = some (.ins t.Holder dx (flds_Holder v_length v_needed v_name v_life v_latest v_told v_asks v_ends))) (q : Q0) : rMeth t.Holder "until" (.ref p) H Q0 := rd_meth hp no_Holder_until q
end
section
variable {v_pause v_latest v_name v_number v_over : V}
theorem rd_Keeper_pause (T : Txt K mg t) (hp : H p = some (.ins t.Keeper dx (flds_Keeper v_pause v_latest v_name v_number v_over))) (q : Q v_pause H) : rFld K "pause" (.ref p) H Q := rd_fld hp T.cl_Keeper T.nf_Keeper_pause get_Keeper_pause q
theorem rd_Keeper_latest (T : Txt K mg t) (hp : H p = some (.ins t.Keeper dx (flds_Keeper v_pause v_latest v_name v_number v_over))) (q : Q v_latest H) : rFld K "latest" (.ref p) H Q := rd_fld hp T.cl_Keeper T.nf_Keeper_latest get_Keeper_latest q
theorem st_Keeper_latest (T : Txt K mg t) (hp : H p = some (.ins t.Keeper dx (flds_Keeper v_pause v_latest v_name v_number v_over))) (q : Q1 (upd H p (.ins t.Keeper dx (flds_Keeper v_pause y v_name v_number v_over)))) : rPutF K "latest" y (.ref p) H Q1 := rd_put hp T.cl_Keeper T.nf_Keeper_latest (by decide : 5 < 1000) (by rw [put_Keeper_latest]; exact q)
theorem rd_Keeper_name (T : Txt K mg t) (hp : H p = some (.ins t.Keeper dx (flds_Keeper v_pause v_latest v_name v_number v_over))) (q : Q v_name H) : rFld K "name" (.ref p) H Q := rd_fld hp T.cl_Keeper T.nf_Keeper_name get_Keeper_name q
theorem st_Keeper_name (T : Txt K mg t) (hp : H p = some (.ins t.Keeper dx (flds_Keeper v_pause v_latest v_name v_number v_over))) (q : Q1 (upd H p (.ins t.Keeper dx (flds_Keeper v_pause v_latest y v_number v_over)))) : rPutF K "name" y (.ref p) H Q1 := rd_put hp T.cl_Keeper T.nf_Keeper_name (by decide : 5 < 1000) (by rw [put_Keeper_name]; exact q)
theorem rd_Keeper_number (T : Txt K mg t) (hp : H p = some (.ins t.Keeper dx (flds_Keeper v_pause v_latest v_name v_number v_over))) (q : Q v_number H) : rFld K "number" (.ref p) H Q := rd_fld hp T.cl_Keeper T.nf_Keeper_number get_Keeper_number q
theorem st_Keeper_number (T : Txt K mg t) (hp : H p = some (.ins t.Keeper dx (flds_Keeper v_pause v_latest v_name v_number v_over))) (q : Q1 (upd H p (.ins t.Keeper dx (flds_Keeper v_pause v_latest v_name y v_over)))) : rPutF K "number" y (.ref p) H Q1 := rd_put hp T.cl_Keeper T.nf_Keeper_number (by decide : 5 < 1000) (by rw [put_Keeper_number]; exact q)
theorem rd_Keeper_over (T : Txt K mg t) (hp : H p = some (.ins t.Keeper dx (flds_Keeper v_pause v_latest v_name v_number v_over))) (q : Q v_over H) : rFld K "over" (.ref p) H Q := rd_fld hp T.cl_Keeper T.nf_Keeper_over get_Keeper_over q
theorem st_Keeper_over (T : Txt K mg t) (hp : H p = some (.ins t.Keeper dx (flds_Keeper v_pause v_latest v_name v_number v_over))) (q : Q1 (upd H p (.ins t.Keeper dx (flds_Keeper v_pause v_latest v_name v_number y)))) : rPutF K "over" y (.ref p) H Q1 := rd_put hp T.cl_Keeper T.nf_Keeper_over (by decide : 5 < 1000) (by rw [put_Keeper_over]; exact q)
end
section
variable {v_low v_high v_length v_keepers : V}
theorem rd_Terms_low (T : Txt K mg t) (hp : H p = some (.ins t.Terms dx (flds_Terms v_low v_high v_length v_keepers))) (q : Q v_low H) : rFld K "low" (.ref p) H Q := rd_fld hp T.cl_Terms T.nf_Terms_low get_Terms_low q
theorem rd_Terms_high (T : Txt K mg t) (hp : H p = some (.ins t.Terms dx (flds_Terms v_low v_high v_length v_keepers))) (q : Q v_high H) : rFld K "high" (.ref p) H Q := rd_fld hp T.cl_Terms T.nf_Terms_high get_Terms_high q
theorem rd_Terms_length (T : Txt K mg t) (hp : H p = some (.ins t.Terms dx (flds_Terms v_low v_high v_length v_keepers))) (q : Q v_length H) : rFld K "length" (.ref p) H Q := rd_fld hp T.cl_Terms T.nf_Terms_length get_Terms_length q
theorem rd_Terms_keepers (T : Txt K mg t) (hp : H p = some (.ins t.Terms dx (flds_Terms v_low v_high v_length v_keepers))) (q : Q v_keepers H) : rFld K "keepers" (.ref p) H Q := rd_fld hp T.cl_Terms T.nf_Terms_keepers get_Terms_keepers q
theorem me_Terms_ticks (hp : H p = some (.ins t.Terms dx (flds_Terms v_low v_high v_length v_keepers))) (q : Q0) : rMeth t.Terms "ticks" (.ref p) H Q0 := rd_meth hp no_Terms_ticks q
theorem me_Terms_wait (hp : H p = some (.ins t.Terms dx (flds_Terms v_low v_high v_length v_keepers))) (q : Q0) : rMeth t.Terms "wait" (.ref p) H Q0 := rd_meth hp no_Terms_wait q
theorem me_Terms_most (hp : H p = some (.ins t.Terms dx (flds_Terms v_low v_high v_length v_keepers))) (q : Q0) : rMeth t.Terms "most" (.ref p) H Q0 := rd_meth hp no_Terms_most q
end
end
theorem txt_mk {K : PySem.W.Frag} {h : Heap} {mg : Str → Option Value} (X : K.In h) (G : h.Ns mainGlobals mg)
    {Holder : Addr}
    {Keeper : Addr}
    {Terms : Addr}
    {f_wall : Addr} {od_wall an_wall : Option Addr} {sl_wall : Array (Option Value)} {oc_wall kV_wall dc_wall pm_wall cd_wall ct_wall : Value}
    {f_gone_on : Addr} {od_gone_on an_gone_on : Option Addr} {sl_gone_on : Array (Option Value)} {oc_gone_on kV_gone_on dc_gone_on pm_gone_on cd_gone_on ct_gone_on : Value}
    {f_Holder_init : Addr} {od_Holder_init an_Holder_init : Option Addr} {sl_Holder_init : Array (Option Value)} {oc_Holder_init kV_Holder_init dc_Holder_init pm_Holder_init cd_Holder_init ct_Holder_init : Value}
    {f_Holder_ask : Addr} {od_Holder_ask an_Holder_ask : Option Addr} {sl_Holder_ask : Array (Option Value)} {oc_Holder_ask kV_Holder_ask dc_Holder_ask pm_Holder_ask cd_Holder_ask ct_Holder_ask : Value}
    {f_Holder_forget_over : Addr} {od_Holder_forget_over an_Holder_forget_over : Option Addr} {sl_Holder_forget_over : Array (Option Value)} {oc_Holder_forget_over kV_Holder_forget_over dc_Holder_forget_over pm_Holder_forget_over cd_Holder_forget_over ct_Holder_forget_over : Value}
    {f_Holder_hear : Addr} {od_Holder_hear an_Holder_hear : Option Addr} {sl_Holder_hear : Array (Option Value)} {oc_Holder_hear kV_Holder_hear dc_Holder_hear pm_Holder_hear cd_Holder_hear ct_Holder_hear : Value}
    {f_Holder_holds : Addr} {od_Holder_holds an_Holder_holds : Option Addr} {sl_Holder_holds : Array (Option Value)} {oc_Holder_holds kV_Holder_holds dc_Holder_holds pm_Holder_holds cd_Holder_holds ct_Holder_holds : Value}
    {f_Holder_until : Addr} {od_Holder_until an_Holder_until : Option Addr} {sl_Holder_until : Array (Option Value)} {oc_Holder_until kV_Holder_until dc_Holder_until pm_Holder_until cd_Holder_until ct_Holder_until : Value}
    {f_Holder_free : Addr} {od_Holder_free an_Holder_free : Option Addr} {sl_Holder_free : Array (Option Value)} {oc_Holder_free kV_Holder_free dc_Holder_free pm_Holder_free cd_Holder_free ct_Holder_free : Value}
    {f_Keeper_init : Addr} {od_Keeper_init an_Keeper_init : Option Addr} {sl_Keeper_init : Array (Option Value)} {oc_Keeper_init kV_Keeper_init dc_Keeper_init pm_Keeper_init cd_Keeper_init ct_Keeper_init : Value}
    {f_Keeper_asked : Addr} {od_Keeper_asked an_Keeper_asked : Option Addr} {sl_Keeper_asked : Array (Option Value)} {oc_Keeper_asked kV_Keeper_asked dc_Keeper_asked pm_Keeper_asked cd_Keeper_asked ct_Keeper_asked : Value}
    {f_Keeper_freed : Addr} {od_Keeper_freed an_Keeper_freed : Option Addr} {sl_Keeper_freed : Array (Option Value)} {oc_Keeper_freed kV_Keeper_freed dc_Keeper_freed pm_Keeper_freed cd_Keeper_freed ct_Keeper_freed : Value}
    {f_refuse_bad_steps : Addr} {od_refuse_bad_steps an_refuse_bad_steps : Option Addr} {sl_refuse_bad_steps : Array (Option Value)} {oc_refuse_bad_steps kV_refuse_bad_steps dc_refuse_bad_steps pm_refuse_bad_steps cd_refuse_bad_steps ct_refuse_bad_steps : Value}
    {f_refuse_bad_length : Addr} {od_refuse_bad_length an_refuse_bad_length : Option Addr} {sl_refuse_bad_length : Array (Option Value)} {oc_refuse_bad_length kV_refuse_bad_length dc_refuse_bad_length pm_refuse_bad_length cd_refuse_bad_length ct_refuse_bad_length : Value}
    {f_refuse_bad_keepers : Addr} {od_refuse_bad_keepers an_refuse_bad_keepers : Option Addr} {sl_refuse_bad_keepers : Array (Option Value)} {oc_refuse_bad_keepers kV_refuse_bad_keepers dc_refuse_bad_keepers pm_refuse_bad_keepers cd_refuse_bad_keepers ct_refuse_bad_keepers : Value}
    {f_Terms_init : Addr} {od_Terms_init an_Terms_init : Option Addr} {sl_Terms_init : Array (Option Value)} {oc_Terms_init kV_Terms_init dc_Terms_init pm_Terms_init cd_Terms_init ct_Terms_init : Value}
    {f_Terms_ticks : Addr} {od_Terms_ticks an_Terms_ticks : Option Addr} {sl_Terms_ticks : Array (Option Value)} {oc_Terms_ticks kV_Terms_ticks dc_Terms_ticks pm_Terms_ticks cd_Terms_ticks ct_Terms_ticks : Value}
    {f_Terms_wait : Addr} {od_Terms_wait an_Terms_wait : Option Addr} {sl_Terms_wait : Array (Option Value)} {oc_Terms_wait kV_Terms_wait dc_Terms_wait pm_Terms_wait cd_Terms_wait ct_Terms_wait : Value}
    {f_Terms_most : Addr} {od_Terms_most an_Terms_most : Option Addr} {sl_Terms_most : Array (Option Value)} {oc_Terms_most kV_Terms_most dc_Terms_most pm_Terms_most cd_Terms_most ct_Terms_most : Value}
    {f_law_cell : Addr} {od_law_cell an_law_cell : Option Addr} {sl_law_cell : Array (Option Value)} {oc_law_cell kV_law_cell dc_law_cell pm_law_cell cd_law_cell ct_law_cell : Value}
    {f_law_mix : Addr} {od_law_mix an_law_mix : Option Addr} {sl_law_mix : Array (Option Value)} {oc_law_mix kV_law_mix dc_law_mix pm_law_mix cd_law_mix ct_law_mix : Value}
    {f_law_terms : Addr} {od_law_terms an_law_terms : Option Addr} {sl_law_terms : Array (Option Value)} {oc_law_terms kV_law_terms dc_law_terms pm_law_terms cd_law_terms ct_law_terms : Value}
    {f_law_wait : Addr} {od_law_wait an_law_wait : Option Addr} {sl_law_wait : Array (Option Value)} {oc_law_wait kV_law_wait dc_law_wait pm_law_wait cd_law_wait ct_law_wait : Value}
    {f_law_ticks : Addr} {od_law_ticks an_law_ticks : Option Addr} {sl_law_ticks : Array (Option Value)} {oc_law_ticks kV_law_ticks dc_law_ticks pm_law_ticks cd_law_ticks ct_law_ticks : Value}
    {f_law_come : Addr} {od_law_come an_law_come : Option Addr} {sl_law_come : Array (Option Value)} {oc_law_come kV_law_come dc_law_come pm_law_come cd_law_come ct_law_come : Value}
    {f_law_to_all : Addr} {od_law_to_all an_law_to_all : Option Addr} {sl_law_to_all : Array (Option Value)} {oc_law_to_all kV_law_to_all dc_law_to_all pm_law_to_all cd_law_to_all ct_law_to_all : Value}
    {f_law_anew : Addr} {od_law_anew an_law_anew : Option Addr} {sl_law_anew : Array (Option Value)} {oc_law_anew kV_law_anew dc_law_anew pm_law_anew cd_law_anew ct_law_anew : Value}
    {f_law_one : Addr} {od_law_one an_law_one : Option Addr} {sl_law_one : Array (Option Value)} {oc_law_one kV_law_one dc_law_one pm_law_one cd_law_one ct_law_one : Value}
    {f_law_scene : Addr} {od_law_scene an_law_scene : Option Addr} {sl_law_scene : Array (Option Value)} {oc_law_scene kV_law_scene dc_law_scene pm_law_scene cd_law_scene ct_law_scene : Value}
    {f_law : Addr} {od_law an_law : Option Addr} {sl_law : Array (Option Value)} {oc_law kV_law dc_law pm_law cd_law ct_law : Value}
    {LeaseError : Addr}
    {BadTerms : Addr}
    {Back : Addr}
    {NoKeeper : Addr}
    {NotAsked : Addr}
    {t_MOST_STEP : Tok}
    {t_MOST_LENGTH : Tok}
    {t_MOST_KEEPERS : Tok}
    (a_Holder : PySem.W.nsIn K mainGlobals "Holder" = some (some (.ref Holder)))
    (a_Keeper : PySem.W.nsIn K mainGlobals "Keeper" = some (some (.ref Keeper)))
    (a_Terms : PySem.W.nsIn K mainGlobals "Terms" = some (some (.ref Terms)))
    (a_wall : PySem.W.nsIn K mainGlobals "_wall" = some (some (.ref f_wall)))
    (l_wall : K.lookup f_wall = some ⟨oc_wall, od_wall, .func (PySem.W.fnOf "_wall" "_wall" (defArgs s_wall) (defBody s_wall) (defScope s_wall) .none kV_wall dc_wall pm_wall an_wall cd_wall ct_wall), sl_wall⟩)
    (c_wall : PySem.W.codeIn K cd_wall "_wall" = true)
    (p_wall : PySem.W.keepIn K (.ref f_wall) = true)
    (a_gone_on : PySem.W.nsIn K mainGlobals "gone_on" = some (some (.ref f_gone_on)))
    (l_gone_on : K.lookup f_gone_on = some ⟨oc_gone_on, od_gone_on, .func (PySem.W.fnOf "gone_on" "gone_on" (defArgs s_gone_on) (defBody s_gone_on) (defScope s_gone_on) .none kV_gone_on dc_gone_on pm_gone_on an_gone_on cd_gone_on ct_gone_on), sl_gone_on⟩)
    (c_gone_on : PySem.W.codeIn K cd_gone_on "gone_on" = true)
    (p_gone_on : PySem.W.keepIn K (.ref f_gone_on) = true)
    (a_Holder_init : PySem.W.findIn K (.ref Holder) "__init__" = some (some (.ref f_Holder_init)))
    (i_Holder_init : PySem.W.isFn K (.ref f_Holder_init) = true)
    (l_Holder_init : K.lookup f_Holder_init = some ⟨oc_Holder_init, od_Holder_init, .func (PySem.W.fnOf "__init__" "Holder.__init__" (defArgs s_Holder_init) (defBody s_Holder_init) (defScope s_Holder_init) .none kV_Holder_init dc_Holder_init pm_Holder_init an_Holder_init cd_Holder_init ct_Holder_init), sl_Holder_init⟩)
    (c_Holder_init : PySem.W.codeIn K cd_Holder_init "Holder.__init__" = true)
    (p_Holder_init : PySem.W.keepIn K (.ref f_Holder_init) = true)
    (a_Holder_ask : PySem.W.findIn K (.ref Holder) "ask" = some (some (.ref f_Holder_ask)))
    (i_Holder_ask : PySem.W.isFn K (.ref f_Holder_ask) = true)
    (l_Holder_ask : K.lookup f_Holder_ask = some ⟨oc_Holder_ask, od_Holder_ask, .func (PySem.W.fnOf "ask" "Holder.ask" (defArgs s_Holder_ask) (defBody s_Holder_ask) (defScope s_Holder_ask) .none kV_Holder_ask dc_Holder_ask pm_Holder_ask an_Holder_ask cd_Holder_ask ct_Holder_ask), sl_Holder_ask⟩)
    (c_Holder_ask : PySem.W.codeIn K cd_Holder_ask "Holder.ask" = true)
    (p_Holder_ask : PySem.W.keepIn K (.ref f_Holder_ask) = true)
    (a_Holder_forget_over : PySem.W.findIn K (.ref Holder) "forget_over" = some (some (.ref f_Holder_forget_over)))
    (i_Holder_forget_over : PySem.W.isFn K (.ref f_Holder_forget_over) = true)
    (l_Holder_forget_over : K.lookup f_Holder_forget_over = some ⟨oc_Holder_forget_over, od_Holder_forget_over, .func (PySem.W.fnOf "forget_over" "Holder.forget_over" (defArgs s_Holder_forget_over) (defBody s_Holder_forget_over) (defScope s_Holder_forget_over) .none kV_Holder_forget_over dc_Holder_forget_over pm_Holder_forget_over an_Holder_forget_over cd_Holder_forget_over ct_Holder_forget_over), sl_Holder_forget_over⟩)
    (c_Holder_forget_over : PySem.W.codeIn K cd_Holder_forget_over "Holder.forget_over" = true)
    (p_Holder_forget_over : PySem.W.keepIn K (.ref f_Holder_forget_over) = true)
    (a_Holder_hear : PySem.W.findIn K (.ref Holder) "hear" = some (some (.ref f_Holder_hear)))
    (i_Holder_hear : PySem.W.isFn K (.ref f_Holder_hear) = true)
    (l_Holder_hear : K.lookup f_Holder_hear = some ⟨oc_Holder_hear, od_Holder_hear, .func (PySem.W.fnOf "hear" "Holder.hear" (defArgs s_Holder_hear) (defBody s_Holder_hear) (defScope s_Holder_hear) .none kV_Holder_hear dc_Holder_hear pm_Holder_hear an_Holder_hear cd_Holder_hear ct_Holder_hear), sl_Holder_hear⟩)
    (c_Holder_hear : PySem.W.codeIn K cd_Holder_hear "Holder.hear" = true)
    (p_Holder_hear : PySem.W.keepIn K (.ref f_Holder_hear) = true)
    (a_Holder_holds : PySem.W.findIn K (.ref Holder) "holds" = some (some (.ref f_Holder_holds)))
    (i_Holder_holds : PySem.W.isFn K (.ref f_Holder_holds) = true)
    (l_Holder_holds : K.lookup f_Holder_holds = some ⟨oc_Holder_holds, od_Holder_holds, .func (PySem.W.fnOf "holds" "Holder.holds" (defArgs s_Holder_holds) (defBody s_Holder_holds) (defScope s_Holder_holds) .none kV_Holder_holds dc_Holder_holds pm_Holder_holds an_Holder_holds cd_Holder_holds ct_Holder_holds), sl_Holder_holds⟩)
    (c_Holder_holds : PySem.W.codeIn K cd_Holder_holds "Holder.holds" = true)
    (p_Holder_holds : PySem.W.keepIn K (.ref f_Holder_holds) = true)
    (a_Holder_until : PySem.W.findIn K (.ref Holder) "until" = some (some (.ref f_Holder_until)))
    (i_Holder_until : PySem.W.isFn K (.ref f_Holder_until) = true)
    (l_Holder_until : K.lookup f_Holder_until = some ⟨oc_Holder_until, od_Holder_until, .func (PySem.W.fnOf "until" "Holder.until" (defArgs s_Holder_until) (defBody s_Holder_until) (defScope s_Holder_until) .none kV_Holder_until dc_Holder_until pm_Holder_until an_Holder_until cd_Holder_until ct_Holder_until), sl_Holder_until⟩)
    (c_Holder_until : PySem.W.codeIn K cd_Holder_until "Holder.until" = true)
    (p_Holder_until : PySem.W.keepIn K (.ref f_Holder_until) = true)
    (a_Holder_free : PySem.W.findIn K (.ref Holder) "free" = some (some (.ref f_Holder_free)))
    (i_Holder_free : PySem.W.isFn K (.ref f_Holder_free) = true)
    (l_Holder_free : K.lookup f_Holder_free = some ⟨oc_Holder_free, od_Holder_free, .func (PySem.W.fnOf "free" "Holder.free" (defArgs s_Holder_free) (defBody s_Holder_free) (defScope s_Holder_free) .none kV_Holder_free dc_Holder_free pm_Holder_free an_Holder_free cd_Holder_free ct_Holder_free), sl_Holder_free⟩)
    (c_Holder_free : PySem.W.codeIn K cd_Holder_free "Holder.free" = true)
    (p_Holder_free : PySem.W.keepIn K (.ref f_Holder_free) = true)
    (a_Keeper_init : PySem.W.findIn K (.ref Keeper) "__init__" = some (some (.ref f_Keeper_init)))
    (i_Keeper_init : PySem.W.isFn K (.ref f_Keeper_init) = true)
    (l_Keeper_init : K.lookup f_Keeper_init = some ⟨oc_Keeper_init, od_Keeper_init, .func (PySem.W.fnOf "__init__" "Keeper.__init__" (defArgs s_Keeper_init) (defBody s_Keeper_init) (defScope s_Keeper_init) .none kV_Keeper_init dc_Keeper_init pm_Keeper_init an_Keeper_init cd_Keeper_init ct_Keeper_init), sl_Keeper_init⟩)
    (c_Keeper_init : PySem.W.codeIn K cd_Keeper_init "Keeper.__init__" = true)
    (p_Keeper_init : PySem.W.keepIn K (.ref f_Keeper_init) = true)
    (a_Keeper_asked : PySem.W.findIn K (.ref Keeper) "asked" = some (some (.ref f_Keeper_asked)))
    (i_Keeper_asked : PySem.W.isFn K (.ref f_Keeper_asked) = true)
    (l_Keeper_asked : K.lookup f_Keeper_asked = some ⟨oc_Keeper_asked, od_Keeper_asked, .func (PySem.W.fnOf "asked" "Keeper.asked" (defArgs s_Keeper_asked) (defBody s_Keeper_asked) (defScope s_Keeper_asked) .none kV_Keeper_asked dc_Keeper_asked pm_Keeper_asked an_Keeper_asked cd_Keeper_asked ct_Keeper_asked), sl_Keeper_asked⟩)
    (c_Keeper_asked : PySem.W.codeIn K cd_Keeper_asked "Keeper.asked" = true)
    (p_Keeper_asked : PySem.W.keepIn K (.ref f_Keeper_asked) = true)
    (a_Keeper_freed : PySem.W.findIn K (.ref Keeper) "freed" = some (some (.ref f_Keeper_freed)))
    (i_Keeper_freed : PySem.W.isFn K (.ref f_Keeper_freed) = true)
    (l_Keeper_freed : K.lookup f_Keeper_freed = some ⟨oc_Keeper_freed, od_Keeper_freed, .func (PySem.W.fnOf "freed" "Keeper.freed" (defArgs s_Keeper_freed) (defBody s_Keeper_freed) (defScope s_Keeper_freed) .none kV_Keeper_freed dc_Keeper_freed pm_Keeper_freed an_Keeper_freed cd_Keeper_freed ct_Keeper_freed), sl_Keeper_freed⟩)
    (c_Keeper_freed : PySem.W.codeIn K cd_Keeper_freed "Keeper.freed" = true)
    (p_Keeper_freed : PySem.W.keepIn K (.ref f_Keeper_freed) = true)
    (a_refuse_bad_steps : PySem.W.nsIn K mainGlobals "refuse_bad_steps" = some (some (.ref f_refuse_bad_steps)))
    (l_refuse_bad_steps : K.lookup f_refuse_bad_steps = some ⟨oc_refuse_bad_steps, od_refuse_bad_steps, .func (PySem.W.fnOf "refuse_bad_steps" "refuse_bad_steps" (defArgs s_refuse_bad_steps) (defBody s_refuse_bad_steps) (defScope s_refuse_bad_steps) .none kV_refuse_bad_steps dc_refuse_bad_steps pm_refuse_bad_steps an_refuse_bad_steps cd_refuse_bad_steps ct_refuse_bad_steps), sl_refuse_bad_steps⟩)
    (c_refuse_bad_steps : PySem.W.codeIn K cd_refuse_bad_steps "refuse_bad_steps" = true)
    (p_refuse_bad_steps : PySem.W.keepIn K (.ref f_refuse_bad_steps) = true)
    (a_refuse_bad_length : PySem.W.nsIn K mainGlobals "refuse_bad_length" = some (some (.ref f_refuse_bad_length)))
    (l_refuse_bad_length : K.lookup f_refuse_bad_length = some ⟨oc_refuse_bad_length, od_refuse_bad_length, .func (PySem.W.fnOf "refuse_bad_length" "refuse_bad_length" (defArgs s_refuse_bad_length) (defBody s_refuse_bad_length) (defScope s_refuse_bad_length) .none kV_refuse_bad_length dc_refuse_bad_length pm_refuse_bad_length an_refuse_bad_length cd_refuse_bad_length ct_refuse_bad_length), sl_refuse_bad_length⟩)
    (c_refuse_bad_length : PySem.W.codeIn K cd_refuse_bad_length "refuse_bad_length" = true)
    (p_refuse_bad_length : PySem.W.keepIn K (.ref f_refuse_bad_length) = true)
    (a_refuse_bad_keepers : PySem.W.nsIn K mainGlobals "refuse_bad_keepers" = some (some (.ref f_refuse_bad_keepers)))
    (l_refuse_bad_keepers : K.lookup f_refuse_bad_keepers = some ⟨oc_refuse_bad_keepers, od_refuse_bad_keepers, .func (PySem.W.fnOf "refuse_bad_keepers" "refuse_bad_keepers" (defArgs s_refuse_bad_keepers) (defBody s_refuse_bad_keepers) (defScope s_refuse_bad_keepers) .none kV_refuse_bad_keepers dc_refuse_bad_keepers pm_refuse_bad_keepers an_refuse_bad_keepers cd_refuse_bad_keepers ct_refuse_bad_keepers), sl_refuse_bad_keepers⟩)
    (c_refuse_bad_keepers : PySem.W.codeIn K cd_refuse_bad_keepers "refuse_bad_keepers" = true)
    (p_refuse_bad_keepers : PySem.W.keepIn K (.ref f_refuse_bad_keepers) = true)
    (a_Terms_init : PySem.W.findIn K (.ref Terms) "__init__" = some (some (.ref f_Terms_init)))
    (i_Terms_init : PySem.W.isFn K (.ref f_Terms_init) = true)
    (l_Terms_init : K.lookup f_Terms_init = some ⟨oc_Terms_init, od_Terms_init, .func (PySem.W.fnOf "__init__" "Terms.__init__" (defArgs s_Terms_init) (defBody s_Terms_init) (defScope s_Terms_init) .none kV_Terms_init dc_Terms_init pm_Terms_init an_Terms_init cd_Terms_init ct_Terms_init), sl_Terms_init⟩)
    (c_Terms_init : PySem.W.codeIn K cd_Terms_init "Terms.__init__" = true)
    (p_Terms_init : PySem.W.keepIn K (.ref f_Terms_init) = true)
    (a_Terms_ticks : PySem.W.findIn K (.ref Terms) "ticks" = some (some (.ref f_Terms_ticks)))
    (i_Terms_ticks : PySem.W.isFn K (.ref f_Terms_ticks) = true)
    (l_Terms_ticks : K.lookup f_Terms_ticks = some ⟨oc_Terms_ticks, od_Terms_ticks, .func (PySem.W.fnOf "ticks" "Terms.ticks" (defArgs s_Terms_ticks) (defBody s_Terms_ticks) (defScope s_Terms_ticks) .none kV_Terms_ticks dc_Terms_ticks pm_Terms_ticks an_Terms_ticks cd_Terms_ticks ct_Terms_ticks), sl_Terms_ticks⟩)
    (c_Terms_ticks : PySem.W.codeIn K cd_Terms_ticks "Terms.ticks" = true)
    (p_Terms_ticks : PySem.W.keepIn K (.ref f_Terms_ticks) = true)
    (a_Terms_wait : PySem.W.findIn K (.ref Terms) "wait" = some (some (.ref f_Terms_wait)))
    (i_Terms_wait : PySem.W.isFn K (.ref f_Terms_wait) = true)
    (l_Terms_wait : K.lookup f_Terms_wait = some ⟨oc_Terms_wait, od_Terms_wait, .func (PySem.W.fnOf "wait" "Terms.wait" (defArgs s_Terms_wait) (defBody s_Terms_wait) (defScope s_Terms_wait) .none kV_Terms_wait dc_Terms_wait pm_Terms_wait an_Terms_wait cd_Terms_wait ct_Terms_wait), sl_Terms_wait⟩)
    (c_Terms_wait : PySem.W.codeIn K cd_Terms_wait "Terms.wait" = true)
    (p_Terms_wait : PySem.W.keepIn K (.ref f_Terms_wait) = true)
    (a_Terms_most : PySem.W.findIn K (.ref Terms) "most" = some (some (.ref f_Terms_most)))
    (i_Terms_most : PySem.W.isFn K (.ref f_Terms_most) = true)
    (l_Terms_most : K.lookup f_Terms_most = some ⟨oc_Terms_most, od_Terms_most, .func (PySem.W.fnOf "most" "Terms.most" (defArgs s_Terms_most) (defBody s_Terms_most) (defScope s_Terms_most) .none kV_Terms_most dc_Terms_most pm_Terms_most an_Terms_most cd_Terms_most ct_Terms_most), sl_Terms_most⟩)
    (c_Terms_most : PySem.W.codeIn K cd_Terms_most "Terms.most" = true)
    (p_Terms_most : PySem.W.keepIn K (.ref f_Terms_most) = true)
    (a_law_cell : PySem.W.nsIn K mainGlobals "_law_cell" = some (some (.ref f_law_cell)))
    (l_law_cell : K.lookup f_law_cell = some ⟨oc_law_cell, od_law_cell, .func (PySem.W.fnOf "_law_cell" "_law_cell" (defArgs s_law_cell) (defBody s_law_cell) (defScope s_law_cell) .none kV_law_cell dc_law_cell pm_law_cell an_law_cell cd_law_cell ct_law_cell), sl_law_cell⟩)
    (c_law_cell : PySem.W.codeIn K cd_law_cell "_law_cell" = true)
    (p_law_cell : PySem.W.keepIn K (.ref f_law_cell) = true)
    (a_law_mix : PySem.W.nsIn K mainGlobals "_law_mix" = some (some (.ref f_law_mix)))
    (l_law_mix : K.lookup f_law_mix = some ⟨oc_law_mix, od_law_mix, .func (PySem.W.fnOf "_law_mix" "_law_mix" (defArgs s_law_mix) (defBody s_law_mix) (defScope s_law_mix) .none kV_law_mix dc_law_mix pm_law_mix an_law_mix cd_law_mix ct_law_mix), sl_law_mix⟩)
    (c_law_mix : PySem.W.codeIn K cd_law_mix "_law_mix" = true)
    (p_law_mix : PySem.W.keepIn K (.ref f_law_mix) = true)
    (a_law_terms : PySem.W.nsIn K mainGlobals "_law_terms" = some (some (.ref f_law_terms)))
    (l_law_terms : K.lookup f_law_terms = some ⟨oc_law_terms, od_law_terms, .func (PySem.W.fnOf "_law_terms" "_law_terms" (defArgs s_law_terms) (defBody s_law_terms) (defScope s_law_terms) .none kV_law_terms dc_law_terms pm_law_terms an_law_terms cd_law_terms ct_law_terms), sl_law_terms⟩)
    (c_law_terms : PySem.W.codeIn K cd_law_terms "_law_terms" = true)
    (p_law_terms : PySem.W.keepIn K (.ref f_law_terms) = true)
    (a_law_wait : PySem.W.nsIn K mainGlobals "_law_wait" = some (some (.ref f_law_wait)))
    (l_law_wait : K.lookup f_law_wait = some ⟨oc_law_wait, od_law_wait, .func (PySem.W.fnOf "_law_wait" "_law_wait" (defArgs s_law_wait) (defBody s_law_wait) (defScope s_law_wait) .none kV_law_wait dc_law_wait pm_law_wait an_law_wait cd_law_wait ct_law_wait), sl_law_wait⟩)
    (c_law_wait : PySem.W.codeIn K cd_law_wait "_law_wait" = true)
    (p_law_wait : PySem.W.keepIn K (.ref f_law_wait) = true)
    (a_law_ticks : PySem.W.nsIn K mainGlobals "_law_ticks" = some (some (.ref f_law_ticks)))
    (l_law_ticks : K.lookup f_law_ticks = some ⟨oc_law_ticks, od_law_ticks, .func (PySem.W.fnOf "_law_ticks" "_law_ticks" (defArgs s_law_ticks) (defBody s_law_ticks) (defScope s_law_ticks) .none kV_law_ticks dc_law_ticks pm_law_ticks an_law_ticks cd_law_ticks ct_law_ticks), sl_law_ticks⟩)
    (c_law_ticks : PySem.W.codeIn K cd_law_ticks "_law_ticks" = true)
    (p_law_ticks : PySem.W.keepIn K (.ref f_law_ticks) = true)
    (a_law_come : PySem.W.nsIn K mainGlobals "_law_come" = some (some (.ref f_law_come)))
    (l_law_come : K.lookup f_law_come = some ⟨oc_law_come, od_law_come, .func (PySem.W.fnOf "_law_come" "_law_come" (defArgs s_law_come) (defBody s_law_come) (defScope s_law_come) .none kV_law_come dc_law_come pm_law_come an_law_come cd_law_come ct_law_come), sl_law_come⟩)
    (c_law_come : PySem.W.codeIn K cd_law_come "_law_come" = true)
    (p_law_come : PySem.W.keepIn K (.ref f_law_come) = true)
    (a_law_to_all : PySem.W.nsIn K mainGlobals "_law_to_all" = some (some (.ref f_law_to_all)))
    (l_law_to_all : K.lookup f_law_to_all = some ⟨oc_law_to_all, od_law_to_all, .func (PySem.W.fnOf "_law_to_all" "_law_to_all" (defArgs s_law_to_all) (defBody s_law_to_all) (defScope s_law_to_all) .none kV_law_to_all dc_law_to_all pm_law_to_all an_law_to_all cd_law_to_all ct_law_to_all), sl_law_to_all⟩)
    (c_law_to_all : PySem.W.codeIn K cd_law_to_all "_law_to_all" = true)
    (p_law_to_all : PySem.W.keepIn K (.ref f_law_to_all) = true)
    (a_law_anew : PySem.W.nsIn K mainGlobals "_law_anew" = some (some (.ref f_law_anew)))
    (l_law_anew : K.lookup f_law_anew = some ⟨oc_law_anew, od_law_anew, .func (PySem.W.fnOf "_law_anew" "_law_anew" (defArgs s_law_anew) (defBody s_law_anew) (defScope s_law_anew) .none kV_law_anew dc_law_anew pm_law_anew an_law_anew cd_law_anew ct_law_anew), sl_law_anew⟩)
    (c_law_anew : PySem.W.codeIn K cd_law_anew "_law_anew" = true)
    (p_law_anew : PySem.W.keepIn K (.ref f_law_anew) = true)
    (a_law_one : PySem.W.nsIn K mainGlobals "_law_one" = some (some (.ref f_law_one)))
    (l_law_one : K.lookup f_law_one = some ⟨oc_law_one, od_law_one, .func (PySem.W.fnOf "_law_one" "_law_one" (defArgs s_law_one) (defBody s_law_one) (defScope s_law_one) .none kV_law_one dc_law_one pm_law_one an_law_one cd_law_one ct_law_one), sl_law_one⟩)
    (c_law_one : PySem.W.codeIn K cd_law_one "_law_one" = true)
    (p_law_one : PySem.W.keepIn K (.ref f_law_one) = true)
    (a_law_scene : PySem.W.nsIn K mainGlobals "_law_scene" = some (some (.ref f_law_scene)))
    (l_law_scene : K.lookup f_law_scene = some ⟨oc_law_scene, od_law_scene, .func (PySem.W.fnOf "_law_scene" "_law_scene" (defArgs s_law_scene) (defBody s_law_scene) (defScope s_law_scene) .none kV_law_scene dc_law_scene pm_law_scene an_law_scene cd_law_scene ct_law_scene), sl_law_scene⟩)
    (c_law_scene : PySem.W.codeIn K cd_law_scene "_law_scene" = true)
    (p_law_scene : PySem.W.keepIn K (.ref f_law_scene) = true)
    (a_law : PySem.W.nsIn K mainGlobals "law" = some (some (.ref f_law)))
    (l_law : K.lookup f_law = some ⟨oc_law, od_law, .func (PySem.W.fnOf "law" "law" (defArgs s_law) (defBody s_law) (defScope s_law) .none kV_law dc_law pm_law an_law cd_law ct_law), sl_law⟩)
    (c_law : PySem.W.codeIn K cd_law "law" = true)
    (p_law : PySem.W.keepIn K (.ref f_law) = true)
    (pg_Holder : PySem.W.plainGet K Holder Str.empty = true)
    (hd_Holder : PySem.W.hasDictIn K Holder = true)
    (po_Holder : PySem.W.plainOver K Holder = true)
    (sa_Holder : PySem.W.findIn K (.ref Holder) "__setattr__" = some (some (.builtin "object.__setattr__")))
    (mk_Holder : PySem.W.makesIn K Holder = true)
    (kc_Holder : PySem.W.keepIn K (.ref Holder) = true)
    (nf_Holder_length : PySem.W.findIn K (.ref Holder) "length" = some none)
    (nf_Holder_needed : PySem.W.findIn K (.ref Holder) "needed" = some none)
    (nf_Holder_name : PySem.W.findIn K (.ref Holder) "name" = some none)
    (nf_Holder_life : PySem.W.findIn K (.ref Holder) "life" = some none)
    (nf_Holder_latest : PySem.W.findIn K (.ref Holder) "latest" = some none)
    (nf_Holder_told : PySem.W.findIn K (.ref Holder) "told" = some none)
    (nf_Holder_asks : PySem.W.findIn K (.ref Holder) "asks" = some none)
    (nf_Holder_ends : PySem.W.findIn K (.ref Holder) "ends" = some none)
    (pg_Keeper : PySem.W.plainGet K Keeper Str.empty = true)
    (hd_Keeper : PySem.W.hasDictIn K Keeper = true)
    (po_Keeper : PySem.W.plainOver K Keeper = true)
    (sa_Keeper : PySem.W.findIn K (.ref Keeper) "__setattr__" = some (some (.builtin "object.__setattr__")))
    (mk_Keeper : PySem.W.makesIn K Keeper = true)
    (kc_Keeper : PySem.W.keepIn K (.ref Keeper) = true)
    (nf_Keeper_pause : PySem.W.findIn K (.ref Keeper) "pause" = some none)
    (nf_Keeper_latest : PySem.W.findIn K (.ref Keeper) "latest" = some none)
    (nf_Keeper_name : PySem.W.findIn K (.ref Keeper) "name" = some none)
    (nf_Keeper_number : PySem.W.findIn K (.ref Keeper) "number" = some none)
    (nf_Keeper_over : PySem.W.findIn K (.ref Keeper) "over" = some none)
    (pg_Terms : PySem.W.plainGet K Terms Str.empty = true)
    (hd_Terms : PySem.W.hasDictIn K Terms = true)
    (po_Terms : PySem.W.plainOver K Terms = true)
    (sa_Terms : PySem.W.findIn K (.ref Terms) "__setattr__" = some (some (.builtin "object.__setattr__")))
    (mk_Terms : PySem.W.makesIn K Terms = true)
    (kc_Terms : PySem.W.keepIn K (.ref Terms) = true)
    (nf_Terms_low : PySem.W.findIn K (.ref Terms) "low" = some none)
    (nf_Terms_high : PySem.W.findIn K (.ref Terms) "high" = some none)
    (nf_Terms_length : PySem.W.findIn K (.ref Terms) "length" = some none)
    (nf_Terms_keepers : PySem.W.findIn K (.ref Terms) "keepers" = some none)
    (n_LeaseError : PySem.W.nsIn K mainGlobals "LeaseError" = some (some (.ref LeaseError)))
    (x_LeaseError : PySem.W.excIn K LeaseError [.type "ValueError", .type "Exception", .type "BaseException", .type "object"] "ValueError.__new__" = true)
    (n_BadTerms : PySem.W.nsIn K mainGlobals "BadTerms" = some (some (.ref BadTerms)))
    (x_BadTerms : PySem.W.excIn K BadTerms [.type "ValueError", .type "Exception", .type "BaseException", .type "object"] "ValueError.__new__" = true)
    (n_Back : PySem.W.nsIn K mainGlobals "Back" = some (some (.ref Back)))
    (x_Back : PySem.W.excIn K Back [.type "ValueError", .type "Exception", .type "BaseException", .type "object"] "ValueError.__new__" = true)
    (n_NoKeeper : PySem.W.nsIn K mainGlobals "NoKeeper" = some (some (.ref NoKeeper)))
    (x_NoKeeper : PySem.W.excIn K NoKeeper [.type "ValueError", .type "Exception", .type "BaseException", .type "object"] "ValueError.__new__" = true)
    (n_NotAsked : PySem.W.nsIn K mainGlobals "NotAsked" = some (some (.ref NotAsked)))
    (x_NotAsked : PySem.W.excIn K NotAsked [.type "ValueError", .type "Exception", .type "BaseException", .type "object"] "ValueError.__new__" = true)
    (m_MOST_STEP : PySem.W.nsIn K mainGlobals "MOST_STEP" = some (some (.int 1000 t_MOST_STEP)))
    (m_MOST_LENGTH : PySem.W.nsIn K mainGlobals "MOST_LENGTH" = some (some (.int 1000000 t_MOST_LENGTH)))
    (m_MOST_KEEPERS : PySem.W.nsIn K mainGlobals "MOST_KEEPERS" = some (some (.int 9 t_MOST_KEEPERS)))
    (z_int : PySem.W.nsIn K mainGlobals "int" = some none)
    (z_len : PySem.W.nsIn K mainGlobals "len" = some none)
    (z_max : PySem.W.nsIn K mainGlobals "max" = some none)
    (z_min : PySem.W.nsIn K mainGlobals "min" = some none)
    (z_range : PySem.W.nsIn K mainGlobals "range" = some none)
    (z_sorted : PySem.W.nsIn K mainGlobals "sorted" = some none)
    : ∃ t : Adr, Txt K mg t := by
  have F_wall := fun_mk (st := s_wall) l_wall c_wall p_wall
  have b_wall := F_wall.binds (ps := ["k"]) fun _ _ _ _ _ _ => lists1 fun _ => rfl
  have F_gone_on := fun_mk (st := s_gone_on) l_gone_on c_gone_on p_gone_on
  have b_gone_on := F_gone_on.binds (ps := ["latest", "clock"]) fun _ _ _ _ _ _ => lists2 fun _ _ => rfl
  have F_Holder_init := fun_mk (st := s_Holder_init) l_Holder_init c_Holder_init p_Holder_init
  have b_Holder_init := F_Holder_init.binds (ps := ["self", "terms", "name", "life", "clock"]) fun _ _ _ _ _ _ => lists5 fun _ _ _ _ _ => rfl
  have F_Holder_ask := fun_mk (st := s_Holder_ask) l_Holder_ask c_Holder_ask p_Holder_ask
  have b_Holder_ask := F_Holder_ask.binds (ps := ["self", "clock"]) fun _ _ _ _ _ _ => lists2 fun _ _ => rfl
  have F_Holder_forget_over := fun_mk (st := s_Holder_forget_over) l_Holder_forget_over c_Holder_forget_over p_Holder_forget_over
  have b_Holder_forget_over := F_Holder_forget_over.binds (ps := ["self", "clock"]) fun _ _ _ _ _ _ => lists2 fun _ _ => rfl
  have F_Holder_hear := fun_mk (st := s_Holder_hear) l_Holder_hear c_Holder_hear p_Holder_hear
  have b_Holder_hear := F_Holder_hear.binds (ps := ["self", "clock", "keeper", "number"]) fun _ _ _ _ _ _ => lists4 fun _ _ _ _ => rfl
  have F_Holder_holds := fun_mk (st := s_Holder_holds) l_Holder_holds c_Holder_holds p_Holder_holds
  have b_Holder_holds := F_Holder_holds.binds (ps := ["self", "clock"]) fun _ _ _ _ _ _ => lists2 fun _ _ => rfl
  have F_Holder_until := fun_mk (st := s_Holder_until) l_Holder_until c_Holder_until p_Holder_until
  have b_Holder_until := F_Holder_until.binds (ps := ["self", "clock"]) fun _ _ _ _ _ _ => lists2 fun _ _ => rfl
  have F_Holder_free := fun_mk (st := s_Holder_free) l_Holder_free c_Holder_free p_Holder_free
  have b_Holder_free := F_Holder_free.binds (ps := ["self", "clock"]) fun _ _ _ _ _ _ => lists2 fun _ _ => rfl
  have F_Keeper_init := fun_mk (st := s_Keeper_init) l_Keeper_init c_Keeper_init p_Keeper_init
  have b_Keeper_init := F_Keeper_init.binds (ps := ["self", "terms", "clock"]) fun _ _ _ _ _ _ => lists3 fun _ _ _ => rfl
  have F_Keeper_asked := fun_mk (st := s_Keeper_asked) l_Keeper_asked c_Keeper_asked p_Keeper_asked
  have b_Keeper_asked := F_Keeper_asked.binds (ps := ["self", "clock", "name", "number"]) fun _ _ _ _ _ _ => lists4 fun _ _ _ _ => rfl
  have F_Keeper_freed := fun_mk (st := s_Keeper_freed) l_Keeper_freed c_Keeper_freed p_Keeper_freed
  have b_Keeper_freed := F_Keeper_freed.binds (ps := ["self", "clock", "name", "number"]) fun _ _ _ _ _ _ => lists4 fun _ _ _ _ => rfl
  have F_refuse_bad_steps := fun_mk (st := s_refuse_bad_steps) l_refuse_bad_steps c_refuse_bad_steps p_refuse_bad_steps
  have b_refuse_bad_steps := F_refuse_bad_steps.binds (ps := ["low", "high"]) fun _ _ _ _ _ _ => lists2 fun _ _ => rfl
  have F_refuse_bad_length := fun_mk (st := s_refuse_bad_length) l_refuse_bad_length c_refuse_bad_length p_refuse_bad_length
  have b_refuse_bad_length := F_refuse_bad_length.binds (ps := ["length"]) fun _ _ _ _ _ _ => lists1 fun _ => rfl
  have F_refuse_bad_keepers := fun_mk (st := s_refuse_bad_keepers) l_refuse_bad_keepers c_refuse_bad_keepers p_refuse_bad_keepers
  have b_refuse_bad_keepers := F_refuse_bad_keepers.binds (ps := ["keepers"]) fun _ _ _ _ _ _ => lists1 fun _ => rfl
  have F_Terms_init := fun_mk (st := s_Terms_init) l_Terms_init c_Terms_init p_Terms_init
  have b_Terms_init := F_Terms_init.binds (ps := ["self", "low", "high", "length", "keepers"]) fun _ _ _ _ _ _ => lists5 fun _ _ _ _ _ => rfl
  have F_Terms_ticks := fun_mk (st := s_Terms_ticks) l_Terms_ticks c_Terms_ticks p_Terms_ticks
  have b_Terms_ticks := F_Terms_ticks.binds (ps := ["self"]) fun _ _ _ _ _ _ => lists1 fun _ => rfl
  have F_Terms_wait := fun_mk (st := s_Terms_wait) l_Terms_wait c_Terms_wait p_Terms_wait
  have b_Terms_wait := F_Terms_wait.binds (ps := ["self"]) fun _ _ _ _ _ _ => lists1 fun _ => rfl
  have F_Terms_most := fun_mk (st := s_Terms_most) l_Terms_most c_Terms_most p_Terms_most
  have b_Terms_most := F_Terms_most.binds (ps := ["self"]) fun _ _ _ _ _ _ => lists1 fun _ => rfl
  have F_law_cell := fun_mk (st := s_law_cell) l_law_cell c_law_cell p_law_cell
  have b_law_cell := F_law_cell.binds (ps := ["_law_script", "_law_k"]) fun _ _ _ _ _ _ => lists2 fun _ _ => rfl
  have F_law_mix := fun_mk (st := s_law_mix) l_law_mix c_law_mix p_law_mix
  have b_law_mix := F_law_mix.binds (ps := ["_law_script", "_law_k"]) fun _ _ _ _ _ _ => lists2 fun _ _ => rfl
  have F_law_terms := fun_mk (st := s_law_terms) l_law_terms c_law_terms p_law_terms
  have b_law_terms := F_law_terms.binds (ps := ["_law_script", "_law_k"]) fun _ _ _ _ _ _ => lists2 fun _ _ => rfl
  have F_law_wait := fun_mk (st := s_law_wait) l_law_wait c_law_wait p_law_wait
  have b_law_wait := F_law_wait.binds (ps := ["_law_terms_here"]) fun _ _ _ _ _ _ => lists1 fun _ => rfl
  have F_law_ticks := fun_mk (st := s_law_ticks) l_law_ticks c_law_ticks p_law_ticks
  have b_law_ticks := F_law_ticks.binds (ps := ["_law_script", "_law_k", "_law_terms_here", "_law_clocks", "_law_many"]) fun _ _ _ _ _ _ => lists5 fun _ _ _ _ _ => rfl
  have F_law_come := fun_mk (st := s_law_come) l_law_come c_law_come p_law_come
  have b_law_come := F_law_come.binds (ps := ["_law_message", "_law_town", "_law_keep"]) fun _ _ _ _ _ _ => lists3 fun _ _ _ => rfl
  have F_law_to_all := fun_mk (st := s_law_to_all) l_law_to_all c_law_to_all p_law_to_all
  have b_law_to_all := F_law_to_all.binds (ps := ["_law_town", "_law_kind", "_law_name", "_law_number"]) fun _ _ _ _ _ _ => lists4 fun _ _ _ _ => rfl
  have F_law_anew := fun_mk (st := s_law_anew) l_law_anew c_law_anew p_law_anew
  have b_law_anew := F_law_anew.binds (ps := ["_law_town", "_law_made", "_law_number"]) fun _ _ _ _ _ _ => lists3 fun _ _ _ => rfl
  have F_law_one := fun_mk (st := s_law_one) l_law_one c_law_one p_law_one
  have b_law_one := F_law_one.binds (ps := ["_law_town"]) fun _ _ _ _ _ _ => lists1 fun _ => rfl
  have F_law_scene := fun_mk (st := s_law_scene) l_law_scene c_law_scene p_law_scene
  have b_law_scene := F_law_scene.binds (ps := ["_law_script", "_law_town", "_law_terms_here", "_law_made"]) fun _ _ _ _ _ _ => lists4 fun _ _ _ _ => rfl
  have F_law := fun_mk (st := s_law) l_law c_law p_law
  have b_law := F_law.binds (ps := ["_law_script"]) fun _ _ _ _ _ _ => lists1 fun _ => rfl
  refine ⟨{
    f_wall := f_wall, d_wall := _, f_gone_on := f_gone_on, d_gone_on := _, f_Holder_init := f_Holder_init, d_Holder_init := _, f_Holder_ask := f_Holder_ask, d_Holder_ask := _, f_Holder_forget_over := f_Holder_forget_over, d_Holder_forget_over := _, f_Holder_hear := f_Holder_hear, d_Holder_hear := _, f_Holder_holds := f_Holder_holds, d_Holder_holds := _, f_Holder_until := f_Holder_until, d_Holder_until := _, f_Holder_free := f_Holder_free, d_Holder_free := _, f_Keeper_init := f_Keeper_init, d_Keeper_init := _, f_Keeper_asked := f_Keeper_asked, d_Keeper_asked := _, f_Keeper_freed := f_Keeper_freed, d_Keeper_freed := _, f_refuse_bad_steps := f_refuse_bad_steps, d_refuse_bad_steps := _, f_refuse_bad_length := f_refuse_bad_length, d_refuse_bad_length := _, f_refuse_bad_keepers := f_refuse_bad_keepers, d_refuse_bad_keepers := _, f_Terms_init := f_Terms_init, d_Terms_init := _, f_Terms_ticks := f_Terms_ticks, d_Terms_ticks := _, f_Terms_wait := f_Terms_wait, d_Terms_wait := _, f_Terms_most := f_Terms_most, d_Terms_most := _, f_law_cell := f_law_cell, d_law_cell := _, f_law_mix := f_law_mix, d_law_mix := _, f_law_terms := f_law_terms, d_law_terms := _, f_law_wait := f_law_wait, d_law_wait := _, f_law_ticks := f_law_ticks, d_law_ticks := _, f_law_come := f_law_come, d_law_come := _, f_law_to_all := f_law_to_all, d_law_to_all := _, f_law_anew := f_law_anew, d_law_anew := _, f_law_one := f_law_one, d_law_one := _, f_law_scene := f_law_scene, d_law_scene := _, f_law := f_law, d_law := _, Holder := Holder, Keeper := Keeper, Terms := Terms, LeaseError := LeaseError, BadTerms := BadTerms, Back := Back, NoKeeper := NoKeeper, NotAsked := NotAsked }, {
    F_wall := F_wall, b_wall := b_wall,
    m_wall := PySem.W.mg_of X G a_wall,
    F_gone_on := F_gone_on, b_gone_on := b_gone_on,
    m_gone_on := PySem.W.mg_of X G a_gone_on,
    F_Holder_init := F_Holder_init, b_Holder_init := b_Holder_init,
    F_Holder_ask := F_Holder_ask, b_Holder_ask := b_Holder_ask,
    h_Holder_ask := ⟨a_Holder_ask, i_Holder_ask, p_Holder_ask⟩,
    F_Holder_forget_over := F_Holder_forget_over, b_Holder_forget_over := b_Holder_forget_over,
    h_Holder_forget_over := ⟨a_Holder_forget_over, i_Holder_forget_over, p_Holder_forget_over⟩,
    F_Holder_hear := F_Holder_hear, b_Holder_hear := b_Holder_hear,
    h_Holder_hear := ⟨a_Holder_hear, i_Holder_hear, p_Holder_hear⟩,
    F_Holder_holds := F_Holder_holds, b_Holder_holds := b_Holder_holds,
    h_Holder_holds := ⟨a_Holder_holds, i_Holder_holds, p_Holder_holds⟩,
    F_Holder_until := F_Holder_until, b_Holder_until := b_Holder_until,
    h_Holder_until := ⟨a_Holder_until, i_Holder_until, p_Holder_until⟩,
    F_Holder_free := F_Holder_free, b_Holder_free := b_Holder_free,
    h_Holder_free := ⟨a_Holder_free, i_Holder_free, p_Holder_free⟩,
    F_Keeper_init := F_Keeper_init, b_Keeper_init := b_Keeper_init,
    F_Keeper_asked := F_Keeper_asked, b_Keeper_asked := b_Keeper_asked,
    h_Keeper_asked := ⟨a_Keeper_asked, i_Keeper_asked, p_Keeper_asked⟩,
    F_Keeper_freed := F_Keeper_freed, b_Keeper_freed := b_Keeper_freed,
    h_Keeper_freed := ⟨a_Keeper_freed, i_Keeper_freed, p_Keeper_freed⟩,
    F_refuse_bad_steps := F_refuse_bad_steps, b_refuse_bad_steps := b_refuse_bad_steps,
    m_refuse_bad_steps := PySem.W.mg_of X G a_refuse_bad_steps,
    F_refuse_bad_length := F_refuse_bad_length, b_refuse_bad_length := b_refuse_bad_length,
    m_refuse_bad_length := PySem.W.mg_of X G a_refuse_bad_length,
    F_refuse_bad_keepers := F_refuse_bad_keepers, b_refuse_bad_keepers := b_refuse_bad_keepers,
    m_refuse_bad_keepers := PySem.W.mg_of X G a_refuse_bad_keepers,
    F_Terms_init := F_Terms_init, b_Terms_init := b_Terms_init,
    F_Terms_ticks := F_Terms_ticks, b_Terms_ticks := b_Terms_ticks,
    h_Terms_ticks := ⟨a_Terms_ticks, i_Terms_ticks, p_Terms_ticks⟩,
    F_Terms_wait := F_Terms_wait, b_Terms_wait := b_Terms_wait,
    h_Terms_wait := ⟨a_Terms_wait, i_Terms_wait, p_Terms_wait⟩,
    F_Terms_most := F_Terms_most, b_Terms_most := b_Terms_most,
    h_Terms_most := ⟨a_Terms_most, i_Terms_most, p_Terms_most⟩,
    F_law_cell := F_law_cell, b_law_cell := b_law_cell,
    m_law_cell := PySem.W.mg_of X G a_law_cell,
    F_law_mix := F_law_mix, b_law_mix := b_law_mix,
    m_law_mix := PySem.W.mg_of X G a_law_mix,
    F_law_terms := F_law_terms, b_law_terms := b_law_terms,
    m_law_terms := PySem.W.mg_of X G a_law_terms,
    F_law_wait := F_law_wait, b_law_wait := b_law_wait,
    m_law_wait := PySem.W.mg_of X G a_law_wait,
    F_law_ticks := F_law_ticks, b_law_ticks := b_law_ticks,
    m_law_ticks := PySem.W.mg_of X G a_law_ticks,
    F_law_come := F_law_come, b_law_come := b_law_come,
    m_law_come := PySem.W.mg_of X G a_law_come,
    F_law_to_all := F_law_to_all, b_law_to_all := b_law_to_all,
    m_law_to_all := PySem.W.mg_of X G a_law_to_all,
    F_law_anew := F_law_anew, b_law_anew := b_law_anew,
    m_law_anew := PySem.W.mg_of X G a_law_anew,
    F_law_one := F_law_one, b_law_one := b_law_one,
    m_law_one := PySem.W.mg_of X G a_law_one,
    F_law_scene := F_law_scene, b_law_scene := b_law_scene,
    m_law_scene := PySem.W.mg_of X G a_law_scene,
    F_law := F_law, b_law := b_law,
    m_law := PySem.W.mg_of X G a_law,
    m_Holder := PySem.W.mg_of X G a_Holder, cl_Holder := ⟨pg_Holder, hd_Holder, po_Holder, sa_Holder⟩,
    k_Holder := ⟨mk_Holder, a_Holder_init, i_Holder_init, kc_Holder⟩,
    nf_Holder_length := nf_Holder_length,
    nf_Holder_needed := nf_Holder_needed,
    nf_Holder_name := nf_Holder_name,
    nf_Holder_life := nf_Holder_life,
    nf_Holder_latest := nf_Holder_latest,
    nf_Holder_told := nf_Holder_told,
    nf_Holder_asks := nf_Holder_asks,
    nf_Holder_ends := nf_Holder_ends,
    m_Keeper := PySem.W.mg_of X G a_Keeper, cl_Keeper := ⟨pg_Keeper, hd_Keeper, po_Keeper, sa_Keeper⟩,
    k_Keeper := ⟨mk_Keeper, a_Keeper_init, i_Keeper_init, kc_Keeper⟩,
    nf_Keeper_pause := nf_Keeper_pause,
    nf_Keeper_latest := nf_Keeper_latest,
    nf_Keeper_name := nf_Keeper_name,
    nf_Keeper_number := nf_Keeper_number,
    nf_Keeper_over := nf_Keeper_over,
    m_Terms := PySem.W.mg_of X G a_Terms, cl_Terms := ⟨pg_Terms, hd_Terms, po_Terms, sa_Terms⟩,
    k_Terms := ⟨mk_Terms, a_Terms_init, i_Terms_init, kc_Terms⟩,
    nf_Terms_low := nf_Terms_low,
    nf_Terms_high := nf_Terms_high,
    nf_Terms_length := nf_Terms_length,
    nf_Terms_keepers := nf_Terms_keepers,
    m_LeaseError := PySem.W.mg_of X G n_LeaseError, n_LeaseError := n_LeaseError, x_LeaseError := x_LeaseError,
    m_BadTerms := PySem.W.mg_of X G n_BadTerms, n_BadTerms := n_BadTerms, x_BadTerms := x_BadTerms,
    m_Back := PySem.W.mg_of X G n_Back, n_Back := n_Back, x_Back := x_Back,
    m_NoKeeper := PySem.W.mg_of X G n_NoKeeper, n_NoKeeper := n_NoKeeper, x_NoKeeper := x_NoKeeper,
    m_NotAsked := PySem.W.mg_of X G n_NotAsked, n_NotAsked := n_NotAsked, x_NotAsked := x_NotAsked,
    m_MOST_STEP := ⟨_, PySem.W.mg_of X G m_MOST_STEP⟩,
    m_MOST_LENGTH := ⟨_, PySem.W.mg_of X G m_MOST_LENGTH⟩,
    m_MOST_KEEPERS := ⟨_, PySem.W.mg_of X G m_MOST_KEEPERS⟩,
    z_int := PySem.W.mg_none_of X G z_int,
    z_len := PySem.W.mg_none_of X G z_len,
    z_max := PySem.W.mg_none_of X G z_max,
    z_min := PySem.W.mg_none_of X G z_min,
    z_range := PySem.W.mg_none_of X G z_range,
    z_sorted := PySem.W.mg_none_of X G z_sorted }⟩
open L2 renaming rEq_int → Y0, rNe_int → Y1, rNe_bl → Y2, rEq_str → Y3, rEq_bl → Y4, rEq_inon → Y5, rNe_inon → Y6, tPairs → Y7, tDisp → Y8, tAsg → Y9, gName → Ya, tOp → Yb, tVarD → Yc, getV_zero → Yd, getV_succ → Ye, asI_int → Yf, asB_bl → Yg, tC → Yh, rID → Yi, rI0D → Yj, tCall → Yk, tCons → Yl, tNil → Ym, tRet → Yn, tDrop → Yo, tNext → Yp, tIfS → Yq, tTestD → Yr, tCB → Ys, tNot → Yt, tAnd → Yu, tOr → Yv, tIf → Yw, tBD → Yx, tNotN → Yy, tTup → Yz, tLst → Z0, tTru → Z1, xFld → Z2, xNotN → Z3, tAug → Z4, ipI → Z5, sFldAug_eq → Z6, tDPop1 → Z7, tSortR → Z8, xCall → Z9, xMeth → Za, xIf → Zb, xSet → Zc, xExpr → Zd, xRet → Ze, xRaise → Zf, tFld_eq → Zg, sFld_eq → Zh, tMeth_eq → Zi, tMake → Zj, tDGet_eq → Zk, sDPut_eq → Zl, tDIn_eq → Zm, tTrue → Zn, tComp → Zo, caps_cons → Zp, caps_nil → Zq, tBM → Zr, cxOf_K → Zs, asI_ex → V3, asB_ex → V4, ax_exists_eq_left' → V7, ax_exists_eq_left → V8, ax_exists_and_left → Vc, ax_and_true → Ve, ax_true_and → Vf, ax_if_true → Vg, ax_if_false → Vh, ax_decide_eq_true_eq → Vi, ax_decide_eq_false_iff_not → Vl, ax_not_true_eq_false → Vn, ax_not_false_eq_true → Vo, ax_decide_true → Vp, ax_decide_false → Vq
open _root_.List renaming length_cons → Zt, length_nil → Zu, cons_append → Zv, nil_append → Zw, getElem?_cons_zero → Zx, getElem?_cons_succ → Zy, set_cons_zero → Zz, set_cons_succ → V0, append_nil → V5
open _root_.Bool renaming not_true → V1, not_false → V2, false_eq_true → Vj, not_eq_true' → Vk
open _root_.Option.some renaming injEq → V6
open L2.V.int renaming injEq → V9
open L2.V.bl renaming injEq → Va
open L2.V.ref renaming injEq → Vb
open _root_.List.cons renaming injEq → Vd
theorem at_mod {ns : List Int} {k : Int} (hne : 0 < ns.length) : ∃ i, atI (ns.map V.int) (k % ((ns.map V.int).length : Int)) = some (.int i) := by
  have hl : (ns.map V.int).length = ns.length := List.length_map ..
  have h1 : 0 ≤ k % ((ns.map V.int).length : Int) := Int.emod_nonneg _ (by omega)
  have h2 : k % ((ns.map V.int).length : Int) < ((ns.map V.int).length : Int) := Int.emod_lt_of_pos _ (by omega)
  obtain ⟨j, hj⟩ : ∃ j : Nat, k % ((ns.map V.int).length : Int) = (j : Int) := ⟨_, (Int.toNat_of_nonneg h1).symm⟩
  have hlt : j < ns.length := by omega
  rw [hj]
  refine ⟨ns[j], atI_nat ?_⟩
  rw [List.getElem?_map, List.getElem?_eq_getElem hlt]
  rfl
inductive P_sp_law_cell (K : PySem.W.Frag) (vs : List V) (H : Hp) (Q : VK) (E : XK) : Prop
  | mk (a : Addr) (ns : List Int) (k : Int) (h0_ : vs = [.ref a, .int k]) (h1_ : SqL K H a (ns.map V.int)) (h2_ : ∀ i, Q (.int i) H) : P_sp_law_cell K vs H Q E
def sp_law_cell (K : PySem.W.Frag) : Sp := fun vs H Q E => P_sp_law_cell K vs H Q E
inductive P_sp_law_mix (K : PySem.W.Frag) (vs : List V) (H : Hp) (Q : VK) (E : XK) : Prop
  | mk (a : Addr) (ns : List Int) (k : Int) (h0_ : vs = [.ref a, .int k]) (h1_ : SqL K H a (ns.map V.int)) (h2_ : ∀ i, 0 ≤ i → i < 4294967231 → Q (.int i) H) : P_sp_law_mix K vs H Q E
def sp_law_mix (K : PySem.W.Frag) : Sp := fun vs H Q E => P_sp_law_mix K vs H Q E
def good (lo hi le ke : Int) : Prop := 1 ≤ lo ∧ hi ≤ 1000 ∧ lo ≤ hi ∧ 1 ≤ le ∧ le ≤ 1000000 ∧ 1 ≤ ke ∧ ke ≤ 9
instance (lo hi le ke : Int) : Decidable (good lo hi le ke) := by unfold good; infer_instance
/-- an int whose text may be written -/
def Small (i : Int) : Prop := -(2 ^ 62) < i ∧ i < 2 ^ 62
theorem Small.log {i : Int} (h : Small i) : i.natAbs.log2 < 1920 := by
  obtain ⟨h1, h2⟩ := h
  by_cases z : i.natAbs = 0
  · rw [z]
    decide
  · have e : i.natAbs < 2 ^ 62 := by omega
    have := (Nat.log2_lt z).mpr e
    omega
inductive P_sp_steps (BT : Addr) (vs : List V) (H : Hp) (Q : VK) (E : XK) : Prop
  | mk (lo hi : Int) (h0_ : vs = [.int lo, .int hi]) (h1_ : Small lo) (h2_ : Small hi) (h3_ : (1 ≤ lo ∧ hi ≤ 1000 ∧ lo ≤ hi → Q .non H)) (h4_ : (¬ (1 ≤ lo ∧ hi ≤ 1000 ∧ lo ≤ hi) → E (.ref BT) none H)) : P_sp_steps BT vs H Q E
def sp_steps (BT : Addr) : Sp := fun vs H Q E => P_sp_steps BT vs H Q E
inductive P_sp_range (BT : Addr) (m : Int) (vs : List V) (H : Hp) (Q : VK) (E : XK) : Prop
  | mk (v : Int) (h0_ : vs = [.int v]) (h1_ : Small v) (h2_ : (1 ≤ v ∧ v ≤ m → Q .non H)) (h3_ : (¬ (1 ≤ v ∧ v ≤ m) → E (.ref BT) none H)) : P_sp_range BT m vs H Q E
def sp_range (BT : Addr) (m : Int) : Sp := fun vs H Q E => P_sp_range BT m vs H Q E
abbrev terms (lo hi le ke : Int) : List (Str × V) := flds_Terms (.int lo) (.int hi) (.int le) (.int ke)
inductive P_sp_Terms_init (C BT : Addr) (vs : List V) (H : Hp) (Q : VK) (E : XK) : Prop
  | mk (p dx : Addr) (lo hi le ke : Int) (h0_ : vs = [.ref p, .int lo, .int hi, .int le, .int ke]) (h1_ : H p = some (.ins C dx [])) (h2_ : Small lo) (h3_ : Small hi) (h4_ : Small le) (h5_ : Small ke) (h6_ : (good lo hi le ke → Q .non (upd H p (.ins C dx (terms lo hi le ke))))) (h7_ : (¬ good lo hi le ke → E (.ref BT) none H)) : P_sp_Terms_init C BT vs H Q E
def sp_Terms_init (C BT : Addr) : Sp := fun vs H Q E => P_sp_Terms_init C BT vs H Q E
inductive P_sp_num (C : Addr) (g : Int → Int → Int → Int → Int) (vs : List V) (H : Hp) (Q : VK) (E : XK) : Prop
  | mk (p dx : Addr) (lo hi le ke : Int) (h0_ : vs = [.ref p]) (h1_ : H p = some (.ins C dx (terms lo hi le ke))) (h2_ : good lo hi le ke) (h3_ : Q (.int (g lo hi le ke)) H) : P_sp_num C g vs H Q E
def sp_num (C : Addr) (g : Int → Int → Int → Int → Int) : Sp := fun vs H Q E => P_sp_num C g vs H Q E
section
variable {P : Program} {w : World} {K : PySem.W.Frag} {mg : Str → Option Value} {base : Heap} {t : Adr}
theorem ok_law_cell (T : Txt K mg t) : FnOk P w K mg base CX0 1 t.f_law_cell t.d_law_cell ["_law_script", "_law_k"] (sp_law_cell K) := by
  refine T.F_law_cell.ok sc_law_cell (fun vs H Q E h => ?_) (fun cdv A outer s H vs Q E hr h => ?_)
  · obtain ⟨a, ns, k, rfl, _⟩ := h
    rfl
  · obtain ⟨a, ns, k, rfl, hS, q⟩ := h
    refine ⟨_, (jss_cons (js_if (jt_truth pl_name (je_var (i := 0) nm__law_script lo_law_cell__law_script rfl)) (jss_one (js_ret (je_ix jx_list (je_var (i := 0) nm__law_script lo_law_cell__law_script rfl) (je_op jo_mod (je_var (i := 1) nm__law_k lo_law_cell__law_k rfl) (je_callB nm_len lo_law_cell_len jc_len T.z_len bt_len sx_name ns_nil (ja_cons sx_name (je_var (i := 0) nm__law_script lo_law_cell__law_script rfl) ja_nil))) (fun _ _ => rfl)))) jss_nil)
      (jss_one (js_ret je_int))).h, ?_⟩
    dsimp only [cxOf_K, L2.start, List.map_cons, List.map_nil, List.length_cons, List.length_nil, List.cons_append, List.nil_append, List.replicate]
    refine fix_s (by simp only [List.map_cons, List.map_nil, List.cons_append, List.nil_append, Nat.sub_self, List.replicate, List.append_nil]; exact rfl) ?_
    try dsimp only [tSeq, xSeq,Y0,Y1,Y2,Y3,Y4,Y5,Y6,Y7,Y8,Y9,Ya,Yb,Yc,Yd,Ye,Yf,Yg,Yh,Yi,Yj,Yk,Yl,Ym,Yn,Yo,Yp,Yq,Yr,Ys,Yt,Yu,Yv,Yw,Yx,Yy,Yz,Z0,Z1,Z2,Z3,Z4,Z5,Z6,Z7,Z8,Z9,Za,Zb,Zc,Zd,Ze,Zf,Zg,Zh,Zi,Zj,Zk,Zl,Zm,Zn,Zo,Zp,Zq,Zr,Zs,Zt,Zu,Zv,Zw,Zx,Zy,Zz,V0,V1,V2]
    try simp only [V3,V4,V5,V6,V7,V8,V9,Va,Vb,Vc,Vd,Ve,Vf,Vg,Vh,Vi,Vj,V1,V2,Vk,Vl,reduceCtorEq,Vn,Vo,Vp,Vq]
    refine ⟨!(ns.map V.int).isEmpty, .inl ⟨_, hS, rfl⟩, ?_⟩
    cases ns with
    | nil => exact iteF (q 0)
    | cons n r =>
      obtain ⟨i, hi⟩ := at_mod (ns := n :: r) (k := k) (Nat.succ_pos _)
      refine iteT ?_
      refine rd_lenL hS ?_
      try dsimp only [tSeq, xSeq,Y0,Y1,Y2,Y3,Y4,Y5,Y6,Y7,Y8,Y9,Ya,Yb,Yc,Yd,Ye,Yf,Yg,Yh,Yi,Yj,Yk,Yl,Ym,Yn,Yo,Yp,Yq,Yr,Ys,Yt,Yu,Yv,Yw,Yx,Yy,Yz,Z0,Z1,Z2,Z3,Z4,Z5,Z6,Z7,Z8,Z9,Za,Zb,Zc,Zd,Ze,Zf,Zg,Zh,Zi,Zj,Zk,Zl,Zm,Zn,Zo,Zp,Zq,Zr,Zs,Zt,Zu,Zv,Zw,Zx,Zy,Zz,V0,V1,V2]
      try simp only [V3,V4,V5,V6,V7,V8,V9,Va,Vb,Vc,Vd,Ve,Vf,Vg,Vh,Vi,Vj,V1,V2,Vk,Vl,reduceCtorEq,Vn,Vo,Vp,Vq]
      refine ⟨?_, rd_ixL hS hi (q i)⟩
      show (0 : Int) < (((n :: r).map V.int).length : Int)
      rw [List.length_map, List.length_cons]
      omega
theorem ok_law_mix (T : Txt K mg t) : FnOk P w K mg base CX0 2 t.f_law_mix t.d_law_mix ["_law_script", "_law_k"] (sp_law_mix K) := by
  have G_law_cell : FnOk P w K mg base CX0 1 t.f_law_cell t.d_law_cell ["_law_script", "_law_k"] (sp_law_cell K) := ok_law_cell T
  refine T.F_law_mix.ok sc_law_mix (fun vs H Q E h => ?_) (fun cdv A outer s H vs Q E hr h => ?_)
  · obtain ⟨a, ns, k, rfl, _⟩ := h
    rfl
  · obtain ⟨a, ns, k, rfl, hS, q⟩ := h
    refine ⟨_, (jss_cons (js_set (i := 2) nc_bin sc_law_mix.nd rfl lo_law_mix__law_number (je_op jo_mod (je_op jo_add (je_call nm__law_cell lo_law_mix__law_cell (ok_law_cell T) (hr.mono (by decide)) T.m_law_cell T.F_law_cell.kp T.b_law_cell pass0 sx_name (ns_cons sx_name ns_nil) (ja_cons sx_name (je_var (i := 0) nm__law_script lo_law_mix__law_script rfl) (ja_cons sx_name (je_var (i := 1) nm__law_k lo_law_mix__law_k rfl) ja_nil))) (je_op jo_mul je_int (je_op jo_add (je_var (i := 1) nm__law_k lo_law_mix__law_k rfl) je_int))) je_int))
      (jss_cons (js_set (i := 2) nc_bin sc_law_mix.nd rfl lo_law_mix__law_number (je_op jo_mod (je_op jo_mul (je_var (i := 2) nm__law_number lo_law_mix__law_number rfl) je_int) je_int))
      (jss_one (js_ret (je_op jo_mod (je_op jo_add (je_op jo_mul (je_op jo_fdiv (je_var (i := 2) nm__law_number lo_law_mix__law_number rfl) je_int) je_int) (je_var (i := 2) nm__law_number lo_law_mix__law_number rfl)) je_int))))).h, ?_⟩
    dsimp only [cxOf_K, L2.start, List.map_cons, List.map_nil, List.length_cons, List.length_nil, List.cons_append, List.nil_append, List.replicate]
    refine fix_s (by simp only [List.map_cons, List.map_nil, List.cons_append, List.nil_append, Nat.sub_self, List.replicate, List.append_nil]; exact rfl) ?_
    try dsimp only [tSeq, xSeq,Y0,Y1,Y2,Y3,Y4,Y5,Y6,Y7,Y8,Y9,Ya,Yb,Yc,Yd,Ye,Yf,Yg,Yh,Yi,Yj,Yk,Yl,Ym,Yn,Yo,Yp,Yq,Yr,Ys,Yt,Yu,Yv,Yw,Yx,Yy,Yz,Z0,Z1,Z2,Z3,Z4,Z5,Z6,Z7,Z8,Z9,Za,Zb,Zc,Zd,Ze,Zf,Zg,Zh,Zi,Zj,Zk,Zl,Zm,Zn,Zo,Zp,Zq,Zr,Zs,Zt,Zu,Zv,Zw,Zx,Zy,Zz,V0,V1,V2]
    try simp only [V3,V4,V5,V6,V7,V8,V9,Va,Vb,Vc,Vd,Ve,Vf,Vg,Vh,Vi,Vj,V1,V2,Vk,Vl,reduceCtorEq,Vn,Vo,Vp,Vq]
    refine ⟨a, ns, k, rfl, hS, fun i => ?_⟩
    try dsimp only [tSeq, xSeq,Y0,Y1,Y2,Y3,Y4,Y5,Y6,Y7,Y8,Y9,Ya,Yb,Yc,Yd,Ye,Yf,Yg,Yh,Yi,Yj,Yk,Yl,Ym,Yn,Yo,Yp,Yq,Yr,Ys,Yt,Yu,Yv,Yw,Yx,Yy,Yz,Z0,Z1,Z2,Z3,Z4,Z5,Z6,Z7,Z8,Z9,Za,Zb,Zc,Zd,Ze,Zf,Zg,Zh,Zi,Zj,Zk,Zl,Zm,Zn,Zo,Zp,Zq,Zr,Zs,Zt,Zu,Zv,Zw,Zx,Zy,Zz,V0,V1,V2]
    try simp only [V3,V4,V5,V6,V7,V8,V9,Va,Vb,Vc,Vd,Ve,Vf,Vg,Vh,Vi,Vj,V1,V2,Vk,Vl,reduceCtorEq,Vn,Vo,Vp,Vq]
    refine ⟨.inl ⟨by decide, by decide⟩, by decide, .inr ⟨by decide, by decide⟩, by decide, ⟨by decide, by decide⟩, .inr ⟨by decide, by decide⟩, by decide, ?_⟩
    exact q _ (Int.emod_nonneg _ (by decide)) (Int.emod_lt_of_pos _ (by decide))
theorem ok_refuse_bad_steps (T : Txt K mg t) : FnOk P w K mg base (CXF P w) 1 t.f_refuse_bad_steps t.d_refuse_bad_steps ["low", "high"] (sp_steps t.BadTerms) := by
  obtain ⟨u, m_MOST_STEP⟩ := T.m_MOST_STEP
  refine T.F_refuse_bad_steps.okX sc_refuse_bad_steps (fun vs H Q E h => ?_) (fun cdv A outer s H vs Q E hr h => ?_)
  · obtain ⟨lo, hi, rfl, _⟩ := h
    rfl
  · obtain ⟨lo, hi, rfl, hl, hh, q, qe⟩ := h
    refine ⟨_, (jssx_cons (jsx_if (jt_bool (jw_or (jt_cmp jo_lt (je_var (i := 0) nm_low lo_refuse_bad_steps_low rfl) je_int (by decide) (by decide)) (jw_or1 (jt_cmp jo_gt (je_var (i := 1) nm_high lo_refuse_bad_steps_high rfl) (je_gint nm_MOST_STEP lo_refuse_bad_steps_MOST_STEP m_MOST_STEP) (by decide) (by decide))))) (jssx_one (jsx_raise nm_BadTerms rfl lo_refuse_bad_steps_BadTerms T.m_BadTerms T.n_BadTerms T.x_BadTerms PySem.F.excBase_ValueError sx_join ns_nil (ja_cons sx_join (je_fstr (jfs_cons (jf_str (by decide)) (jfs_cons (jf_int (je_var (i := 0) nm_low lo_refuse_bad_steps_low rfl)) (jfs_cons (jf_str (by decide)) (jfs_cons (jf_int (je_var (i := 1) nm_high lo_refuse_bad_steps_high rfl)) (jfs_cons (jf_str (by decide)) (jfs_cons (jf_int (je_gint nm_MOST_STEP lo_refuse_bad_steps_MOST_STEP m_MOST_STEP)) jfs_nil rfl) rfl) rfl) rfl) rfl) rfl) (by decide)) ja_nil))) jssx_nil)
      (jssx_one (jsx_if (jt_cmp jo_gt (je_var (i := 0) nm_low lo_refuse_bad_steps_low rfl) (je_var (i := 1) nm_high lo_refuse_bad_steps_high rfl) (by decide) (by decide)) (jssx_one (jsx_raise nm_BadTerms rfl lo_refuse_bad_steps_BadTerms T.m_BadTerms T.n_BadTerms T.x_BadTerms PySem.F.excBase_ValueError sx_join ns_nil (ja_cons sx_join (je_fstr (jfs_cons (jf_str (by decide)) (jfs_cons (jf_int (je_var (i := 0) nm_low lo_refuse_bad_steps_low rfl)) (jfs_cons (jf_str (by decide)) (jfs_cons (jf_int (je_var (i := 1) nm_high lo_refuse_bad_steps_high rfl)) jfs_nil rfl) rfl) rfl) rfl) (by decide)) ja_nil))) jssx_nil))).h, ?_⟩
    dsimp only [cxOf_K, L2.start, List.map_cons, List.map_nil, List.length_cons, List.length_nil, List.cons_append, List.nil_append, List.replicate]
    refine fix_x (by simp only [List.map_cons, List.map_nil, List.cons_append, List.nil_append, Nat.sub_self, List.replicate, List.append_nil]; exact rfl) ?_
    try dsimp only [tSeq, xSeq,Y0,Y1,Y2,Y3,Y4,Y5,Y6,Y7,Y8,Y9,Ya,Yb,Yc,Yd,Ye,Yf,Yg,Yh,Yi,Yj,Yk,Yl,Ym,Yn,Yo,Yp,Yq,Yr,Ys,Yt,Yu,Yv,Yw,Yx,Yy,Yz,Z0,Z1,Z2,Z3,Z4,Z5,Z6,Z7,Z8,Z9,Za,Zb,Zc,Zd,Ze,Zf,Zg,Zh,Zi,Zj,Zk,Zl,Zm,Zn,Zo,Zp,Zq,Zr,Zs,Zt,Zu,Zv,Zw,Zx,Zy,Zz,V0,V1,V2]
    try simp only [V3,V4,V5,V6,V7,V8,V9,Va,Vb,Vc,Vd,Ve,Vf,Vg,Vh,Vi,Vj,V1,V2,Vk,Vl,reduceCtorEq,Vn,Vo,Vp,Vq]
    have l1 := hl.log
    have l2 := hh.log
    have l3 : (Int.natAbs 1000).log2 < 1920 := by decide
    have l4 : 0 + 1 ≤ sizeLine := by decide
    split
    · exact ⟨l1, l2, l3, fun _ => ⟨l4, qe (by omega)⟩⟩
    · split
      · exact ⟨l1, l2, l3, fun _ => ⟨l4, qe (by omega)⟩⟩
      · split
        · exact ⟨l1, l2, fun _ => ⟨l4, qe (by omega)⟩⟩
        · exact q (by omega)
theorem ok_refuse_bad_length (T : Txt K mg t) : FnOk P w K mg base (CXF P w) 1 t.f_refuse_bad_length t.d_refuse_bad_length ["length"] (sp_range t.BadTerms 1000000) := by
  obtain ⟨u, m_MOST_LENGTH⟩ := T.m_MOST_LENGTH
  refine T.F_refuse_bad_length.okX sc_refuse_bad_length (fun vs H Q E h => ?_) (fun cdv A outer s H vs Q E hr h => ?_)
  · obtain ⟨v, rfl, _⟩ := h
    rfl
  · obtain ⟨v, rfl, hv, q, qe⟩ := h
    refine ⟨_, (jssx_one (jsx_if (jt_bool (jw_or (jt_cmp jo_lt (je_var (i := 0) nm_length lo_refuse_bad_length_length rfl) je_int (by decide) (by decide)) (jw_or1 (jt_cmp jo_gt (je_var (i := 0) nm_length lo_refuse_bad_length_length rfl) (je_gint nm_MOST_LENGTH lo_refuse_bad_length_MOST_LENGTH m_MOST_LENGTH) (by decide) (by decide))))) (jssx_one (jsx_raise nm_BadTerms rfl lo_refuse_bad_length_BadTerms T.m_BadTerms T.n_BadTerms T.x_BadTerms PySem.F.excBase_ValueError sx_join ns_nil (ja_cons sx_join (je_fstr (jfs_cons (jf_str (by decide)) (jfs_cons (jf_int (je_var (i := 0) nm_length lo_refuse_bad_length_length rfl)) (jfs_cons (jf_str (by decide)) (jfs_cons (jf_int (je_gint nm_MOST_LENGTH lo_refuse_bad_length_MOST_LENGTH m_MOST_LENGTH)) jfs_nil rfl) rfl) rfl) rfl) (by decide)) ja_nil))) jssx_nil)).h, ?_⟩
    dsimp only [cxOf_K, L2.start, List.map_cons, List.map_nil, List.length_cons, List.length_nil, List.cons_append, List.nil_append, List.replicate]
    refine fix_x (by simp only [List.map_cons, List.map_nil, List.cons_append, List.nil_append, Nat.sub_self, List.replicate, List.append_nil]; exact rfl) ?_
    try dsimp only [tSeq, xSeq,Y0,Y1,Y2,Y3,Y4,Y5,Y6,Y7,Y8,Y9,Ya,Yb,Yc,Yd,Ye,Yf,Yg,Yh,Yi,Yj,Yk,Yl,Ym,Yn,Yo,Yp,Yq,Yr,Ys,Yt,Yu,Yv,Yw,Yx,Yy,Yz,Z0,Z1,Z2,Z3,Z4,Z5,Z6,Z7,Z8,Z9,Za,Zb,Zc,Zd,Ze,Zf,Zg,Zh,Zi,Zj,Zk,Zl,Zm,Zn,Zo,Zp,Zq,Zr,Zs,Zt,Zu,Zv,Zw,Zx,Zy,Zz,V0,V1,V2]
    try simp only [V3,V4,V5,V6,V7,V8,V9,Va,Vb,Vc,Vd,Ve,Vf,Vg,Vh,Vi,Vj,V1,V2,Vk,Vl,reduceCtorEq,Vn,Vo,Vp,Vq]
    have l1 := hv.log
    have l3 : (Int.natAbs 1000000).log2 < 1920 := by decide
    have l4 : 0 + 1 ≤ sizeLine := by decide
    split
    · exact ⟨l1, l3, fun _ => ⟨l4, qe (by omega)⟩⟩
    · split
      · exact ⟨l1, l3, fun _ => ⟨l4, qe (by omega)⟩⟩
      · exact q (by omega)
theorem ok_refuse_bad_keepers (T : Txt K mg t) : FnOk P w K mg base (CXF P w) 1 t.f_refuse_bad_keepers t.d_refuse_bad_keepers ["keepers"] (sp_range t.BadTerms 9) := by
  obtain ⟨u, m_MOST_KEEPERS⟩ := T.m_MOST_KEEPERS
  refine T.F_refuse_bad_keepers.okX sc_refuse_bad_keepers (fun vs H Q E h => ?_) (fun cdv A outer s H vs Q E hr h => ?_)
  · obtain ⟨v, rfl, _⟩ := h
    rfl
  · obtain ⟨v, rfl, hv, q, qe⟩ := h
    refine ⟨_, (jssx_one (jsx_if (jt_bool (jw_or (jt_cmp jo_lt (je_var (i := 0) nm_keepers lo_refuse_bad_keepers_keepers rfl) je_int (by decide) (by decide)) (jw_or1 (jt_cmp jo_gt (je_var (i := 0) nm_keepers lo_refuse_bad_keepers_keepers rfl) (je_gint nm_MOST_KEEPERS lo_refuse_bad_keepers_MOST_KEEPERS m_MOST_KEEPERS) (by decide) (by decide))))) (jssx_one (jsx_raise nm_BadTerms rfl lo_refuse_bad_keepers_BadTerms T.m_BadTerms T.n_BadTerms T.x_BadTerms PySem.F.excBase_ValueError sx_join ns_nil (ja_cons sx_join (je_fstr (jfs_cons (jf_str (by decide)) (jfs_cons (jf_int (je_var (i := 0) nm_keepers lo_refuse_bad_keepers_keepers rfl)) (jfs_cons (jf_str (by decide)) (jfs_cons (jf_int (je_gint nm_MOST_KEEPERS lo_refuse_bad_keepers_MOST_KEEPERS m_MOST_KEEPERS)) jfs_nil rfl) rfl) rfl) rfl) (by decide)) ja_nil))) jssx_nil)).h, ?_⟩
    dsimp only [cxOf_K, L2.start, List.map_cons, List.map_nil, List.length_cons, List.length_nil, List.cons_append, List.nil_append, List.replicate]
    refine fix_x (by simp only [List.map_cons, List.map_nil, List.cons_append, List.nil_append, Nat.sub_self, List.replicate, List.append_nil]; exact rfl) ?_
    try dsimp only [tSeq, xSeq,Y0,Y1,Y2,Y3,Y4,Y5,Y6,Y7,Y8,Y9,Ya,Yb,Yc,Yd,Ye,Yf,Yg,Yh,Yi,Yj,Yk,Yl,Ym,Yn,Yo,Yp,Yq,Yr,Ys,Yt,Yu,Yv,Yw,Yx,Yy,Yz,Z0,Z1,Z2,Z3,Z4,Z5,Z6,Z7,Z8,Z9,Za,Zb,Zc,Zd,Ze,Zf,Zg,Zh,Zi,Zj,Zk,Zl,Zm,Zn,Zo,Zp,Zq,Zr,Zs,Zt,Zu,Zv,Zw,Zx,Zy,Zz,V0,V1,V2]
    try simp only [V3,V4,V5,V6,V7,V8,V9,Va,Vb,Vc,Vd,Ve,Vf,Vg,Vh,Vi,Vj,V1,V2,Vk,Vl,reduceCtorEq,Vn,Vo,Vp,Vq]
    have l1 := hv.log
    have l3 : (Int.natAbs 9).log2 < 1920 := by decide
    have l4 : 0 + 1 ≤ sizeLine := by decide
    split
    · exact ⟨l1, l3, fun _ => ⟨l4, qe (by omega)⟩⟩
    · split
      · exact ⟨l1, l3, fun _ => ⟨l4, qe (by omega)⟩⟩
      · exact q (by omega)
theorem ok_Terms_init (T : Txt K mg t) : FnOk P w K mg base (CXF P w) 2 t.f_Terms_init t.d_Terms_init ["self", "low", "high", "length", "keepers"] (sp_Terms_init t.Terms t.BadTerms) := by
  have G_refuse_bad_steps : FnOk P w K mg base (CXF P w) 1 t.f_refuse_bad_steps t.d_refuse_bad_steps ["low", "high"] (sp_steps t.BadTerms) := ok_refuse_bad_steps T
  have G_refuse_bad_length : FnOk P w K mg base (CXF P w) 1 t.f_refuse_bad_length t.d_refuse_bad_length ["length"] (sp_range t.BadTerms 1000000) := ok_refuse_bad_length T
  have G_refuse_bad_keepers : FnOk P w K mg base (CXF P w) 1 t.f_refuse_bad_keepers t.d_refuse_bad_keepers ["keepers"] (sp_range t.BadTerms 9) := ok_refuse_bad_keepers T
  refine T.F_Terms_init.okX sc_Terms_init (fun vs H Q E h => ?_) (fun cdv A outer s H vs Q E hr h => ?_)
  · obtain ⟨p, dx, lo, hi, le, ke, rfl, _⟩ := h
    rfl
  · obtain ⟨p, dx, lo, hi, le, ke, rfl, hp, s1, s2, s3, s4, q, qe⟩ := h
    refine ⟨_, (jssx_cons (jsx_expr nc_call (jex_call nm_refuse_bad_steps lo_Terms_init_refuse_bad_steps (ok_refuse_bad_steps T) (hr.mono (by decide)) T.m_refuse_bad_steps T.F_refuse_bad_steps.kp T.b_refuse_bad_steps sx_name (ns_cons sx_name ns_nil) (ja_cons sx_name (je_var (i := 1) nm_low lo_Terms_init_low rfl) (ja_cons sx_name (je_var (i := 2) nm_high lo_Terms_init_high rfl) ja_nil))))
      (jssx_cons (jsx_expr nc_call (jex_call nm_refuse_bad_length lo_Terms_init_refuse_bad_length (ok_refuse_bad_length T) (hr.mono (by decide)) T.m_refuse_bad_length T.F_refuse_bad_length.kp T.b_refuse_bad_length sx_name ns_nil (ja_cons sx_name (je_var (i := 3) nm_length lo_Terms_init_length rfl) ja_nil)))
      (jssx_cons (jsx_expr nc_call (jex_call nm_refuse_bad_keepers lo_Terms_init_refuse_bad_keepers (ok_refuse_bad_keepers T) (hr.mono (by decide)) T.m_refuse_bad_keepers T.F_refuse_bad_keepers.kp T.b_refuse_bad_keepers sx_name ns_nil (ja_cons sx_name (je_var (i := 4) nm_keepers lo_Terms_init_keepers rfl) ja_nil)))
      (jssx_cons (jx (js_fld nc_name (je_var (i := 0) nm_self lo_Terms_init_self rfl) (je_var (i := 1) nm_low lo_Terms_init_low rfl)))
      (jssx_cons (jx (js_fld nc_name (je_var (i := 0) nm_self lo_Terms_init_self rfl) (je_var (i := 2) nm_high lo_Terms_init_high rfl)))
      (jssx_cons (jx (js_fld nc_name (je_var (i := 0) nm_self lo_Terms_init_self rfl) (je_var (i := 3) nm_length lo_Terms_init_length rfl)))
      (jssx_one (jx (js_fld nc_name (je_var (i := 0) nm_self lo_Terms_init_self rfl) (je_var (i := 4) nm_keepers lo_Terms_init_keepers rfl)))))))))).h, ?_⟩
    dsimp only [cxOf_K, L2.start, List.map_cons, List.map_nil, List.length_cons, List.length_nil, List.cons_append, List.nil_append, List.replicate]
    refine fix_x (by simp only [List.map_cons, List.map_nil, List.cons_append, List.nil_append, Nat.sub_self, List.replicate, List.append_nil]; exact rfl) ?_
    try dsimp only [tSeq, xSeq,Y0,Y1,Y2,Y3,Y4,Y5,Y6,Y7,Y8,Y9,Ya,Yb,Yc,Yd,Ye,Yf,Yg,Yh,Yi,Yj,Yk,Yl,Ym,Yn,Yo,Yp,Yq,Yr,Ys,Yt,Yu,Yv,Yw,Yx,Yy,Yz,Z0,Z1,Z2,Z3,Z4,Z5,Z6,Z7,Z8,Z9,Za,Zb,Zc,Zd,Ze,Zf,Zg,Zh,Zi,Zj,Zk,Zl,Zm,Zn,Zo,Zp,Zq,Zr,Zs,Zt,Zu,Zv,Zw,Zx,Zy,Zz,V0,V1,V2]
    try simp only [V3,V4,V5,V6,V7,V8,V9,Va,Vb,Vc,Vd,Ve,Vf,Vg,Vh,Vi,Vj,V1,V2,Vk,Vl,reduceCtorEq,Vn,Vo,Vp,Vq]
    refine ⟨lo, hi, rfl, s1, s2, fun g1 => ?_, fun g1 => qe fun z => g1 ⟨z.1, z.2.1, z.2.2.1⟩⟩
    refine ⟨le, rfl, s3, fun g2 => ?_, fun g2 => qe fun z => g2 ⟨z.2.2.2.1, z.2.2.2.2.1⟩⟩
    refine ⟨ke, rfl, s4, fun g3 => ?_, fun g3 => qe fun z => g3 ⟨z.2.2.2.2.2.1, z.2.2.2.2.2.2⟩⟩
    try dsimp only [tSeq, xSeq,Y0,Y1,Y2,Y3,Y4,Y5,Y6,Y7,Y8,Y9,Ya,Yb,Yc,Yd,Ye,Yf,Yg,Yh,Yi,Yj,Yk,Yl,Ym,Yn,Yo,Yp,Yq,Yr,Ys,Yt,Yu,Yv,Yw,Yx,Yy,Yz,Z0,Z1,Z2,Z3,Z4,Z5,Z6,Z7,Z8,Z9,Za,Zb,Zc,Zd,Ze,Zf,Zg,Zh,Zi,Zj,Zk,Zl,Zm,Zn,Zo,Zp,Zq,Zr,Zs,Zt,Zu,Zv,Zw,Zx,Zy,Zz,V0,V1,V2]
    try simp only [V3,V4,V5,V6,V7,V8,V9,Va,Vb,Vc,Vd,Ve,Vf,Vg,Vh,Vi,Vj,V1,V2,Vk,Vl,reduceCtorEq,Vn,Vo,Vp,Vq]
    refine rd_put hp T.cl_Terms T.nf_Terms_low (by decide : 0 < 1000) ?_
    try dsimp only [tSeq, xSeq,Y0,Y1,Y2,Y3,Y4,Y5,Y6,Y7,Y8,Y9,Ya,Yb,Yc,Yd,Ye,Yf,Yg,Yh,Yi,Yj,Yk,Yl,Ym,Yn,Yo,Yp,Yq,Yr,Ys,Yt,Yu,Yv,Yw,Yx,Yy,Yz,Z0,Z1,Z2,Z3,Z4,Z5,Z6,Z7,Z8,Z9,Za,Zb,Zc,Zd,Ze,Zf,Zg,Zh,Zi,Zj,Zk,Zl,Zm,Zn,Zo,Zp,Zq,Zr,Zs,Zt,Zu,Zv,Zw,Zx,Zy,Zz,V0,V1,V2]
    try simp only [V3,V4,V5,V6,V7,V8,V9,Va,Vb,Vc,Vd,Ve,Vf,Vg,Vh,Vi,Vj,V1,V2,Vk,Vl,reduceCtorEq,Vn,Vo,Vp,Vq]
    refine rd_put upd_same T.cl_Terms T.nf_Terms_high (by exact (by decide : 1 < 1000)) ?_
    try dsimp only [tSeq, xSeq,Y0,Y1,Y2,Y3,Y4,Y5,Y6,Y7,Y8,Y9,Ya,Yb,Yc,Yd,Ye,Yf,Yg,Yh,Yi,Yj,Yk,Yl,Ym,Yn,Yo,Yp,Yq,Yr,Ys,Yt,Yu,Yv,Yw,Yx,Yy,Yz,Z0,Z1,Z2,Z3,Z4,Z5,Z6,Z7,Z8,Z9,Za,Zb,Zc,Zd,Ze,Zf,Zg,Zh,Zi,Zj,Zk,Zl,Zm,Zn,Zo,Zp,Zq,Zr,Zs,Zt,Zu,Zv,Zw,Zx,Zy,Zz,V0,V1,V2]
    try simp only [V3,V4,V5,V6,V7,V8,V9,Va,Vb,Vc,Vd,Ve,Vf,Vg,Vh,Vi,Vj,V1,V2,Vk,Vl,reduceCtorEq,Vn,Vo,Vp,Vq]
    refine rd_put upd_same T.cl_Terms T.nf_Terms_length (by exact (by decide : 2 < 1000)) ?_
    try dsimp only [tSeq, xSeq,Y0,Y1,Y2,Y3,Y4,Y5,Y6,Y7,Y8,Y9,Ya,Yb,Yc,Yd,Ye,Yf,Yg,Yh,Yi,Yj,Yk,Yl,Ym,Yn,Yo,Yp,Yq,Yr,Ys,Yt,Yu,Yv,Yw,Yx,Yy,Yz,Z0,Z1,Z2,Z3,Z4,Z5,Z6,Z7,Z8,Z9,Za,Zb,Zc,Zd,Ze,Zf,Zg,Zh,Zi,Zj,Zk,Zl,Zm,Zn,Zo,Zp,Zq,Zr,Zs,Zt,Zu,Zv,Zw,Zx,Zy,Zz,V0,V1,V2]
    try simp only [V3,V4,V5,V6,V7,V8,V9,Va,Vb,Vc,Vd,Ve,Vf,Vg,Vh,Vi,Vj,V1,V2,Vk,Vl,reduceCtorEq,Vn,Vo,Vp,Vq]
    refine rd_put upd_same T.cl_Terms T.nf_Terms_keepers (by exact (by decide : 3 < 1000)) ?_
    rw [upd_upd, upd_upd, upd_upd]
    exact q ⟨g1.1, g1.2.1, g1.2.2, g2.1, g2.2, g3.1, g3.2⟩
theorem ok_Terms_ticks (T : Txt K mg t) : FnOk P w K mg base CX0 1 t.f_Terms_ticks t.d_Terms_ticks ["self"] (sp_num t.Terms fun lo _ le _ => (le + lo - 1) / lo) := by
  refine T.F_Terms_ticks.ok sc_Terms_ticks (fun vs H Q E h => ?_) (fun cdv A outer s H vs Q E hr h => ?_)
  · obtain ⟨p, dx, lo, hi, le, ke, rfl, _⟩ := h
    rfl
  · obtain ⟨p, dx, lo, hi, le, ke, rfl, hp, g, q⟩ := h
    refine ⟨_, (jss_one (js_ret (je_op jo_fdiv (je_op jo_sub (je_op jo_add (je_fld bs_name (je_var (i := 0) nm_self lo_Terms_ticks_self rfl)) (je_fld bs_name (je_var (i := 0) nm_self lo_Terms_ticks_self rfl))) je_int) (je_fld bs_name (je_var (i := 0) nm_self lo_Terms_ticks_self rfl))))).h, ?_⟩
    dsimp only [cxOf_K, L2.start, List.map_cons, List.map_nil, List.length_cons, List.length_nil, List.cons_append, List.nil_append, List.replicate]
    refine fix_s (by simp only [List.map_cons, List.map_nil, List.cons_append, List.nil_append, Nat.sub_self, List.replicate, List.append_nil]; exact rfl) ?_
    try dsimp only [tSeq, xSeq,Y0,Y1,Y2,Y3,Y4,Y5,Y6,Y7,Y8,Y9,Ya,Yb,Yc,Yd,Ye,Yf,Yg,Yh,Yi,Yj,Yk,Yl,Ym,Yn,Yo,Yp,Yq,Yr,Ys,Yt,Yu,Yv,Yw,Yx,Yy,Yz,Z0,Z1,Z2,Z3,Z4,Z5,Z6,Z7,Z8,Z9,Za,Zb,Zc,Zd,Ze,Zf,Zg,Zh,Zi,Zj,Zk,Zl,Zm,Zn,Zo,Zp,Zq,Zr,Zs,Zt,Zu,Zv,Zw,Zx,Zy,Zz,V0,V1,V2]
    try simp only [V3,V4,V5,V6,V7,V8,V9,Va,Vb,Vc,Vd,Ve,Vf,Vg,Vh,Vi,Vj,V1,V2,Vk,Vl,reduceCtorEq,Vn,Vo,Vp,Vq]
    refine rd_Terms_length T hp (rd_Terms_low T hp ?_)
    try dsimp only [tSeq, xSeq,Y0,Y1,Y2,Y3,Y4,Y5,Y6,Y7,Y8,Y9,Ya,Yb,Yc,Yd,Ye,Yf,Yg,Yh,Yi,Yj,Yk,Yl,Ym,Yn,Yo,Yp,Yq,Yr,Ys,Yt,Yu,Yv,Yw,Yx,Yy,Yz,Z0,Z1,Z2,Z3,Z4,Z5,Z6,Z7,Z8,Z9,Za,Zb,Zc,Zd,Ze,Zf,Zg,Zh,Zi,Zj,Zk,Zl,Zm,Zn,Zo,Zp,Zq,Zr,Zs,Zt,Zu,Zv,Zw,Zx,Zy,Zz,V0,V1,V2]
    try simp only [V3,V4,V5,V6,V7,V8,V9,Va,Vb,Vc,Vd,Ve,Vf,Vg,Vh,Vi,Vj,V1,V2,Vk,Vl,reduceCtorEq,Vn,Vo,Vp,Vq]
    refine rd_Terms_low T hp ?_
    try dsimp only [tSeq, xSeq,Y0,Y1,Y2,Y3,Y4,Y5,Y6,Y7,Y8,Y9,Ya,Yb,Yc,Yd,Ye,Yf,Yg,Yh,Yi,Yj,Yk,Yl,Ym,Yn,Yo,Yp,Yq,Yr,Ys,Yt,Yu,Yv,Yw,Yx,Yy,Yz,Z0,Z1,Z2,Z3,Z4,Z5,Z6,Z7,Z8,Z9,Za,Zb,Zc,Zd,Ze,Zf,Zg,Zh,Zi,Zj,Zk,Zl,Zm,Zn,Zo,Zp,Zq,Zr,Zs,Zt,Zu,Zv,Zw,Zx,Zy,Zz,V0,V1,V2]
    try simp only [V3,V4,V5,V6,V7,V8,V9,Va,Vb,Vc,Vd,Ve,Vf,Vg,Vh,Vi,Vj,V1,V2,Vk,Vl,reduceCtorEq,Vn,Vo,Vp,Vq]
    unfold good at g
    exact ⟨⟨by omega, by omega⟩, q⟩
theorem ok_Terms_wait (T : Txt K mg t) : FnOk P w K mg base CX0 2 t.f_Terms_wait t.d_Terms_wait ["self"] (sp_num t.Terms fun lo hi le _ => (le + lo - 1) / lo * hi) := by
  have G_Terms_ticks : FnOk P w K mg base CX0 1 t.f_Terms_ticks t.d_Terms_ticks ["self"] (sp_num t.Terms fun lo _ le _ => (le + lo - 1) / lo) := ok_Terms_ticks T
  refine T.F_Terms_wait.ok sc_Terms_wait (fun vs H Q E h => ?_) (fun cdv A outer s H vs Q E hr h => ?_)
  · obtain ⟨p, dx, lo, hi, le, ke, rfl, _⟩ := h
    rfl
  · obtain ⟨p, dx, lo, hi, le, ke, rfl, hp, g, q⟩ := h
    refine ⟨_, (jss_one (js_ret (je_op jo_mul (je_meth0 bs_name rfl (je_var (i := 0) nm_self lo_Terms_wait_self rfl) T.cl_Terms T.h_Terms_ticks (ok_Terms_ticks T) (hr.mono (by decide)) T.b_Terms_ticks pass0) (je_fld bs_name (je_var (i := 0) nm_self lo_Terms_wait_self rfl))))).h, ?_⟩
    dsimp only [cxOf_K, L2.start, List.map_cons, List.map_nil, List.length_cons, List.length_nil, List.cons_append, List.nil_append, List.replicate]
    refine fix_s (by simp only [List.map_cons, List.map_nil, List.cons_append, List.nil_append, Nat.sub_self, List.replicate, List.append_nil]; exact rfl) ?_
    try dsimp only [tSeq, xSeq,Y0,Y1,Y2,Y3,Y4,Y5,Y6,Y7,Y8,Y9,Ya,Yb,Yc,Yd,Ye,Yf,Yg,Yh,Yi,Yj,Yk,Yl,Ym,Yn,Yo,Yp,Yq,Yr,Ys,Yt,Yu,Yv,Yw,Yx,Yy,Yz,Z0,Z1,Z2,Z3,Z4,Z5,Z6,Z7,Z8,Z9,Za,Zb,Zc,Zd,Ze,Zf,Zg,Zh,Zi,Zj,Zk,Zl,Zm,Zn,Zo,Zp,Zq,Zr,Zs,Zt,Zu,Zv,Zw,Zx,Zy,Zz,V0,V1,V2]
    try simp only [V3,V4,V5,V6,V7,V8,V9,Va,Vb,Vc,Vd,Ve,Vf,Vg,Vh,Vi,Vj,V1,V2,Vk,Vl,reduceCtorEq,Vn,Vo,Vp,Vq]
    refine me_Terms_ticks hp ⟨p, dx, lo, hi, le, ke, rfl, hp, g, ?_⟩
    refine rd_Terms_high T hp ?_
    try dsimp only [tSeq, xSeq,Y0,Y1,Y2,Y3,Y4,Y5,Y6,Y7,Y8,Y9,Ya,Yb,Yc,Yd,Ye,Yf,Yg,Yh,Yi,Yj,Yk,Yl,Ym,Yn,Yo,Yp,Yq,Yr,Ys,Yt,Yu,Yv,Yw,Yx,Yy,Yz,Z0,Z1,Z2,Z3,Z4,Z5,Z6,Z7,Z8,Z9,Za,Zb,Zc,Zd,Ze,Zf,Zg,Zh,Zi,Zj,Zk,Zl,Zm,Zn,Zo,Zp,Zq,Zr,Zs,Zt,Zu,Zv,Zw,Zx,Zy,Zz,V0,V1,V2]
    try simp only [V3,V4,V5,V6,V7,V8,V9,Va,Vb,Vc,Vd,Ve,Vf,Vg,Vh,Vi,Vj,V1,V2,Vk,Vl,reduceCtorEq,Vn,Vo,Vp,Vq]
    unfold good at g
    exact ⟨.inr ⟨by omega, by omega⟩, q⟩
theorem ok_Terms_most (T : Txt K mg t) : FnOk P w K mg base CX0 1 t.f_Terms_most t.d_Terms_most ["self"] (sp_num t.Terms fun _ _ _ ke => ke / 2 + 1) := by
  refine T.F_Terms_most.ok sc_Terms_most (fun vs H Q E h => ?_) (fun cdv A outer s H vs Q E hr h => ?_)
  · obtain ⟨p, dx, lo, hi, le, ke, rfl, _⟩ := h
    rfl
  · obtain ⟨p, dx, lo, hi, le, ke, rfl, hp, g, q⟩ := h
    refine ⟨_, (jss_one (js_ret (je_op jo_add (je_op jo_fdiv (je_fld bs_name (je_var (i := 0) nm_self lo_Terms_most_self rfl)) je_int) je_int))).h, ?_⟩
    dsimp only [cxOf_K, L2.start, List.map_cons, List.map_nil, List.length_cons, List.length_nil, List.cons_append, List.nil_append, List.replicate]
    refine fix_s (by simp only [List.map_cons, List.map_nil, List.cons_append, List.nil_append, Nat.sub_self, List.replicate, List.append_nil]; exact rfl) ?_
    try dsimp only [tSeq, xSeq,Y0,Y1,Y2,Y3,Y4,Y5,Y6,Y7,Y8,Y9,Ya,Yb,Yc,Yd,Ye,Yf,Yg,Yh,Yi,Yj,Yk,Yl,Ym,Yn,Yo,Yp,Yq,Yr,Ys,Yt,Yu,Yv,Yw,Yx,Yy,Yz,Z0,Z1,Z2,Z3,Z4,Z5,Z6,Z7,Z8,Z9,Za,Zb,Zc,Zd,Ze,Zf,Zg,Zh,Zi,Zj,Zk,Zl,Zm,Zn,Zo,Zp,Zq,Zr,Zs,Zt,Zu,Zv,Zw,Zx,Zy,Zz,V0,V1,V2]
    try simp only [V3,V4,V5,V6,V7,V8,V9,Va,Vb,Vc,Vd,Ve,Vf,Vg,Vh,Vi,Vj,V1,V2,Vk,Vl,reduceCtorEq,Vn,Vo,Vp,Vq]
    refine rd_Terms_keepers T hp ?_
    try dsimp only [tSeq, xSeq,Y0,Y1,Y2,Y3,Y4,Y5,Y6,Y7,Y8,Y9,Ya,Yb,Yc,Yd,Ye,Yf,Yg,Yh,Yi,Yj,Yk,Yl,Ym,Yn,Yo,Yp,Yq,Yr,Ys,Yt,Yu,Yv,Yw,Yx,Yy,Yz,Z0,Z1,Z2,Z3,Z4,Z5,Z6,Z7,Z8,Z9,Za,Zb,Zc,Zd,Ze,Zf,Zg,Zh,Zi,Zj,Zk,Zl,Zm,Zn,Zo,Zp,Zq,Zr,Zs,Zt,Zu,Zv,Zw,Zx,Zy,Zz,V0,V1,V2]
    try simp only [V3,V4,V5,V6,V7,V8,V9,Va,Vb,Vc,Vd,Ve,Vf,Vg,Vh,Vi,Vj,V1,V2,Vk,Vl,reduceCtorEq,Vn,Vo,Vp,Vq]
    exact ⟨⟨by decide, by decide⟩, q⟩
end
theorem mix_at {K : PySem.W.Frag} {H : Hp} {a : Addr} {ns : List Int} {k : Int} {Q : VK} {E : XK} (hS : SqL K H a (ns.map V.int)) (h : ∀ i, 0 ≤ i → i < 4294967231 → Q (.int i) H) : sp_law_mix K [.ref a, .int k] H Q E := ⟨a, ns, k, rfl, hS, h⟩
theorem mix_any {K : PySem.W.Frag} {H : Hp} {a : Addr} {ns : List Int} {k : Int} {Q : VK} {E : XK} (hS : SqL K H a (ns.map V.int)) (h : ∀ i, Q (.int i) H) : sp_law_mix K [.ref a, .int k] H Q E := mix_at hS fun i _ _ => h i
theorem same_upd {H : Hp} {p : Addr} {o : HO} (h : H p = none) : Same H (upd H p o) := fun b u e => by
  rw [upd_ne (ne_of_none e h)]
  exact e
/-- an item of a menu -/
theorem menu {K : PySem.W.Frag} {H : Hp} {p : Addr} {Q : VK} {i m : Int} (ns : List Int) (hp : H p = some (.lst (ns.map V.int))) (h0 : 0 < m) (hm : m = (ns.length : Int)) (h : ∀ v, v ∈ ns → Q (.int v) H) : rIxL K (.ref p) (.int (i % m)) H Q := by
  have h1 : 0 ≤ i % m := Int.emod_nonneg _ (by omega)
  have h2 : i % m < m := Int.emod_lt_of_pos _ h0
  obtain ⟨j, hj⟩ : ∃ j : Nat, i % m = (j : Int) := ⟨_, (Int.toNat_of_nonneg h1).symm⟩
  have hlt : j < ns.length := by omega
  rw [hj]
  refine rd_ixL (xs := ns.map V.int) (v := .int ns[j]) (SqL.of hp) (atI_nat ?_) (h _ (List.getElem_mem hlt))
  rw [List.getElem?_map, List.getElem?_eq_getElem hlt]
  rfl
theorem menu_in {a b x : Int} {l : List Int} (h : x ∈ l) (d : ∀ y, y ∈ l → a ≤ y ∧ y ≤ b) : a ≤ x ∧ x ≤ b := d x h
/-- the terms that a law draws -/
structure Drawn (lo hi le ke : Int) : Prop where
  l1 : 1 ≤ lo
  l2 : lo ≤ 3
  h1 : lo ≤ hi
  h2 : hi ≤ 5
  e1 : 1 ≤ le
  e2 : le ≤ 12
  k1 : 1 ≤ ke
  k2 : ke ≤ 5
theorem Drawn.small {lo hi le ke : Int} (d : Drawn lo hi le ke) : Small lo ∧ Small hi ∧ Small le ∧ Small ke := by
  obtain ⟨_, _, _, _, _, _, _, _⟩ := d
  unfold Small
  omega
theorem Drawn.good {lo hi le ke : Int} (d : Drawn lo hi le ke) : good lo hi le ke := by
  obtain ⟨a, b, c, e, f, g, h, i⟩ := d
  exact ⟨by omega, by omega, by omega, by omega, by omega, by omega, by omega⟩
def waitOf (lo hi le : Int) : Int := (le + lo - 1) / lo * hi
inductive P_sp_law_terms (K : PySem.W.Frag) (vs : List V) (H : Hp) (Q : VK) (E : XK) : Prop
  | mk (a : Addr) (ns : List Int) (k : Int) (h0_ : vs = [.ref a, .int k]) (h1_ : SqL K H a (ns.map V.int)) (h2_ : ∀ (lo hi le ke : Int) (p : Addr) (H' : Hp), Drawn lo hi le ke → Same H H' → H p = none → H' p = some (.tup [.int lo, .int hi, .int le, .int ke]) → Q (.ref p) H') : P_sp_law_terms K vs H Q E
def sp_law_terms (K : PySem.W.Frag) : Sp := fun vs H Q E => P_sp_law_terms K vs H Q E
inductive P_sp_law_wait (vs : List V) (H : Hp) (Q : VK) (E : XK) : Prop
  | mk (p : Addr) (lo hi le ke : Int) (h0_ : vs = [.ref p]) (h1_ : H p = some (.tup [.int lo, .int hi, .int le, .int ke])) (h2_ : Drawn lo hi le ke) (h3_ : Q (.int (waitOf lo hi le)) H) : P_sp_law_wait  vs H Q E
def sp_law_wait : Sp := fun vs H Q E => P_sp_law_wait  vs H Q E
section
variable {P : Program} {w : World} {K : PySem.W.Frag} {mg : Str → Option Value} {base : Heap} {t : Adr}
theorem ok_law_terms (T : Txt K mg t) : FnOk P w K mg base CX0 3 t.f_law_terms t.d_law_terms ["_law_script", "_law_k"] (sp_law_terms K) := by
  refine T.F_law_terms.ok sc_law_terms (fun vs H Q E h => ?_) (fun cdv A outer s H vs Q E hr h => ?_)
  · obtain ⟨a, ns, k, rfl, _⟩ := h
    rfl
  · obtain ⟨a, ns, k, rfl, hS, q⟩ := h
    refine ⟨_, (jss_cons (js_set (i := 2) nc_bin sc_law_terms.nd rfl lo_law_terms__law_low (je_op jo_add je_int (je_op jo_mod (je_call nm__law_mix lo_law_terms__law_mix (ok_law_mix T) (hr.mono (by decide)) T.m_law_mix T.F_law_mix.kp T.b_law_mix pass0 sx_name (ns_cons sx_name ns_nil) (ja_cons sx_name (je_var (i := 0) nm__law_script lo_law_terms__law_script rfl) (ja_cons sx_name (je_var (i := 1) nm__law_k lo_law_terms__law_k rfl) ja_nil))) je_int)))
      (jss_cons (js_set (i := 3) nc_bin sc_law_terms.nd rfl lo_law_terms__law_high (je_op jo_add (je_var (i := 2) nm__law_low lo_law_terms__law_low rfl) (je_op jo_mod (je_call nm__law_mix lo_law_terms__law_mix (ok_law_mix T) (hr.mono (by decide)) T.m_law_mix T.F_law_mix.kp T.b_law_mix pass0 sx_name (ns_cons sx_bin ns_nil) (ja_cons sx_name (je_var (i := 0) nm__law_script lo_law_terms__law_script rfl) (ja_cons sx_bin (je_op jo_add (je_var (i := 1) nm__law_k lo_law_terms__law_k rfl) je_int) ja_nil))) je_int)))
      (jss_cons (js_set (i := 4) nc_sub sc_law_terms.nd rfl lo_law_terms__law_length (je_ix jx_list (je_lst (ja_cons sx_const je_int (ja_cons sx_const je_int (ja_cons sx_const je_int (ja_cons sx_const je_int (ja_cons sx_const je_int (ja_cons sx_const je_int ja_nil))))))) (je_op jo_mod (je_call nm__law_mix lo_law_terms__law_mix (ok_law_mix T) (hr.mono (by decide)) T.m_law_mix T.F_law_mix.kp T.b_law_mix pass0 sx_name (ns_cons sx_bin ns_nil) (ja_cons sx_name (je_var (i := 0) nm__law_script lo_law_terms__law_script rfl) (ja_cons sx_bin (je_op jo_add (je_var (i := 1) nm__law_k lo_law_terms__law_k rfl) je_int) ja_nil))) je_int) (fun _ _ => rfl)))
      (jss_one (js_ret (je_tup (ja_cons sx_name (je_var (i := 2) nm__law_low lo_law_terms__law_low rfl) (ja_cons sx_name (je_var (i := 3) nm__law_high lo_law_terms__law_high rfl) (ja_cons sx_name (je_var (i := 4) nm__law_length lo_law_terms__law_length rfl) (ja_cons sx_sub (je_ix jx_list (je_lst (ja_cons sx_const je_int (ja_cons sx_const je_int (ja_cons sx_const je_int (ja_cons sx_const je_int (ja_cons sx_const je_int (ja_cons sx_const je_int ja_nil))))))) (je_op jo_mod (je_call nm__law_mix lo_law_terms__law_mix (ok_law_mix T) (hr.mono (by decide)) T.m_law_mix T.F_law_mix.kp T.b_law_mix pass0 sx_name (ns_cons sx_bin ns_nil) (ja_cons sx_name (je_var (i := 0) nm__law_script lo_law_terms__law_script rfl) (ja_cons sx_bin (je_op jo_add (je_var (i := 1) nm__law_k lo_law_terms__law_k rfl) je_int) ja_nil))) je_int) (fun _ _ => rfl)) ja_nil)))))))))).h, ?_⟩
    dsimp only [cxOf_K, L2.start, List.map_cons, List.map_nil, List.length_cons, List.length_nil, List.cons_append, List.nil_append, List.replicate]
    refine fix_s (by simp only [List.map_cons, List.map_nil, List.cons_append, List.nil_append, Nat.sub_self, List.replicate, List.append_nil]; exact rfl) ?_
    refine seq_step fun R k1 => ?_
    try dsimp only [Y0,Y1,Y2,Y3,Y4,Y5,Y6,Y7,Y8,Y9,Ya,Yb,Yc,Yd,Ye,Yf,Yg,Yh,Yi,Yj,Yk,Yl,Ym,Yn,Yo,Yp,Yq,Yr,Ys,Yt,Yu,Yv,Yw,Yx,Yy,Yz,Z0,Z1,Z2,Z3,Z4,Z5,Z6,Z7,Z8,Z9,Za,Zb,Zc,Zd,Ze,Zf,Zg,Zh,Zi,Zj,Zk,Zl,Zm,Zn,Zo,Zp,Zq,Zr,Zs,Zt,Zu,Zv,Zw,Zx,Zy,Zz,V0,V1,V2]
    try simp only [V3,V4,V5,V6,V7,V8,V9,Va,Vb,Vc,Vd,Ve,Vf,Vg,Vh,Vi,Vj,V1,V2,Vk,Vl,reduceCtorEq,Vn,Vo,Vp,Vq]
    refine mix_at hS fun i0 l0 u0 => ?_
    try dsimp only [Y0,Y1,Y2,Y3,Y4,Y5,Y6,Y7,Y8,Y9,Ya,Yb,Yc,Yd,Ye,Yf,Yg,Yh,Yi,Yj,Yk,Yl,Ym,Yn,Yo,Yp,Yq,Yr,Ys,Yt,Yu,Yv,Yw,Yx,Yy,Yz,Z0,Z1,Z2,Z3,Z4,Z5,Z6,Z7,Z8,Z9,Za,Zb,Zc,Zd,Ze,Zf,Zg,Zh,Zi,Zj,Zk,Zl,Zm,Zn,Zo,Zp,Zq,Zr,Zs,Zt,Zu,Zv,Zw,Zx,Zy,Zz,V0,V1,V2]
    try simp only [V3,V4,V5,V6,V7,V8,V9,Va,Vb,Vc,Vd,Ve,Vf,Vg,Vh,Vi,Vj,V1,V2,Vk,Vl,reduceCtorEq,Vn,Vo,Vp,Vq]
    refine ⟨by decide, k1 _ _ ?_⟩
    clear k1 R
    refine seq_step fun R k1 => ?_
    try dsimp only [Y0,Y1,Y2,Y3,Y4,Y5,Y6,Y7,Y8,Y9,Ya,Yb,Yc,Yd,Ye,Yf,Yg,Yh,Yi,Yj,Yk,Yl,Ym,Yn,Yo,Yp,Yq,Yr,Ys,Yt,Yu,Yv,Yw,Yx,Yy,Yz,Z0,Z1,Z2,Z3,Z4,Z5,Z6,Z7,Z8,Z9,Za,Zb,Zc,Zd,Ze,Zf,Zg,Zh,Zi,Zj,Zk,Zl,Zm,Zn,Zo,Zp,Zq,Zr,Zs,Zt,Zu,Zv,Zw,Zx,Zy,Zz,V0,V1,V2]
    try simp only [V3,V4,V5,V6,V7,V8,V9,Va,Vb,Vc,Vd,Ve,Vf,Vg,Vh,Vi,Vj,V1,V2,Vk,Vl,reduceCtorEq,Vn,Vo,Vp,Vq]
    refine mix_at hS fun i1 l1 u1 => ?_
    try dsimp only [Y0,Y1,Y2,Y3,Y4,Y5,Y6,Y7,Y8,Y9,Ya,Yb,Yc,Yd,Ye,Yf,Yg,Yh,Yi,Yj,Yk,Yl,Ym,Yn,Yo,Yp,Yq,Yr,Ys,Yt,Yu,Yv,Yw,Yx,Yy,Yz,Z0,Z1,Z2,Z3,Z4,Z5,Z6,Z7,Z8,Z9,Za,Zb,Zc,Zd,Ze,Zf,Zg,Zh,Zi,Zj,Zk,Zl,Zm,Zn,Zo,Zp,Zq,Zr,Zs,Zt,Zu,Zv,Zw,Zx,Zy,Zz,V0,V1,V2]
    try simp only [V3,V4,V5,V6,V7,V8,V9,Va,Vb,Vc,Vd,Ve,Vf,Vg,Vh,Vi,Vj,V1,V2,Vk,Vl,reduceCtorEq,Vn,Vo,Vp,Vq]
    refine ⟨by decide, k1 _ _ ?_⟩
    clear k1 R
    refine seq_step fun R k1 => ?_
    try dsimp only [Y0,Y1,Y2,Y3,Y4,Y5,Y6,Y7,Y8,Y9,Ya,Yb,Yc,Yd,Ye,Yf,Yg,Yh,Yi,Yj,Yk,Yl,Ym,Yn,Yo,Yp,Yq,Yr,Ys,Yt,Yu,Yv,Yw,Yx,Yy,Yz,Z0,Z1,Z2,Z3,Z4,Z5,Z6,Z7,Z8,Z9,Za,Zb,Zc,Zd,Ze,Zf,Zg,Zh,Zi,Zj,Zk,Zl,Zm,Zn,Zo,Zp,Zq,Zr,Zs,Zt,Zu,Zv,Zw,Zx,Zy,Zz,V0,V1,V2]
    try simp only [V3,V4,V5,V6,V7,V8,V9,Va,Vb,Vc,Vd,Ve,Vf,Vg,Vh,Vi,Vj,V1,V2,Vk,Vl,reduceCtorEq,Vn,Vo,Vp,Vq]
    refine ⟨by decide, fun p2 hp2 => ?_⟩
    have S2 := same_upd (H := H) (o := .lst [.int 1, .int 2, .int 3, .int 5, .int 9, .int 12]) hp2
    refine mix_at (S2.seq hS) fun i2 l2 u2 => ?_
    try dsimp only [Y0,Y1,Y2,Y3,Y4,Y5,Y6,Y7,Y8,Y9,Ya,Yb,Yc,Yd,Ye,Yf,Yg,Yh,Yi,Yj,Yk,Yl,Ym,Yn,Yo,Yp,Yq,Yr,Ys,Yt,Yu,Yv,Yw,Yx,Yy,Yz,Z0,Z1,Z2,Z3,Z4,Z5,Z6,Z7,Z8,Z9,Za,Zb,Zc,Zd,Ze,Zf,Zg,Zh,Zi,Zj,Zk,Zl,Zm,Zn,Zo,Zp,Zq,Zr,Zs,Zt,Zu,Zv,Zw,Zx,Zy,Zz,V0,V1,V2]
    try simp only [V3,V4,V5,V6,V7,V8,V9,Va,Vb,Vc,Vd,Ve,Vf,Vg,Vh,Vi,Vj,V1,V2,Vk,Vl,reduceCtorEq,Vn,Vo,Vp,Vq]
    refine ⟨by decide, ?_⟩
    refine menu [1, 2, 3, 5, 9, 12] upd_same (by decide) (by rfl) fun le hle => k1 _ _ ?_
    clear k1 R
    try dsimp only [Y0,Y1,Y2,Y3,Y4,Y5,Y6,Y7,Y8,Y9,Ya,Yb,Yc,Yd,Ye,Yf,Yg,Yh,Yi,Yj,Yk,Yl,Ym,Yn,Yo,Yp,Yq,Yr,Ys,Yt,Yu,Yv,Yw,Yx,Yy,Yz,Z0,Z1,Z2,Z3,Z4,Z5,Z6,Z7,Z8,Z9,Za,Zb,Zc,Zd,Ze,Zf,Zg,Zh,Zi,Zj,Zk,Zl,Zm,Zn,Zo,Zp,Zq,Zr,Zs,Zt,Zu,Zv,Zw,Zx,Zy,Zz,V0,V1,V2]
    try simp only [V3,V4,V5,V6,V7,V8,V9,Va,Vb,Vc,Vd,Ve,Vf,Vg,Vh,Vi,Vj,V1,V2,Vk,Vl,reduceCtorEq,Vn,Vo,Vp,Vq]
    refine ⟨by decide, fun p3 hp3 => ?_⟩
    have S3 := S2.trans (same_upd (o := .lst [.int 1, .int 1, .int 2, .int 3, .int 3, .int 5]) hp3)
    refine mix_at (S3.seq hS) fun i3 l3 u3 => ?_
    try dsimp only [Y0,Y1,Y2,Y3,Y4,Y5,Y6,Y7,Y8,Y9,Ya,Yb,Yc,Yd,Ye,Yf,Yg,Yh,Yi,Yj,Yk,Yl,Ym,Yn,Yo,Yp,Yq,Yr,Ys,Yt,Yu,Yv,Yw,Yx,Yy,Yz,Z0,Z1,Z2,Z3,Z4,Z5,Z6,Z7,Z8,Z9,Za,Zb,Zc,Zd,Ze,Zf,Zg,Zh,Zi,Zj,Zk,Zl,Zm,Zn,Zo,Zp,Zq,Zr,Zs,Zt,Zu,Zv,Zw,Zx,Zy,Zz,V0,V1,V2]
    try simp only [V3,V4,V5,V6,V7,V8,V9,Va,Vb,Vc,Vd,Ve,Vf,Vg,Vh,Vi,Vj,V1,V2,Vk,Vl,reduceCtorEq,Vn,Vo,Vp,Vq]
    refine ⟨by decide, ?_⟩
    refine menu [1, 1, 2, 3, 3, 5] upd_same (by decide) (by rfl) fun ke hke => ?_
    try dsimp only [Y0,Y1,Y2,Y3,Y4,Y5,Y6,Y7,Y8,Y9,Ya,Yb,Yc,Yd,Ye,Yf,Yg,Yh,Yi,Yj,Yk,Yl,Ym,Yn,Yo,Yp,Yq,Yr,Ys,Yt,Yu,Yv,Yw,Yx,Yy,Yz,Z0,Z1,Z2,Z3,Z4,Z5,Z6,Z7,Z8,Z9,Za,Zb,Zc,Zd,Ze,Zf,Zg,Zh,Zi,Zj,Zk,Zl,Zm,Zn,Zo,Zp,Zq,Zr,Zs,Zt,Zu,Zv,Zw,Zx,Zy,Zz,V0,V1,V2]
    try simp only [V3,V4,V5,V6,V7,V8,V9,Va,Vb,Vc,Vd,Ve,Vf,Vg,Vh,Vi,Vj,V1,V2,Vk,Vl,reduceCtorEq,Vn,Vo,Vp,Vq]
    refine ⟨by decide, fun p4 hp4 => ?_⟩
    have hle := menu_in (a := 1) (b := 12) hle (by decide)
    have hke := menu_in (a := 1) (b := 5) hke (by decide)
    have a0 := Int.emod_nonneg i0 (show (3 : Int) ≠ 0 by decide)
    have b0 := Int.emod_lt_of_pos i0 (show (0 : Int) < 3 by decide)
    have a1 := Int.emod_nonneg i1 (show (3 : Int) ≠ 0 by decide)
    have b1 := Int.emod_lt_of_pos i1 (show (0 : Int) < 3 by decide)
    exact q _ _ _ _ p4 _ ⟨by omega, by omega, by omega, by omega, hle.1, hle.2, hke.1, hke.2⟩ (S3.trans (same_upd hp4)) (S3.free hp4) upd_same
theorem wait_val {lo hi le n : Int} (d : 1 ≤ lo) (h1 : le ≤ n * lo) (h2 : n = 0 ∨ (n - 1) * lo < le) (h3 : 1 ≤ le) : n = (le + lo - 1) / lo := by
  have e1 := Int.mul_ediv_add_emod (le + lo - 1) lo
  have e2 := Int.emod_nonneg (le + lo - 1) (show lo ≠ 0 by omega)
  have e3 := Int.emod_lt_of_pos (le + lo - 1) (show 0 < lo by omega)
  generalize (le + lo - 1) / lo = k at e1 ⊢
  generalize (le + lo - 1) % lo = r at e1 e2 e3
  rcases h2 with z | h2
  · subst z
    rw [Int.zero_mul] at h1
    omega
  · rw [Int.sub_mul] at h2
    have c1 : n * lo < (k + 1) * lo := by rw [Int.add_mul, Int.mul_comm k lo]; omega
    have c2 : (k - 1) * lo < n * lo := by rw [Int.sub_mul, Int.mul_comm k lo]; omega
    have d1 : n < k + 1 := Int.lt_of_mul_lt_mul_right c1 (by omega)
    have d2 : k - 1 < n := Int.lt_of_mul_lt_mul_right c2 (by omega)
    omega
theorem ok_law_wait (T : Txt K mg t) : FnOk P w K mg base CX0 1 t.f_law_wait t.d_law_wait ["_law_terms_here"] sp_law_wait := by
  refine T.F_law_wait.ok sc_law_wait (fun vs H Q E h => ?_) (fun cdv A outer s H vs Q E hr h => ?_)
  · obtain ⟨p, lo, hi, le, ke, rfl, _⟩ := h
    rfl
  · obtain ⟨p, lo, hi, le, ke, rfl, hp, d, q⟩ := h
    refine ⟨_, (jss_cons (js_set (i := 1) nc_const sc_law_wait.nd rfl lo_law_wait__law_ticks_here je_int)
      (jss_cons (js_while PassesOwn.never (jt_cmp jo_lt (je_op jo_mul (je_var (i := 1) nm__law_ticks_here lo_law_wait__law_ticks_here rfl) (je_ix jx_tup (je_var (i := 0) nm__law_terms_here lo_law_wait__law_terms_here rfl) je_int (fun _ _ => rfl))) (je_ix jx_tup (je_var (i := 0) nm__law_terms_here lo_law_wait__law_terms_here rfl) je_int (fun _ _ => rfl)) (by decide) (by decide)) (jss_one (js_set (i := 1) nc_bin sc_law_wait.nd rfl lo_law_wait__law_ticks_here (je_op jo_add (je_var (i := 1) nm__law_ticks_here lo_law_wait__law_ticks_here rfl) je_int))))
      (jss_one (js_ret (je_op jo_mul (je_ix jx_tup (je_var (i := 0) nm__law_terms_here lo_law_wait__law_terms_here rfl) je_int (fun _ _ => rfl)) (je_var (i := 1) nm__law_ticks_here lo_law_wait__law_ticks_here rfl)))))).h, ?_⟩
    dsimp only [cxOf_K, L2.start, List.map_cons, List.map_nil, List.length_cons, List.length_nil, List.cons_append, List.nil_append, List.replicate]
    refine fix_s (by simp only [List.map_cons, List.map_nil, List.cons_append, List.nil_append, Nat.sub_self, List.replicate, List.append_nil]; exact rfl) ?_
    refine seq_step fun R k1 => ?_
    try dsimp only [Y0,Y1,Y2,Y3,Y4,Y5,Y6,Y7,Y8,Y9,Ya,Yb,Yc,Yd,Ye,Yf,Yg,Yh,Yi,Yj,Yk,Yl,Ym,Yn,Yo,Yp,Yq,Yr,Ys,Yt,Yu,Yv,Yw,Yx,Yy,Yz,Z0,Z1,Z2,Z3,Z4,Z5,Z6,Z7,Z8,Z9,Za,Zb,Zc,Zd,Ze,Zf,Zg,Zh,Zi,Zj,Zk,Zl,Zm,Zn,Zo,Zp,Zq,Zr,Zs,Zt,Zu,Zv,Zw,Zx,Zy,Zz,V0,V1,V2]
    try simp only [V3,V4,V5,V6,V7,V8,V9,Va,Vb,Vc,Vd,Ve,Vf,Vg,Vh,Vi,Vj,V1,V2,Vk,Vl,reduceCtorEq,Vn,Vo,Vp,Vq]
    refine k1 _ _ ?_
    clear k1 R
    refine seq_step fun R k1 => ?_
    obtain ⟨dl1, dl2, dh1, dh2, de1, de2, dk1, dk2⟩ := d
    refine ⟨fun m σ H' => ∃ n : Int, σ = [some (.ref p), some (.int n)] ∧ H' = H ∧ 0 ≤ n ∧ n ≤ 12 ∧ (n = 0 ∨ (n - 1) * lo < le) ∧ m = (le - n).toNat, ⟨_, 0, rfl, rfl, by omega, by omega, .inl rfl, rfl⟩, ?_⟩
    rintro m σ H' ⟨n, rfl, rfl, n0, n12, hn, rfl⟩
    try dsimp only [Y0,Y1,Y2,Y3,Y4,Y5,Y6,Y7,Y8,Y9,Ya,Yb,Yc,Yd,Ye,Yf,Yg,Yh,Yi,Yj,Yk,Yl,Ym,Yn,Yo,Yp,Yq,Yr,Ys,Yt,Yu,Yv,Yw,Yx,Yy,Yz,Z0,Z1,Z2,Z3,Z4,Z5,Z6,Z7,Z8,Z9,Za,Zb,Zc,Zd,Ze,Zf,Zg,Zh,Zi,Zj,Zk,Zl,Zm,Zn,Zo,Zp,Zq,Zr,Zs,Zt,Zu,Zv,Zw,Zx,Zy,Zz,V0,V1,V2]
    try simp only [V3,V4,V5,V6,V7,V8,V9,Va,Vb,Vc,Vd,Ve,Vf,Vg,Vh,Vi,Vj,V1,V2,Vk,Vl,reduceCtorEq,Vn,Vo,Vp,Vq]
    refine rd_ixT (SqT.of hp) (v := .int lo) rfl ?_
    try dsimp only [Y0,Y1,Y2,Y3,Y4,Y5,Y6,Y7,Y8,Y9,Ya,Yb,Yc,Yd,Ye,Yf,Yg,Yh,Yi,Yj,Yk,Yl,Ym,Yn,Yo,Yp,Yq,Yr,Ys,Yt,Yu,Yv,Yw,Yx,Yy,Yz,Z0,Z1,Z2,Z3,Z4,Z5,Z6,Z7,Z8,Z9,Za,Zb,Zc,Zd,Ze,Zf,Zg,Zh,Zi,Zj,Zk,Zl,Zm,Zn,Zo,Zp,Zq,Zr,Zs,Zt,Zu,Zv,Zw,Zx,Zy,Zz,V0,V1,V2]
    try simp only [V3,V4,V5,V6,V7,V8,V9,Va,Vb,Vc,Vd,Ve,Vf,Vg,Vh,Vi,Vj,V1,V2,Vk,Vl,reduceCtorEq,Vn,Vo,Vp,Vq]
    refine ⟨.inl ⟨by omega, by omega⟩, rd_ixT (SqT.of hp) (v := .int le) rfl ?_⟩
    try dsimp only [Y0,Y1,Y2,Y3,Y4,Y5,Y6,Y7,Y8,Y9,Ya,Yb,Yc,Yd,Ye,Yf,Yg,Yh,Yi,Yj,Yk,Yl,Ym,Yn,Yo,Yp,Yq,Yr,Ys,Yt,Yu,Yv,Yw,Yx,Yy,Yz,Z0,Z1,Z2,Z3,Z4,Z5,Z6,Z7,Z8,Z9,Za,Zb,Zc,Zd,Ze,Zf,Zg,Zh,Zi,Zj,Zk,Zl,Zm,Zn,Zo,Zp,Zq,Zr,Zs,Zt,Zu,Zv,Zw,Zx,Zy,Zz,V0,V1,V2]
    try simp only [V3,V4,V5,V6,V7,V8,V9,Va,Vb,Vc,Vd,Ve,Vf,Vg,Vh,Vi,Vj,V1,V2,Vk,Vl,reduceCtorEq,Vn,Vo,Vp,Vq]
    split
    · rename_i hlt
      have hnl : n < le := by
        have : n * 1 ≤ n * lo := Int.mul_le_mul_of_nonneg_left dl1 n0
        omega
      refine ⟨fun σ' H'' => σ' = [some (.ref p), some (.int (n + 1))] ∧ H'' = H', ?_, rfl, rfl⟩
      rintro σ' H'' ⟨rfl, rfl⟩
      refine ⟨(le - (n + 1)).toNat, by omega, n + 1, rfl, rfl, by omega, by omega, .inr ?_, rfl⟩
      rw [Int.add_sub_cancel]
      exact hlt
    · rename_i hge
      refine k1 _ _ ?_
      try dsimp only [Y0,Y1,Y2,Y3,Y4,Y5,Y6,Y7,Y8,Y9,Ya,Yb,Yc,Yd,Ye,Yf,Yg,Yh,Yi,Yj,Yk,Yl,Ym,Yn,Yo,Yp,Yq,Yr,Ys,Yt,Yu,Yv,Yw,Yx,Yy,Yz,Z0,Z1,Z2,Z3,Z4,Z5,Z6,Z7,Z8,Z9,Za,Zb,Zc,Zd,Ze,Zf,Zg,Zh,Zi,Zj,Zk,Zl,Zm,Zn,Zo,Zp,Zq,Zr,Zs,Zt,Zu,Zv,Zw,Zx,Zy,Zz,V0,V1,V2]
      try simp only [V3,V4,V5,V6,V7,V8,V9,Va,Vb,Vc,Vd,Ve,Vf,Vg,Vh,Vi,Vj,V1,V2,Vk,Vl,reduceCtorEq,Vn,Vo,Vp,Vq]
      refine rd_ixT (SqT.of hp) (v := .int hi) rfl ?_
      try dsimp only [Y0,Y1,Y2,Y3,Y4,Y5,Y6,Y7,Y8,Y9,Ya,Yb,Yc,Yd,Ye,Yf,Yg,Yh,Yi,Yj,Yk,Yl,Ym,Yn,Yo,Yp,Yq,Yr,Ys,Yt,Yu,Yv,Yw,Yx,Yy,Yz,Z0,Z1,Z2,Z3,Z4,Z5,Z6,Z7,Z8,Z9,Za,Zb,Zc,Zd,Ze,Zf,Zg,Zh,Zi,Zj,Zk,Zl,Zm,Zn,Zo,Zp,Zq,Zr,Zs,Zt,Zu,Zv,Zw,Zx,Zy,Zz,V0,V1,V2]
      try simp only [V3,V4,V5,V6,V7,V8,V9,Va,Vb,Vc,Vd,Ve,Vf,Vg,Vh,Vi,Vj,V1,V2,Vk,Vl,reduceCtorEq,Vn,Vo,Vp,Vq]
      refine ⟨.inl ⟨by omega, by omega⟩, ?_⟩
      have e : n = (le + lo - 1) / lo := wait_val (hi := hi) dl1 (by omega) hn de1
      have e2 : hi * n = waitOf lo hi le := by
        unfold waitOf
        rw [← e, Int.mul_comm]
      rw [e2]
      exact q
end
/-- from H to H' nothing changed but the objects S of one thing, which are now S' -/
def Fr (H H' : Hp) (S S' : List Addr) : Prop := (∀ x o, H x = some o → x ∉ S → H' x = some o) ∧ ∀ x, x ∈ S' → x ∈ S ∨ H x = none
theorem fr_new {H H' : Hp} {B : List Addr} (s : Same H H') (h : ∀ x, x ∈ B → H x = none) : Fr H H' [] B := ⟨fun x o e _ => s x o e, fun x hx => .inr (h x hx)⟩
/-- what nobody changes once it stands: a tuple, terms -/
def Fx (t : Adr) (o : HO) : Prop := (∃ xs, o = .tup xs) ∨ ∃ dx lo hi le ke, o = .ins t.Terms dx (terms lo hi le ke)
theorem fx_tup {t : Adr} {xs : List V} : Fx t (.tup xs) := .inl ⟨xs, rfl⟩
/-- Th speaks of the objects S and of fixed ones alone -/
structure Foot (t : Adr) (S : List Addr) (Th : Hp → Prop) : Prop where
  some : ∀ H, Th H → ∀ x, x ∈ S → ∃ o, H x = some o ∧ ¬ Fx t o
  frame : ∀ H H', Th H → (∀ x o, H x = Option.some o → x ∈ S → H' x = Option.some o) → (∀ x o, H x = Option.some o → Fx t o → H' x = Option.some o) → Th H'
structure Fam (t : Adr) (H : Hp) (S : Nat → List Addr) (Th : Nat → Hp → Prop) : Prop where
  th : ∀ i, Th i H
  ft : ∀ i, Foot t (S i) (Th i)
  dj : ∀ i j, i ≠ j → ∀ x, x ∈ S i → x ∉ S j
def atS {α : Type} (f : Nat → α) (i : Nat) (a : α) : Nat → α := fun j => if j = i then a else f j
theorem atS_same {α : Type} {f : Nat → α} {i : Nat} {a : α} : atS f i a i = a := if_pos rfl
theorem atS_ne {α : Type} {f : Nat → α} {i j : Nat} {a : α} (h : j ≠ i) : atS f i a j = f j := if_neg h
theorem Foot.none {t : Adr} : Foot t [] (fun _ => True) := ⟨fun _ _ x hx => (by cases hx), fun _ _ _ _ _ => trivial⟩
section
variable {t : Adr} {H H' : Hp} {S : Nat → List Addr} {Th : Nat → Hp → Prop} {i : Nat} {S' : List Addr} {Th' : Hp → Prop}
theorem Fam.fx (F : Fam t H S Th) (f : Fr H H' (S i) S') : ∀ x o, H x = some o → Fx t o → H' x = some o := fun x o e fo => f.1 _ _ e fun hx => by
  obtain ⟨o, e1, e2⟩ := (F.ft i).some H (F.th i) x hx
  rw [e] at e1
  cases e1
  exact e2 fo
theorem Fam.step (F : Fam t H S Th) (f : Fr H H' (S i) S') (ft : Foot t S' Th') (h : Th' H') : Fam t H' (atS S i S') (atS Th i Th') := by
  have tf := F.fx f
  refine ⟨fun j => ?_, fun j => ?_, fun j k hne x hx hk => ?_⟩
  · by_cases e : j = i
    · subst e
      rw [atS_same]
      exact h
    · rw [atS_ne e]
      exact (F.ft j).frame H H' (F.th j) (fun x o e1 hx => f.1 _ _ e1 fun hi => F.dj j i e x hx hi) tf
  · by_cases e : j = i
    · subst e
      rw [atS_same, atS_same]
      exact ft
    · rw [atS_ne e, atS_ne e]
      exact F.ft j
  · have new : ∀ k x, k ≠ i → x ∈ S' → x ∈ S k → False := fun k x hne hx hk => by
      rcases f.2 x hx with y | y
      · exact F.dj i k hne.symm x y hk
      · obtain ⟨o, e, _⟩ := (F.ft k).some H (F.th k) x hk
        rw [e] at y
        cases y
    by_cases e : j = i
    · subst e
      rw [atS_same] at hx
      rw [atS_ne hne.symm] at hk
      exact new k x hne.symm hx hk
    · rw [atS_ne e] at hx
      by_cases e2 : k = i
      · subst e2
        rw [atS_same] at hk
        exact new j x e hk hx
      · rw [atS_ne e2] at hk
        exact F.dj j k hne x hx hk
theorem Fam.same (F : Fam t H S Th) (f : Same H H') : Fam t H' S Th :=
  ⟨fun j => (F.ft j).frame H H' (F.th j) (fun x o e _ => f x o e) fun x o e _ => f x o e, F.ft, F.dj⟩
/-- the same family, said otherwise -/
theorem Fam.as {S2 : Nat → List Addr} {Th2 : Nat → Hp → Prop} (F : Fam t H S Th) (e1 : ∀ i, S i = S2 i) (e2 : ∀ i, Th i = Th2 i) : Fam t H S2 Th2 := by
  have a : S = S2 := funext e1
  have b : Th = Th2 := funext e2
  rw [← a, ← b]
  exact F
end
/-- a list of the caller's as a thing of the family -/
theorem sq_thing {t : Adr} {K : PySem.W.Frag} {H : Hp} {a : Addr} {xs : List V} (h : SqL K H a xs) : ∃ (S : List Addr) (Th : Hp → Prop), Foot t S Th ∧ Th H ∧ (∀ H', Th H' → SqL K H' a xs) ∧ ∀ x, x ∈ S → ∃ o, H x = some o := by
  rcases h with h | h
  · refine ⟨[a], fun H => Rd H a (.lst xs), ⟨fun H1 h1 x hx => ?_, fun H1 H2 h1 f _ => ?_⟩, h, fun H' h' => .inl h', fun x hx => ?_⟩
    · rw [List.mem_singleton] at hx
      subst hx
      rcases h1 with h1 | ⟨o, h1⟩
      · exact ⟨_, h1, by rintro (⟨_, z⟩ | ⟨_, _, _, _, _, z⟩) <;> cases z⟩
      · exact ⟨_, h1, by rintro (⟨_, z⟩ | ⟨_, _, _, _, _, z⟩) <;> cases z⟩
    · rcases h1 with h1 | ⟨o, h1⟩
      · exact .inl (f _ _ h1 (List.mem_singleton.mpr rfl))
      · exact .inr ⟨o, f _ _ h1 (List.mem_singleton.mpr rfl)⟩
    · rw [List.mem_singleton] at hx
      subst hx
      rcases h with h | ⟨o, h⟩
      · exact ⟨_, h⟩
      · exact ⟨_, h⟩
  · exact ⟨[], fun _ => True, Foot.none, trivial, fun H' _ => .inr h, fun x hx => by cases hx⟩
theorem Fam.solo {t : Adr} {H : Hp} {a : List Addr} {x : Hp → Prop} (ft : Foot t a x) (h : x H) : Fam t H (atS (fun _ => []) 0 a) (atS (fun _ _ => True) 0 x) := by
  refine ⟨fun i => ?_, fun i => ?_, fun i j hne y hy hj => ?_⟩
  · by_cases e : i = 0
    · rw [e, atS_same]; exact h
    · rw [atS_ne e]; exact trivial
  · by_cases e : i = 0
    · rw [e, atS_same, atS_same]; exact ft
    · rw [atS_ne e, atS_ne e]; exact Foot.none
  · by_cases e : i = 0
    · rw [atS_ne fun z => hne (e.trans z.symm)] at hj
      cases hj
    · rw [atS_ne e] at hy
      cases hy
section
variable {t : Adr} {H H' : Hp} {a b c s : List Addr} {x y z u : Hp → Prop}
end
inductive P_sp_gone_on (t : Adr) (vs : List V) (H : Hp) (Q : VK) (E : XK) : Prop
  | mk (latest clock : Int) (h0_ : vs = [.int latest, .int clock]) (h1_ : Small latest) (h2_ : Small clock) (h3_ : (clock < latest → E (.ref t.Back) none H)) (h4_ : (¬ clock < latest → Q (.int clock) H)) : P_sp_gone_on t vs H Q E
def sp_gone_on (t : Adr) : Sp := fun vs H Q E => P_sp_gone_on t vs H Q E
section
variable {P : Program} {w : World} {K : PySem.W.Frag} {mg : Str → Option Value} {base : Heap} {t : Adr}
theorem ok_gone_on (T : Txt K mg t) : FnOk P w K mg base (CXF P w) 1 t.f_gone_on t.d_gone_on ["latest", "clock"] (sp_gone_on t) := by
  refine T.F_gone_on.okX sc_gone_on (fun vs H Q E h => ?_) (fun cdv A outer s H vs Q E hr h => ?_)
  · obtain ⟨latest, clock, rfl, _⟩ := h
    rfl
  · obtain ⟨latest, clock, rfl, s1, s2, qe, q⟩ := h
    refine ⟨_, (jssx_cons (jsx_if (jt_cmp jo_lt (je_var (i := 1) nm_clock lo_gone_on_clock rfl) (je_var (i := 0) nm_latest lo_gone_on_latest rfl) (by decide) (by decide)) (jssx_one (jsx_raise nm_Back rfl lo_gone_on_Back T.m_Back T.n_Back T.x_Back PySem.F.excBase_ValueError sx_join ns_nil (ja_cons sx_join (je_fstr (jfs_cons (jf_str (by decide)) (jfs_cons (jf_int (je_var (i := 1) nm_clock lo_gone_on_clock rfl)) (jfs_cons (jf_str (by decide)) (jfs_cons (jf_int (je_var (i := 0) nm_latest lo_gone_on_latest rfl)) (jfs_cons (jf_str (by decide)) jfs_nil rfl) rfl) rfl) rfl) rfl) (by decide)) ja_nil))) jssx_nil)
      (jssx_one (jx (js_ret (je_var (i := 1) nm_clock lo_gone_on_clock rfl))))).h, ?_⟩
    dsimp only [cxOf_K, L2.start, List.map_cons, List.map_nil, List.length_cons, List.length_nil, List.cons_append, List.nil_append, List.replicate]
    refine fix_x (by simp only [List.map_cons, List.map_nil, List.cons_append, List.nil_append, Nat.sub_self, List.replicate, List.append_nil]; exact rfl) ?_
    refine xseq_step fun R k => ?_
    try dsimp only [Y0,Y1,Y2,Y3,Y4,Y5,Y6,Y7,Y8,Y9,Ya,Yb,Yc,Yd,Ye,Yf,Yg,Yh,Yi,Yj,Yk,Yl,Ym,Yn,Yo,Yp,Yq,Yr,Ys,Yt,Yu,Yv,Yw,Yx,Yy,Yz,Z0,Z1,Z2,Z3,Z4,Z5,Z6,Z7,Z8,Z9,Za,Zb,Zc,Zd,Ze,Zf,Zg,Zh,Zi,Zj,Zk,Zl,Zm,Zn,Zo,Zp,Zq,Zr,Zs,Zt,Zu,Zv,Zw,Zx,Zy,Zz,V0,V1,V2]
    try simp only [V3,V4,V5,V6,V7,V8,V9,Va,Vb,Vc,Vd,Ve,Vf,Vg,Vh,Vi,Vj,V1,V2,Vk,Vl,reduceCtorEq,Vn,Vo,Vp,Vq]
    split
    · rename_i h1
      exact ⟨s2.log, s1.log, fun _ => ⟨by decide, qe h1⟩⟩
    · rename_i h1
      refine k _ _ ?_
      try dsimp only [Y0,Y1,Y2,Y3,Y4,Y5,Y6,Y7,Y8,Y9,Ya,Yb,Yc,Yd,Ye,Yf,Yg,Yh,Yi,Yj,Yk,Yl,Ym,Yn,Yo,Yp,Yq,Yr,Ys,Yt,Yu,Yv,Yw,Yx,Yy,Yz,Z0,Z1,Z2,Z3,Z4,Z5,Z6,Z7,Z8,Z9,Za,Zb,Zc,Zd,Ze,Zf,Zg,Zh,Zi,Zj,Zk,Zl,Zm,Zn,Zo,Zp,Zq,Zr,Zs,Zt,Zu,Zv,Zw,Zx,Zy,Zz,V0,V1,V2]
      try simp only [V3,V4,V5,V6,V7,V8,V9,Va,Vb,Vc,Vd,Ve,Vf,Vg,Vh,Vi,Vj,V1,V2,Vk,Vl,reduceCtorEq,Vn,Vo,Vp,Vq]
      exact q h1
end
/-- to whom it last let: the name, the number's tuple, the number -/
structure Let where
  name : Int
  at_ : Addr
  a : Int
  b : Int
def nmV : Option Let → V
  | none => .non
  | some l => .int l.name
/-- a number is less, is as great -/
def ltN (a b c d : Int) : Prop := a < c ∨ a = c ∧ b < d
theorem ltN_not {a b c d : Int} : (c < a ∨ a = c ∧ d ≤ b) ↔ ¬ ltN a b c d := by unfold ltN; omega
instance (a b c d : Int) : Decidable (ltN a b c d) := by unfold ltN; infer_instance
structure KW where
  c : Int
  u : Int
  st : Option Let
/-- what the law's own keeper answers, and how it stands behind it -/
def due (k : KW) (wt way clock name : Int) (q : Addr) (a b : Int) : V × KW :=
  if clock < k.c then (.str "back", k)
  else if way = 2 then ((if clock < k.u then nmV k.st else .non), { k with c := clock })
  else if way = 1 then (.non, match k.st with
    | some l => if l.name = name ∧ ¬ ltN a b l.a l.b then { k with c := clock, u := min k.u clock } else { k with c := clock }
    | none => { k with c := clock })
  else if clock < k.u then (match k.st with
    | none => (.bl false, { k with c := clock })
    | some l => if l.name ≠ name ∨ ltN a b l.a l.b then (.bl false, { k with c := clock }) else if a = l.a ∧ b = l.b then (.bl true, { k with c := clock }) else (.bl true, ⟨clock, clock + wt, some ⟨name, q, a, b⟩⟩))
  else (.bl true, ⟨clock, clock + wt, some ⟨name, q, a, b⟩⟩)
abbrev kf (wt latest : Int) (nm nu : V) (over : Int) : List (Str × V) := flds_Keeper (.int wt) (.int latest) nm nu (.int over)
/-- what was let last, as the fields say it -/
def Lets (H : Hp) (nm nu : V) : Option Let → Prop
  | none => nm = .non
  | some l => nm = .int l.name ∧ ∃ r, nu = .ref r ∧ H r = some (.tup [.int l.a, .int l.b])
theorem lets_eq {H H' : Hp} {nm nu : V} {st : Option Let} (f : ∀ r xs, H r = some (.tup xs) → H' r = some (.tup xs)) (h : Lets H nm nu st) : Lets H' nm nu st := by
  cases st with
  | none => exact h
  | some l =>
    obtain ⟨e1, r, e2, e3⟩ := h
    exact ⟨e1, r, e2, f _ _ e3⟩
/-- the keeper stands in the heap as the document's keeper k does; S are its own objects -/
inductive KAt (t : Adr) (H : Hp) (p : Addr) (S : List Addr) (wt : Int) (k : KW) : Prop
  | mk (dx : Addr) (over : Int) (nm nu : V) (h0_ : S = [p]) (h1_ : H p = some (.ins t.Keeper dx (kf wt k.c nm nu over))) (h2_ : Lets H nm nu k.st) (h3_ : (k.c < k.u → over = k.u)) (h4_ : (¬ k.c < k.u → over ≤ k.c)) (h5_ : Small k.c) : KAt t H p S wt k
theorem KAt.frame {t : Adr} {H H' : Hp} {p : Addr} {S : List Addr} {wt : Int} {k : KW} (h : KAt t H p S wt k) (f : ∀ x o, H x = some o → x ∈ S → H' x = some o) (ft : ∀ x o, H x = some o → Fx t o → H' x = some o) : KAt t H' p S wt k := by
  obtain ⟨dx, over, nm, nu, rfl, h1, h2, h3, h4, h5⟩ := h
  exact ⟨dx, over, nm, nu, rfl, f _ _ h1 (List.mem_singleton.mpr rfl), lets_eq (fun r xs e => ft _ _ e fx_tup) h2, h3, h4, h5⟩
theorem KAt.some {t : Adr} {H : Hp} {p : Addr} {S : List Addr} {wt : Int} {k : KW} (h : KAt t H p S wt k) : p ∈ S ∧ ∀ x, x ∈ S → ∃ o, H x = Option.some o ∧ ¬ Fx t o := by
  obtain ⟨dx, over, nm, nu, rfl, h1, _⟩ := h
  refine ⟨List.mem_singleton.mpr rfl, fun x hx => ?_⟩
  rw [List.mem_singleton] at hx
  subst hx
  exact ⟨_, h1, by
    rintro (⟨_, z⟩ | ⟨_, _, _, _, _, z⟩)
    · cases z
    · injection z with _ _ z
      exact absurd (congrArg List.length z) (show ¬ (5 : Nat) = 4 by decide)⟩
theorem KAt.meth {t : Adr} {H : Hp} {p : Addr} {S : List Addr} {wt : Int} {k : KW} (h : KAt t H p S wt k) : ∃ dx fs, H p = Option.some (.ins t.Keeper dx fs) ∧ fs.lookup ("asked" : Str) = none ∧ fs.lookup ("freed" : Str) = none ∧ fs.lookup ("let_to" : Str) = none := by
  obtain ⟨dx, over, nm, nu, rfl, h1, _⟩ := h
  exact ⟨_, _, h1, (by rfl), (by rfl), (by rfl)⟩
/-- what is answered or raised -/
def OutK (t : Adr) (Q : VK) (E : XK) (H' : Hp) : V → Prop
  | .str _ => E (.ref t.Back) none H'
  | x => Q x H'
inductive P_sp_Keeper_init (t : Adr) (vs : List V) (H : Hp) (Q : VK) (E : XK) : Prop
  | mk (p dx tm dt : Addr) (lo hi le ke c : Int) (h0_ : vs = [.ref p, .ref tm, .int c]) (h1_ : H p = some (.ins t.Keeper dx [])) (h2_ : H tm = some (.ins t.Terms dt (terms lo hi le ke))) (h3_ : good lo hi le ke) (h4_ : Small c) (h5_ : ∀ H' S, (∀ x o, H x = some o → x ≠ p → H' x = some o) → (∀ x, x ∈ S → x = p ∨ H x = none) → KAt t H' p S (waitOf lo hi le) ⟨c, c + waitOf lo hi le, none⟩ → Q .non H') : P_sp_Keeper_init t vs H Q E
def sp_Keeper_init (t : Adr) : Sp := fun vs H Q E => P_sp_Keeper_init t vs H Q E
/-- a method by the law's own keeper -/
inductive P_sp_way (t : Adr) (way : Int) (args : Int → Int → Addr → List V) (vs : List V) (H : Hp) (Q : VK) (E : XK) : Prop
  | mk (p : Addr) (S : List Addr) (wt : Int) (k : KW) (clock name : Int) (q : Addr) (a b : Int) (h0_ : vs = .ref p :: args clock name q) (h1_ : KAt t H p S wt k) (h2_ : Small clock) (h3_ : (way ≠ 2 → H q = some (.tup [.int a, .int b]))) (h4_ : ∀ H' S', Fr H H' S S' → KAt t H' p S' wt (due k wt way clock name q a b).2 → OutK t Q E H' (due k wt way clock name q a b).1) : P_sp_way t way args vs H Q E
def sp_way (t : Adr) (way : Int) (args : Int → Int → Addr → List V) : Sp := fun vs H Q E => P_sp_way t way args vs H Q E
abbrev sp_Keeper_asked (t : Adr) : Sp := sp_way t 0 fun c n q => [.int c, .int n, .ref q]
abbrev sp_Keeper_freed (t : Adr) : Sp := sp_way t 1 fun c n q => [.int c, .int n, .ref q]
section
variable {P : Program} {w : World} {K : PySem.W.Frag} {mg : Str → Option Value} {base : Heap} {t : Adr}
theorem ok_Keeper_init (T : Txt K mg t) : FnOk P w K mg base CX0 3 t.f_Keeper_init t.d_Keeper_init ["self", "terms", "clock"] (sp_Keeper_init t) := by
  refine T.F_Keeper_init.ok sc_Keeper_init (fun vs H Q E h => ?_) (fun cdv A outer s H vs Q E hr h => ?_)
  · obtain ⟨p, dx, tm, dt, lo, hi, le, ke, c, rfl, _⟩ := h
    rfl
  · obtain ⟨p, dx, tm, dt, lo, hi, le, ke, c, rfl, hp, ht, g, sc, q⟩ := h
    refine ⟨_, (jss_cons (js_fld nc_call (je_var (i := 0) nm_self lo_Keeper_init_self rfl) (je_meth0 bs_name rfl (je_var (i := 1) nm_terms lo_Keeper_init_terms rfl) T.cl_Terms T.h_Terms_wait (ok_Terms_wait T) (hr.mono (by decide)) T.b_Terms_wait pass0))
      (jss_cons (js_fld nc_name (je_var (i := 0) nm_self lo_Keeper_init_self rfl) (je_var (i := 2) nm_clock lo_Keeper_init_clock rfl))
      (jss_cons (js_fld nc_const (je_var (i := 0) nm_self lo_Keeper_init_self rfl) je_non)
      (jss_cons (js_fld nc_const (je_var (i := 0) nm_self lo_Keeper_init_self rfl) je_non)
      (jss_one (js_fld nc_bin (je_var (i := 0) nm_self lo_Keeper_init_self rfl) (je_op jo_add (je_var (i := 2) nm_clock lo_Keeper_init_clock rfl) (je_fld bs_name (je_var (i := 0) nm_self lo_Keeper_init_self rfl))))))))).h, ?_⟩
    dsimp only [cxOf_K, L2.start, List.map_cons, List.map_nil, List.length_cons, List.length_nil, List.cons_append, List.nil_append, List.replicate]
    refine fix_s (by simp only [List.map_cons, List.map_nil, List.cons_append, List.nil_append, Nat.sub_self, List.replicate, List.append_nil]; exact rfl) ?_
    refine seq_step fun R k => ?_
    try dsimp only [Y0,Y1,Y2,Y3,Y4,Y5,Y6,Y7,Y8,Y9,Ya,Yb,Yc,Yd,Ye,Yf,Yg,Yh,Yi,Yj,Yk,Yl,Ym,Yn,Yo,Yp,Yq,Yr,Ys,Yt,Yu,Yv,Yw,Yx,Yy,Yz,Z0,Z1,Z2,Z3,Z4,Z5,Z6,Z7,Z8,Z9,Za,Zb,Zc,Zd,Ze,Zf,Zg,Zh,Zi,Zj,Zk,Zl,Zm,Zn,Zo,Zp,Zq,Zr,Zs,Zt,Zu,Zv,Zw,Zx,Zy,Zz,V0,V1,V2]
    try simp only [V3,V4,V5,V6,V7,V8,V9,Va,Vb,Vc,Vd,Ve,Vf,Vg,Vh,Vi,Vj,V1,V2,Vk,Vl,reduceCtorEq,Vn,Vo,Vp,Vq]
    refine me_Terms_wait ht ⟨tm, dt, lo, hi, le, ke, rfl, ht, g, ?_⟩
    refine rd_put hp T.cl_Keeper T.nf_Keeper_pause (by decide : 0 < 1000) (k _ _ ?_)
    clear k R
    refine seq_step fun R k => ?_
    try dsimp only [Y0,Y1,Y2,Y3,Y4,Y5,Y6,Y7,Y8,Y9,Ya,Yb,Yc,Yd,Ye,Yf,Yg,Yh,Yi,Yj,Yk,Yl,Ym,Yn,Yo,Yp,Yq,Yr,Ys,Yt,Yu,Yv,Yw,Yx,Yy,Yz,Z0,Z1,Z2,Z3,Z4,Z5,Z6,Z7,Z8,Z9,Za,Zb,Zc,Zd,Ze,Zf,Zg,Zh,Zi,Zj,Zk,Zl,Zm,Zn,Zo,Zp,Zq,Zr,Zs,Zt,Zu,Zv,Zw,Zx,Zy,Zz,V0,V1,V2]
    try simp only [V3,V4,V5,V6,V7,V8,V9,Va,Vb,Vc,Vd,Ve,Vf,Vg,Vh,Vi,Vj,V1,V2,Vk,Vl,reduceCtorEq,Vn,Vo,Vp,Vq]
    refine rd_put upd_same T.cl_Keeper T.nf_Keeper_latest (by exact (by decide : 1 < 1000)) (k _ _ ?_)
    clear k R
    refine seq_step fun R k => ?_
    rw [upd_upd]
    try dsimp only [Y0,Y1,Y2,Y3,Y4,Y5,Y6,Y7,Y8,Y9,Ya,Yb,Yc,Yd,Ye,Yf,Yg,Yh,Yi,Yj,Yk,Yl,Ym,Yn,Yo,Yp,Yq,Yr,Ys,Yt,Yu,Yv,Yw,Yx,Yy,Yz,Z0,Z1,Z2,Z3,Z4,Z5,Z6,Z7,Z8,Z9,Za,Zb,Zc,Zd,Ze,Zf,Zg,Zh,Zi,Zj,Zk,Zl,Zm,Zn,Zo,Zp,Zq,Zr,Zs,Zt,Zu,Zv,Zw,Zx,Zy,Zz,V0,V1,V2]
    try simp only [V3,V4,V5,V6,V7,V8,V9,Va,Vb,Vc,Vd,Ve,Vf,Vg,Vh,Vi,Vj,V1,V2,Vk,Vl,reduceCtorEq,Vn,Vo,Vp,Vq]
    refine rd_put upd_same T.cl_Keeper T.nf_Keeper_name (by exact (by decide : 2 < 1000)) (k _ _ ?_)
    clear k R
    refine seq_step fun R k => ?_
    rw [upd_upd]
    try dsimp only [Y0,Y1,Y2,Y3,Y4,Y5,Y6,Y7,Y8,Y9,Ya,Yb,Yc,Yd,Ye,Yf,Yg,Yh,Yi,Yj,Yk,Yl,Ym,Yn,Yo,Yp,Yq,Yr,Ys,Yt,Yu,Yv,Yw,Yx,Yy,Yz,Z0,Z1,Z2,Z3,Z4,Z5,Z6,Z7,Z8,Z9,Za,Zb,Zc,Zd,Ze,Zf,Zg,Zh,Zi,Zj,Zk,Zl,Zm,Zn,Zo,Zp,Zq,Zr,Zs,Zt,Zu,Zv,Zw,Zx,Zy,Zz,V0,V1,V2]
    try simp only [V3,V4,V5,V6,V7,V8,V9,Va,Vb,Vc,Vd,Ve,Vf,Vg,Vh,Vi,Vj,V1,V2,Vk,Vl,reduceCtorEq,Vn,Vo,Vp,Vq]
    refine rd_put upd_same T.cl_Keeper T.nf_Keeper_number (by exact (by decide : 3 < 1000)) (k _ _ ?_)
    clear k R
    rw [upd_upd]
    try dsimp only [Y0,Y1,Y2,Y3,Y4,Y5,Y6,Y7,Y8,Y9,Ya,Yb,Yc,Yd,Ye,Yf,Yg,Yh,Yi,Yj,Yk,Yl,Ym,Yn,Yo,Yp,Yq,Yr,Ys,Yt,Yu,Yv,Yw,Yx,Yy,Yz,Z0,Z1,Z2,Z3,Z4,Z5,Z6,Z7,Z8,Z9,Za,Zb,Zc,Zd,Ze,Zf,Zg,Zh,Zi,Zj,Zk,Zl,Zm,Zn,Zo,Zp,Zq,Zr,Zs,Zt,Zu,Zv,Zw,Zx,Zy,Zz,V0,V1,V2]
    try simp only [V3,V4,V5,V6,V7,V8,V9,Va,Vb,Vc,Vd,Ve,Vf,Vg,Vh,Vi,Vj,V1,V2,Vk,Vl,reduceCtorEq,Vn,Vo,Vp,Vq]
    refine rd_fld upd_same T.cl_Keeper T.nf_Keeper_pause rfl ?_
    try dsimp only [Y0,Y1,Y2,Y3,Y4,Y5,Y6,Y7,Y8,Y9,Ya,Yb,Yc,Yd,Ye,Yf,Yg,Yh,Yi,Yj,Yk,Yl,Ym,Yn,Yo,Yp,Yq,Yr,Ys,Yt,Yu,Yv,Yw,Yx,Yy,Yz,Z0,Z1,Z2,Z3,Z4,Z5,Z6,Z7,Z8,Z9,Za,Zb,Zc,Zd,Ze,Zf,Zg,Zh,Zi,Zj,Zk,Zl,Zm,Zn,Zo,Zp,Zq,Zr,Zs,Zt,Zu,Zv,Zw,Zx,Zy,Zz,V0,V1,V2]
    try simp only [V3,V4,V5,V6,V7,V8,V9,Va,Vb,Vc,Vd,Ve,Vf,Vg,Vh,Vi,Vj,V1,V2,Vk,Vl,reduceCtorEq,Vn,Vo,Vp,Vq]
    refine rd_put upd_same T.cl_Keeper T.nf_Keeper_over (by exact (by decide : 4 < 1000)) ?_
    rw [upd_upd]
    refine q _ [p] (fun x o e ne => by rw [upd_ne ne]; exact e) (fun x hx => .inl (List.mem_singleton.mp hx)) ⟨dx, c + waitOf lo hi le, .non, .non, rfl, upd_same, rfl, fun _ => rfl, fun h => ?_, sc⟩
    exact Int.not_lt.mp h
theorem ok_Keeper_freed (T : Txt K mg t) : FnOk P w K mg base (CXF P w) 2 t.f_Keeper_freed t.d_Keeper_freed ["self", "clock", "name", "number"] (sp_Keeper_freed t) := by
  refine T.F_Keeper_freed.okX sc_Keeper_freed (fun vs H Q E h => ?_) (fun cdv A outer s H vs Q E hr h => ?_)
  · obtain ⟨p, S, wt, k, clock, name, q, a, b, rfl, _⟩ := h
    rfl
  · obtain ⟨p, S, wt, ⟨c, u, st⟩, clock, name, q, a, b, rfl, ⟨dx, over, nm, nu, rfl, hp, hn, h3, h4, sc⟩, sm, hq, z⟩ := h
    dsimp only at hp hn h3 h4 sc z
    have hq := hq (by decide)
    have qe : clock < c → E (.ref t.Back) none H := fun h1 => by
      have z := z H [p] ⟨fun x o e _ => e, fun x h => .inl h⟩
      unfold due at z
      rw [if_pos h1] at z
      exact z ⟨dx, over, nm, nu, rfl, hp, hn, h3, h4, sc⟩
    refine ⟨_, (jssx_cons (jsx_fld nc_call (je_var (i := 0) nm_self lo_Keeper_freed_self rfl) (jex_call nm_gone_on lo_Keeper_freed_gone_on (ok_gone_on T) (hr.mono (by decide)) T.m_gone_on T.F_gone_on.kp T.b_gone_on sx_attr (ns_cons sx_name ns_nil) (ja_cons sx_attr (je_fld bs_name (je_var (i := 0) nm_self lo_Keeper_freed_self rfl)) (ja_cons sx_name (je_var (i := 1) nm_clock lo_Keeper_freed_clock rfl) ja_nil))))
      (jssx_one (jx (js_if (jt_bool (jw_and (jt_cmp jo_eq (je_var (i := 2) nm_name lo_Keeper_freed_name rfl) (je_fld bs_name (je_var (i := 0) nm_self lo_Keeper_freed_self rfl)) (by decide) (by decide)) (jw_and1 (jt_cmp (jo_geT (hu_of hr)) (je_var (i := 3) nm_number lo_Keeper_freed_number rfl) (je_fld bs_name (je_var (i := 0) nm_self lo_Keeper_freed_self rfl)) (by decide) (by decide))))) (jss_one (js_fld nc_name (je_var (i := 0) nm_self lo_Keeper_freed_self rfl) (je_var (i := 1) nm_clock lo_Keeper_freed_clock rfl))) jss_nil)))).h, ?_⟩
    dsimp only [cxOf_K, L2.start, List.map_cons, List.map_nil, List.length_cons, List.length_nil, List.cons_append, List.nil_append, List.replicate]
    refine fix_x (by simp only [List.map_cons, List.map_nil, List.cons_append, List.nil_append, Nat.sub_self, List.replicate, List.append_nil]; exact rfl) ?_
    refine xseq_step fun R k => ?_
    try dsimp only [Y0,Y1,Y2,Y3,Y4,Y5,Y6,Y7,Y8,Y9,Ya,Yb,Yc,Yd,Ye,Yf,Yg,Yh,Yi,Yj,Yk,Yl,Ym,Yn,Yo,Yp,Yq,Yr,Ys,Yt,Yu,Yv,Yw,Yx,Yy,Yz,Z0,Z1,Z2,Z3,Z4,Z5,Z6,Z7,Z8,Z9,Za,Zb,Zc,Zd,Ze,Zf,Zg,Zh,Zi,Zj,Zk,Zl,Zm,Zn,Zo,Zp,Zq,Zr,Zs,Zt,Zu,Zv,Zw,Zx,Zy,Zz,V0,V1,V2]
    try simp only [V3,V4,V5,V6,V7,V8,V9,Va,Vb,Vc,Vd,Ve,Vf,Vg,Vh,Vi,Vj,V1,V2,Vk,Vl,reduceCtorEq,Vn,Vo,Vp,Vq]
    refine rd_Keeper_latest T hp ?_
    try dsimp only [Y0,Y1,Y2,Y3,Y4,Y5,Y6,Y7,Y8,Y9,Ya,Yb,Yc,Yd,Ye,Yf,Yg,Yh,Yi,Yj,Yk,Yl,Ym,Yn,Yo,Yp,Yq,Yr,Ys,Yt,Yu,Yv,Yw,Yx,Yy,Yz,Z0,Z1,Z2,Z3,Z4,Z5,Z6,Z7,Z8,Z9,Za,Zb,Zc,Zd,Ze,Zf,Zg,Zh,Zi,Zj,Zk,Zl,Zm,Zn,Zo,Zp,Zq,Zr,Zs,Zt,Zu,Zv,Zw,Zx,Zy,Zz,V0,V1,V2]
    try simp only [V3,V4,V5,V6,V7,V8,V9,Va,Vb,Vc,Vd,Ve,Vf,Vg,Vh,Vi,Vj,V1,V2,Vk,Vl,reduceCtorEq,Vn,Vo,Vp,Vq]
    refine ⟨c, clock, rfl, sc, sm, qe, fun h1 => ?_⟩
    try dsimp only [Y0,Y1,Y2,Y3,Y4,Y5,Y6,Y7,Y8,Y9,Ya,Yb,Yc,Yd,Ye,Yf,Yg,Yh,Yi,Yj,Yk,Yl,Ym,Yn,Yo,Yp,Yq,Yr,Ys,Yt,Yu,Yv,Yw,Yx,Yy,Yz,Z0,Z1,Z2,Z3,Z4,Z5,Z6,Z7,Z8,Z9,Za,Zb,Zc,Zd,Ze,Zf,Zg,Zh,Zi,Zj,Zk,Zl,Zm,Zn,Zo,Zp,Zq,Zr,Zs,Zt,Zu,Zv,Zw,Zx,Zy,Zz,V0,V1,V2]
    try simp only [V3,V4,V5,V6,V7,V8,V9,Va,Vb,Vc,Vd,Ve,Vf,Vg,Vh,Vi,Vj,V1,V2,Vk,Vl,reduceCtorEq,Vn,Vo,Vp,Vq]
    refine st_Keeper_latest T hp (k _ _ ?_)
    clear k R
    unfold due at z
    rw [if_neg h1, if_neg (by decide), if_pos rfl] at z
    dsimp only at z
    have tf : ∀ {o : HO} (r : Addr) (xs : List V), H r = some (.tup xs) → upd H p o r = some (.tup xs) := fun r xs e => by rw [upd_ne (ne_of e hp (by intro z; cases z))]; exact e
    have sf : ∀ {o : HO}, Fr H (upd H p o) [p] [p] := fun {o} => ⟨fun x o' e ne => by rw [upd_ne fun y => ne (List.mem_singleton.mpr y)]; exact e, fun x h => .inl h⟩
    have no : KAt t (upd H p (.ins t.Keeper dx (kf wt clock nm nu over))) p [p] wt ⟨clock, u, st⟩ := ⟨dx, over, nm, nu, rfl, upd_same, lets_eq tf hn, fun c1 => h3 (by dsimp only at c1; omega), fun c1 => by
      dsimp only at c1 ⊢
      by_cases c2 : c < u
      · have := h3 c2
        omega
      · have := h4 c2
        omega, sm⟩
    try dsimp only [Y0,Y1,Y2,Y3,Y4,Y5,Y6,Y7,Y8,Y9,Ya,Yb,Yc,Yd,Ye,Yf,Yg,Yh,Yi,Yj,Yk,Yl,Ym,Yn,Yo,Yp,Yq,Yr,Ys,Yt,Yu,Yv,Yw,Yx,Yy,Yz,Z0,Z1,Z2,Z3,Z4,Z5,Z6,Z7,Z8,Z9,Za,Zb,Zc,Zd,Ze,Zf,Zg,Zh,Zi,Zj,Zk,Zl,Zm,Zn,Zo,Zp,Zq,Zr,Zs,Zt,Zu,Zv,Zw,Zx,Zy,Zz,V0,V1,V2]
    try simp only [V3,V4,V5,V6,V7,V8,V9,Va,Vb,Vc,Vd,Ve,Vf,Vg,Vh,Vi,Vj,V1,V2,Vk,Vl,reduceCtorEq,Vn,Vo,Vp,Vq]
    refine rd_Keeper_name T upd_same ?_
    cases st with
    | none =>
      cases (show nm = .non from hn)
      try dsimp only [Y0,Y1,Y2,Y3,Y4,Y5,Y6,Y7,Y8,Y9,Ya,Yb,Yc,Yd,Ye,Yf,Yg,Yh,Yi,Yj,Yk,Yl,Ym,Yn,Yo,Yp,Yq,Yr,Ys,Yt,Yu,Yv,Yw,Yx,Yy,Yz,Z0,Z1,Z2,Z3,Z4,Z5,Z6,Z7,Z8,Z9,Za,Zb,Zc,Zd,Ze,Zf,Zg,Zh,Zi,Zj,Zk,Zl,Zm,Zn,Zo,Zp,Zq,Zr,Zs,Zt,Zu,Zv,Zw,Zx,Zy,Zz,V0,V1,V2]
      try simp only [V3,V4,V5,V6,V7,V8,V9,Va,Vb,Vc,Vd,Ve,Vf,Vg,Vh,Vi,Vj,V1,V2,Vk,Vl,reduceCtorEq,Vn,Vo,Vp,Vq]
      exact z _ _ sf no
    | some l =>
      obtain ⟨e1, r, e2, e3⟩ := hn
      subst e1
      subst e2
      dsimp only at z
      try dsimp only [Y0,Y1,Y2,Y3,Y4,Y5,Y6,Y7,Y8,Y9,Ya,Yb,Yc,Yd,Ye,Yf,Yg,Yh,Yi,Yj,Yk,Yl,Ym,Yn,Yo,Yp,Yq,Yr,Ys,Yt,Yu,Yv,Yw,Yx,Yy,Yz,Z0,Z1,Z2,Z3,Z4,Z5,Z6,Z7,Z8,Z9,Za,Zb,Zc,Zd,Ze,Zf,Zg,Zh,Zi,Zj,Zk,Zl,Zm,Zn,Zo,Zp,Zq,Zr,Zs,Zt,Zu,Zv,Zw,Zx,Zy,Zz,V0,V1,V2]
      try simp only [V3,V4,V5,V6,V7,V8,V9,Va,Vb,Vc,Vd,Ve,Vf,Vg,Vh,Vi,Vj,V1,V2,Vk,Vl,reduceCtorEq,Vn,Vo,Vp,Vq]
      split
      · rename_i h5
        refine rd_Keeper_number T upd_same ?_
        refine rd_geP (tf _ _ hq) (tf _ _ e3) ?_
        try dsimp only [Y0,Y1,Y2,Y3,Y4,Y5,Y6,Y7,Y8,Y9,Ya,Yb,Yc,Yd,Ye,Yf,Yg,Yh,Yi,Yj,Yk,Yl,Ym,Yn,Yo,Yp,Yq,Yr,Ys,Yt,Yu,Yv,Yw,Yx,Yy,Yz,Z0,Z1,Z2,Z3,Z4,Z5,Z6,Z7,Z8,Z9,Za,Zb,Zc,Zd,Ze,Zf,Zg,Zh,Zi,Zj,Zk,Zl,Zm,Zn,Zo,Zp,Zq,Zr,Zs,Zt,Zu,Zv,Zw,Zx,Zy,Zz,V0,V1,V2]
        try simp only [V3,V4,V5,V6,V7,V8,V9,Va,Vb,Vc,Vd,Ve,Vf,Vg,Vh,Vi,Vj,V1,V2,Vk,Vl,reduceCtorEq,Vn,Vo,Vp,Vq]
        have e5 : (l.a < a ∨ a = l.a ∧ l.b ≤ b) ↔ ¬ ltN a b l.a l.b := ltN_not
        split
        · rename_i h6
          rw [if_pos ⟨h5.symm, e5.mp h6⟩] at z
          refine st_Keeper_over T upd_same ?_
          rw [upd_upd]
          exact z _ _ sf ⟨dx, clock, _, _, rfl, upd_same, ⟨rfl, r, rfl, tf _ _ e3⟩, fun c1 => by dsimp only at c1; omega, fun c1 => Int.le_refl _, sm⟩
        · rename_i h6
          rw [if_neg fun y => h6 (e5.mpr y.2)] at z
          exact z _ _ sf no
      · rename_i h5
        rw [if_neg fun y => h5 y.1.symm] at z
        exact z _ _ sf no
theorem ok_Keeper_asked (T : Txt K mg t) : FnOk P w K mg base (CXF P w) 2 t.f_Keeper_asked t.d_Keeper_asked ["self", "clock", "name", "number"] (sp_Keeper_asked t) := by
  refine T.F_Keeper_asked.okX sc_Keeper_asked (fun vs H Q E h => ?_) (fun cdv A outer s H vs Q E hr h => ?_)
  · obtain ⟨p, S, wt, k, clock, name, q, a, b, rfl, _⟩ := h
    rfl
  · obtain ⟨p, S, wt, ⟨c, u, st⟩, clock, name, q, a, b, rfl, ⟨dx, over, nm, nu, rfl, hp, hn, h3, h4, sc⟩, sm, hq, z⟩ := h
    dsimp only at hp hn h3 h4 sc z
    have hq := hq (by decide)
    have qe : clock < c → E (.ref t.Back) none H := fun h1 => by
      have z := z H [p] ⟨fun x o e _ => e, fun x h => .inl h⟩
      unfold due at z
      rw [if_pos h1] at z
      exact z ⟨dx, over, nm, nu, rfl, hp, hn, h3, h4, sc⟩
    refine ⟨_, (jssx_cons (jsx_fld nc_call (je_var (i := 0) nm_self lo_Keeper_asked_self rfl) (jex_call nm_gone_on lo_Keeper_asked_gone_on (ok_gone_on T) (hr.mono (by decide)) T.m_gone_on T.F_gone_on.kp T.b_gone_on sx_attr (ns_cons sx_name ns_nil) (ja_cons sx_attr (je_fld bs_name (je_var (i := 0) nm_self lo_Keeper_asked_self rfl)) (ja_cons sx_name (je_var (i := 1) nm_clock lo_Keeper_asked_clock rfl) ja_nil))))
      (jssx_cons (jx (js_if (jt_cmp jo_lt (je_var (i := 1) nm_clock lo_Keeper_asked_clock rfl) (je_fld bs_name (je_var (i := 0) nm_self lo_Keeper_asked_self rfl)) (by decide) (by decide)) (jss_cons (js_if (jt_bool (jw_or (jt_cmp jo_ne (je_var (i := 2) nm_name lo_Keeper_asked_name rfl) (je_fld bs_name (je_var (i := 0) nm_self lo_Keeper_asked_self rfl)) (by decide) (by decide)) (jw_or1 (jt_cmp (jo_ltT (hu_of hr)) (je_var (i := 3) nm_number lo_Keeper_asked_number rfl) (je_fld bs_name (je_var (i := 0) nm_self lo_Keeper_asked_self rfl)) (by decide) (by decide))))) (jss_one (js_ret je_bl)) jss_nil)
      (jss_one (js_if (jt_cmp (jo_eqD (hu8_of hr)) (je_var (i := 3) nm_number lo_Keeper_asked_number rfl) (je_fld bs_name (je_var (i := 0) nm_self lo_Keeper_asked_self rfl)) (by decide) (by decide)) (jss_one (js_ret je_bl)) jss_nil))) jss_nil))
      (jssx_cons (jx (js_fld nc_name (je_var (i := 0) nm_self lo_Keeper_asked_self rfl) (je_var (i := 2) nm_name lo_Keeper_asked_name rfl)))
      (jssx_cons (jx (js_fld nc_name (je_var (i := 0) nm_self lo_Keeper_asked_self rfl) (je_var (i := 3) nm_number lo_Keeper_asked_number rfl)))
      (jssx_cons (jx (js_fld nc_bin (je_var (i := 0) nm_self lo_Keeper_asked_self rfl) (je_op jo_add (je_var (i := 1) nm_clock lo_Keeper_asked_clock rfl) (je_fld bs_name (je_var (i := 0) nm_self lo_Keeper_asked_self rfl)))))
      (jssx_one (jx (js_ret je_bl)))))))).h, ?_⟩
    dsimp only [cxOf_K, L2.start, List.map_cons, List.map_nil, List.length_cons, List.length_nil, List.cons_append, List.nil_append, List.replicate]
    refine fix_x (by simp only [List.map_cons, List.map_nil, List.cons_append, List.nil_append, Nat.sub_self, List.replicate, List.append_nil]; exact rfl) ?_
    refine xseq_step fun R k => ?_
    try dsimp only [Y0,Y1,Y2,Y3,Y4,Y5,Y6,Y7,Y8,Y9,Ya,Yb,Yc,Yd,Ye,Yf,Yg,Yh,Yi,Yj,Yk,Yl,Ym,Yn,Yo,Yp,Yq,Yr,Ys,Yt,Yu,Yv,Yw,Yx,Yy,Yz,Z0,Z1,Z2,Z3,Z4,Z5,Z6,Z7,Z8,Z9,Za,Zb,Zc,Zd,Ze,Zf,Zg,Zh,Zi,Zj,Zk,Zl,Zm,Zn,Zo,Zp,Zq,Zr,Zs,Zt,Zu,Zv,Zw,Zx,Zy,Zz,V0,V1,V2]
    try simp only [V3,V4,V5,V6,V7,V8,V9,Va,Vb,Vc,Vd,Ve,Vf,Vg,Vh,Vi,Vj,V1,V2,Vk,Vl,reduceCtorEq,Vn,Vo,Vp,Vq]
    refine rd_Keeper_latest T hp ?_
    try dsimp only [Y0,Y1,Y2,Y3,Y4,Y5,Y6,Y7,Y8,Y9,Ya,Yb,Yc,Yd,Ye,Yf,Yg,Yh,Yi,Yj,Yk,Yl,Ym,Yn,Yo,Yp,Yq,Yr,Ys,Yt,Yu,Yv,Yw,Yx,Yy,Yz,Z0,Z1,Z2,Z3,Z4,Z5,Z6,Z7,Z8,Z9,Za,Zb,Zc,Zd,Ze,Zf,Zg,Zh,Zi,Zj,Zk,Zl,Zm,Zn,Zo,Zp,Zq,Zr,Zs,Zt,Zu,Zv,Zw,Zx,Zy,Zz,V0,V1,V2]
    try simp only [V3,V4,V5,V6,V7,V8,V9,Va,Vb,Vc,Vd,Ve,Vf,Vg,Vh,Vi,Vj,V1,V2,Vk,Vl,reduceCtorEq,Vn,Vo,Vp,Vq]
    refine ⟨c, clock, rfl, sc, sm, qe, fun h1 => ?_⟩
    try dsimp only [Y0,Y1,Y2,Y3,Y4,Y5,Y6,Y7,Y8,Y9,Ya,Yb,Yc,Yd,Ye,Yf,Yg,Yh,Yi,Yj,Yk,Yl,Ym,Yn,Yo,Yp,Yq,Yr,Ys,Yt,Yu,Yv,Yw,Yx,Yy,Yz,Z0,Z1,Z2,Z3,Z4,Z5,Z6,Z7,Z8,Z9,Za,Zb,Zc,Zd,Ze,Zf,Zg,Zh,Zi,Zj,Zk,Zl,Zm,Zn,Zo,Zp,Zq,Zr,Zs,Zt,Zu,Zv,Zw,Zx,Zy,Zz,V0,V1,V2]
    try simp only [V3,V4,V5,V6,V7,V8,V9,Va,Vb,Vc,Vd,Ve,Vf,Vg,Vh,Vi,Vj,V1,V2,Vk,Vl,reduceCtorEq,Vn,Vo,Vp,Vq]
    refine st_Keeper_latest T hp (k _ _ ?_)
    clear k R
    refine xseq_step fun R k => ?_
    unfold due at z
    rw [if_neg h1, if_neg (by decide), if_neg (by decide)] at z
    have tf : ∀ {o : HO} (r : Addr) (xs : List V), H r = some (.tup xs) → upd H p o r = some (.tup xs) := fun r xs e => by rw [upd_ne (ne_of e hp (by intro z; cases z))]; exact e
    have sf : ∀ {o : HO}, Fr H (upd H p o) [p] [p] := fun {o} => ⟨fun x o' e ne => by rw [upd_ne fun y => ne (List.mem_singleton.mpr y)]; exact e, fun x h => .inl h⟩
    have hov : clock < over ↔ clock < u := by
      by_cases c2 : c < u
      · rw [h3 c2]
      · have := h4 c2
        omega
    have no : KAt t (upd H p (.ins t.Keeper dx (kf wt clock nm nu over))) p [p] wt ⟨clock, u, st⟩ := ⟨dx, over, nm, nu, rfl, upd_same, lets_eq tf hn, fun c1 => h3 (by dsimp only at c1; omega), fun c1 => by dsimp only at c1 ⊢; omega, sm⟩
    have ye : KAt t (upd H p (.ins t.Keeper dx (kf wt clock (.int name) (.ref q) (clock + wt)))) p [p] wt ⟨clock, clock + wt, some ⟨name, q, a, b⟩⟩ := ⟨dx, clock + wt, _, _, rfl, upd_same, ⟨rfl, q, rfl, tf _ _ hq⟩, fun _ => rfl, fun h => Int.not_lt.mp h, sm⟩
    have set : ∀ (nm nu : V), Q (.bl true) (upd H p (.ins t.Keeper dx (kf wt clock (.int name) (.ref q) (clock + wt)))) → R [some (.ref p), some (.int clock), some (.int name), some (.ref q)] (upd H p (.ins t.Keeper dx (kf wt clock nm nu over))) := by
      intro nm nu fin
      refine k _ _ ?_
      refine xseq_step fun R k => ?_
      try dsimp only [Y0,Y1,Y2,Y3,Y4,Y5,Y6,Y7,Y8,Y9,Ya,Yb,Yc,Yd,Ye,Yf,Yg,Yh,Yi,Yj,Yk,Yl,Ym,Yn,Yo,Yp,Yq,Yr,Ys,Yt,Yu,Yv,Yw,Yx,Yy,Yz,Z0,Z1,Z2,Z3,Z4,Z5,Z6,Z7,Z8,Z9,Za,Zb,Zc,Zd,Ze,Zf,Zg,Zh,Zi,Zj,Zk,Zl,Zm,Zn,Zo,Zp,Zq,Zr,Zs,Zt,Zu,Zv,Zw,Zx,Zy,Zz,V0,V1,V2]
      try simp only [V3,V4,V5,V6,V7,V8,V9,Va,Vb,Vc,Vd,Ve,Vf,Vg,Vh,Vi,Vj,V1,V2,Vk,Vl,reduceCtorEq,Vn,Vo,Vp,Vq]
      refine st_Keeper_name T upd_same ?_
      rw [upd_upd]
      refine k _ _ ?_
      clear k R
      refine xseq_step fun R k => ?_
      try dsimp only [Y0,Y1,Y2,Y3,Y4,Y5,Y6,Y7,Y8,Y9,Ya,Yb,Yc,Yd,Ye,Yf,Yg,Yh,Yi,Yj,Yk,Yl,Ym,Yn,Yo,Yp,Yq,Yr,Ys,Yt,Yu,Yv,Yw,Yx,Yy,Yz,Z0,Z1,Z2,Z3,Z4,Z5,Z6,Z7,Z8,Z9,Za,Zb,Zc,Zd,Ze,Zf,Zg,Zh,Zi,Zj,Zk,Zl,Zm,Zn,Zo,Zp,Zq,Zr,Zs,Zt,Zu,Zv,Zw,Zx,Zy,Zz,V0,V1,V2]
      try simp only [V3,V4,V5,V6,V7,V8,V9,Va,Vb,Vc,Vd,Ve,Vf,Vg,Vh,Vi,Vj,V1,V2,Vk,Vl,reduceCtorEq,Vn,Vo,Vp,Vq]
      refine st_Keeper_number T upd_same ?_
      rw [upd_upd]
      refine k _ _ ?_
      clear k R
      refine xseq_step fun R k => ?_
      try dsimp only [Y0,Y1,Y2,Y3,Y4,Y5,Y6,Y7,Y8,Y9,Ya,Yb,Yc,Yd,Ye,Yf,Yg,Yh,Yi,Yj,Yk,Yl,Ym,Yn,Yo,Yp,Yq,Yr,Ys,Yt,Yu,Yv,Yw,Yx,Yy,Yz,Z0,Z1,Z2,Z3,Z4,Z5,Z6,Z7,Z8,Z9,Za,Zb,Zc,Zd,Ze,Zf,Zg,Zh,Zi,Zj,Zk,Zl,Zm,Zn,Zo,Zp,Zq,Zr,Zs,Zt,Zu,Zv,Zw,Zx,Zy,Zz,V0,V1,V2]
      try simp only [V3,V4,V5,V6,V7,V8,V9,Va,Vb,Vc,Vd,Ve,Vf,Vg,Vh,Vi,Vj,V1,V2,Vk,Vl,reduceCtorEq,Vn,Vo,Vp,Vq]
      refine rd_Keeper_pause T upd_same ?_
      try dsimp only [Y0,Y1,Y2,Y3,Y4,Y5,Y6,Y7,Y8,Y9,Ya,Yb,Yc,Yd,Ye,Yf,Yg,Yh,Yi,Yj,Yk,Yl,Ym,Yn,Yo,Yp,Yq,Yr,Ys,Yt,Yu,Yv,Yw,Yx,Yy,Yz,Z0,Z1,Z2,Z3,Z4,Z5,Z6,Z7,Z8,Z9,Za,Zb,Zc,Zd,Ze,Zf,Zg,Zh,Zi,Zj,Zk,Zl,Zm,Zn,Zo,Zp,Zq,Zr,Zs,Zt,Zu,Zv,Zw,Zx,Zy,Zz,V0,V1,V2]
      try simp only [V3,V4,V5,V6,V7,V8,V9,Va,Vb,Vc,Vd,Ve,Vf,Vg,Vh,Vi,Vj,V1,V2,Vk,Vl,reduceCtorEq,Vn,Vo,Vp,Vq]
      refine st_Keeper_over T upd_same ?_
      rw [upd_upd]
      refine k _ _ ?_
      clear k R
      try dsimp only [Y0,Y1,Y2,Y3,Y4,Y5,Y6,Y7,Y8,Y9,Ya,Yb,Yc,Yd,Ye,Yf,Yg,Yh,Yi,Yj,Yk,Yl,Ym,Yn,Yo,Yp,Yq,Yr,Ys,Yt,Yu,Yv,Yw,Yx,Yy,Yz,Z0,Z1,Z2,Z3,Z4,Z5,Z6,Z7,Z8,Z9,Za,Zb,Zc,Zd,Ze,Zf,Zg,Zh,Zi,Zj,Zk,Zl,Zm,Zn,Zo,Zp,Zq,Zr,Zs,Zt,Zu,Zv,Zw,Zx,Zy,Zz,V0,V1,V2]
      try simp only [V3,V4,V5,V6,V7,V8,V9,Va,Vb,Vc,Vd,Ve,Vf,Vg,Vh,Vi,Vj,V1,V2,Vk,Vl,reduceCtorEq,Vn,Vo,Vp,Vq]
      exact fin
    clear k
    try dsimp only [Y0,Y1,Y2,Y3,Y4,Y5,Y6,Y7,Y8,Y9,Ya,Yb,Yc,Yd,Ye,Yf,Yg,Yh,Yi,Yj,Yk,Yl,Ym,Yn,Yo,Yp,Yq,Yr,Ys,Yt,Yu,Yv,Yw,Yx,Yy,Yz,Z0,Z1,Z2,Z3,Z4,Z5,Z6,Z7,Z8,Z9,Za,Zb,Zc,Zd,Ze,Zf,Zg,Zh,Zi,Zj,Zk,Zl,Zm,Zn,Zo,Zp,Zq,Zr,Zs,Zt,Zu,Zv,Zw,Zx,Zy,Zz,V0,V1,V2]
    try simp only [V3,V4,V5,V6,V7,V8,V9,Va,Vb,Vc,Vd,Ve,Vf,Vg,Vh,Vi,Vj,V1,V2,Vk,Vl,reduceCtorEq,Vn,Vo,Vp,Vq]
    refine rd_Keeper_over T upd_same ?_
    try dsimp only [Y0,Y1,Y2,Y3,Y4,Y5,Y6,Y7,Y8,Y9,Ya,Yb,Yc,Yd,Ye,Yf,Yg,Yh,Yi,Yj,Yk,Yl,Ym,Yn,Yo,Yp,Yq,Yr,Ys,Yt,Yu,Yv,Yw,Yx,Yy,Yz,Z0,Z1,Z2,Z3,Z4,Z5,Z6,Z7,Z8,Z9,Za,Zb,Zc,Zd,Ze,Zf,Zg,Zh,Zi,Zj,Zk,Zl,Zm,Zn,Zo,Zp,Zq,Zr,Zs,Zt,Zu,Zv,Zw,Zx,Zy,Zz,V0,V1,V2]
    try simp only [V3,V4,V5,V6,V7,V8,V9,Va,Vb,Vc,Vd,Ve,Vf,Vg,Vh,Vi,Vj,V1,V2,Vk,Vl,reduceCtorEq,Vn,Vo,Vp,Vq]
    split
    · rename_i h2
      rw [if_pos (hov.mp h2)] at z
      refine seq_step fun R2 k2 => ?_
      try dsimp only [Y0,Y1,Y2,Y3,Y4,Y5,Y6,Y7,Y8,Y9,Ya,Yb,Yc,Yd,Ye,Yf,Yg,Yh,Yi,Yj,Yk,Yl,Ym,Yn,Yo,Yp,Yq,Yr,Ys,Yt,Yu,Yv,Yw,Yx,Yy,Yz,Z0,Z1,Z2,Z3,Z4,Z5,Z6,Z7,Z8,Z9,Za,Zb,Zc,Zd,Ze,Zf,Zg,Zh,Zi,Zj,Zk,Zl,Zm,Zn,Zo,Zp,Zq,Zr,Zs,Zt,Zu,Zv,Zw,Zx,Zy,Zz,V0,V1,V2]
      try simp only [V3,V4,V5,V6,V7,V8,V9,Va,Vb,Vc,Vd,Ve,Vf,Vg,Vh,Vi,Vj,V1,V2,Vk,Vl,reduceCtorEq,Vn,Vo,Vp,Vq]
      refine rd_Keeper_name T upd_same ?_
      cases st with
      | none =>
        cases (show nm = .non from hn)
        dsimp only at z
        try dsimp only [Y0,Y1,Y2,Y3,Y4,Y5,Y6,Y7,Y8,Y9,Ya,Yb,Yc,Yd,Ye,Yf,Yg,Yh,Yi,Yj,Yk,Yl,Ym,Yn,Yo,Yp,Yq,Yr,Ys,Yt,Yu,Yv,Yw,Yx,Yy,Yz,Z0,Z1,Z2,Z3,Z4,Z5,Z6,Z7,Z8,Z9,Za,Zb,Zc,Zd,Ze,Zf,Zg,Zh,Zi,Zj,Zk,Zl,Zm,Zn,Zo,Zp,Zq,Zr,Zs,Zt,Zu,Zv,Zw,Zx,Zy,Zz,V0,V1,V2]
        try simp only [V3,V4,V5,V6,V7,V8,V9,Va,Vb,Vc,Vd,Ve,Vf,Vg,Vh,Vi,Vj,V1,V2,Vk,Vl,reduceCtorEq,Vn,Vo,Vp,Vq]
        exact z _ _ sf no
      | some l =>
        obtain ⟨e1, r, e2, e3⟩ := hn
        subst e1
        subst e2
        dsimp only at z
        try dsimp only [Y0,Y1,Y2,Y3,Y4,Y5,Y6,Y7,Y8,Y9,Ya,Yb,Yc,Yd,Ye,Yf,Yg,Yh,Yi,Yj,Yk,Yl,Ym,Yn,Yo,Yp,Yq,Yr,Ys,Yt,Yu,Yv,Yw,Yx,Yy,Yz,Z0,Z1,Z2,Z3,Z4,Z5,Z6,Z7,Z8,Z9,Za,Zb,Zc,Zd,Ze,Zf,Zg,Zh,Zi,Zj,Zk,Zl,Zm,Zn,Zo,Zp,Zq,Zr,Zs,Zt,Zu,Zv,Zw,Zx,Zy,Zz,V0,V1,V2]
        try simp only [V3,V4,V5,V6,V7,V8,V9,Va,Vb,Vc,Vd,Ve,Vf,Vg,Vh,Vi,Vj,V1,V2,Vk,Vl,reduceCtorEq,Vn,Vo,Vp,Vq]
        split
        · rename_i h5
          rw [if_pos (.inl fun y => h5 y.symm)] at z
          exact z _ _ sf no
        · rename_i h5
          have h5 : name = l.name := Decidable.not_not.mp h5
          refine rd_Keeper_number T upd_same ?_
          refine rd_ltP (tf _ _ hq) (tf _ _ e3) ?_
          try dsimp only [Y0,Y1,Y2,Y3,Y4,Y5,Y6,Y7,Y8,Y9,Ya,Yb,Yc,Yd,Ye,Yf,Yg,Yh,Yi,Yj,Yk,Yl,Ym,Yn,Yo,Yp,Yq,Yr,Ys,Yt,Yu,Yv,Yw,Yx,Yy,Yz,Z0,Z1,Z2,Z3,Z4,Z5,Z6,Z7,Z8,Z9,Za,Zb,Zc,Zd,Ze,Zf,Zg,Zh,Zi,Zj,Zk,Zl,Zm,Zn,Zo,Zp,Zq,Zr,Zs,Zt,Zu,Zv,Zw,Zx,Zy,Zz,V0,V1,V2]
          try simp only [V3,V4,V5,V6,V7,V8,V9,Va,Vb,Vc,Vd,Ve,Vf,Vg,Vh,Vi,Vj,V1,V2,Vk,Vl,reduceCtorEq,Vn,Vo,Vp,Vq]
          split
          · rename_i h6
            rw [if_pos (.inr h6)] at z
            exact z _ _ sf no
          · rename_i h6
            rw [if_neg (fun y => y.elim (fun y => y h5.symm) h6)] at z
            refine k2 _ _ ?_
            clear k2 R2
            try dsimp only [Y0,Y1,Y2,Y3,Y4,Y5,Y6,Y7,Y8,Y9,Ya,Yb,Yc,Yd,Ye,Yf,Yg,Yh,Yi,Yj,Yk,Yl,Ym,Yn,Yo,Yp,Yq,Yr,Ys,Yt,Yu,Yv,Yw,Yx,Yy,Yz,Z0,Z1,Z2,Z3,Z4,Z5,Z6,Z7,Z8,Z9,Za,Zb,Zc,Zd,Ze,Zf,Zg,Zh,Zi,Zj,Zk,Zl,Zm,Zn,Zo,Zp,Zq,Zr,Zs,Zt,Zu,Zv,Zw,Zx,Zy,Zz,V0,V1,V2]
            try simp only [V3,V4,V5,V6,V7,V8,V9,Va,Vb,Vc,Vd,Ve,Vf,Vg,Vh,Vi,Vj,V1,V2,Vk,Vl,reduceCtorEq,Vn,Vo,Vp,Vq]
            refine rd_Keeper_number T upd_same ?_
            refine rd_eqP (tf _ _ hq) (tf _ _ e3) ?_
            try dsimp only [Y0,Y1,Y2,Y3,Y4,Y5,Y6,Y7,Y8,Y9,Ya,Yb,Yc,Yd,Ye,Yf,Yg,Yh,Yi,Yj,Yk,Yl,Ym,Yn,Yo,Yp,Yq,Yr,Ys,Yt,Yu,Yv,Yw,Yx,Yy,Yz,Z0,Z1,Z2,Z3,Z4,Z5,Z6,Z7,Z8,Z9,Za,Zb,Zc,Zd,Ze,Zf,Zg,Zh,Zi,Zj,Zk,Zl,Zm,Zn,Zo,Zp,Zq,Zr,Zs,Zt,Zu,Zv,Zw,Zx,Zy,Zz,V0,V1,V2]
            try simp only [V3,V4,V5,V6,V7,V8,V9,Va,Vb,Vc,Vd,Ve,Vf,Vg,Vh,Vi,Vj,V1,V2,Vk,Vl,reduceCtorEq,Vn,Vo,Vp,Vq]
            split
            · rename_i h7
              rw [if_pos h7] at z
              exact z _ _ sf no
            · rename_i h7
              rw [if_neg h7] at z
              exact set _ _ (z _ _ sf ye)
    · rename_i h2
      rw [if_neg fun y => h2 (hov.mpr y)] at z
      exact set _ _ (z _ _ sf ye)
end
/-- how the law's own holder stands -/
structure HW where
  c : Int
  first : Int
  life : Int
  many : Int
  asks : Int → Int → Option Int
  ends : List Int
/-- what is told: nothing or a truth or a number or a word, or a pair -/
inductive Res where
  | v (x : V)
  | pair (a b : Int)
def srt (ns : List Int) : List Int := ns.mergeSort (fun a b => decide (a ≤ b))
def goodE (h : HW) (clock : Int) : List Int := h.ends.filter fun e => decide (clock < e)
def holdsB (n : Int) (h : HW) (clock : Int) : Bool := decide (n < 2 * ((goodE h clock).length : Int))
def hdue (n len : Int) (h : HW) (way clock keeper a b : Int) : Res × HW :=
  if way = 1 ∧ ¬ (0 ≤ keeper ∧ keeper < n) then (.v (.str "keeper"), h)
  else if clock < h.c then (.v (.str "back"), h)
  else if way = 4 ∧ h.many = 0 then (.v (.str "asked"), h)
  else if way = 0 then (.pair h.life h.many, { h with c := clock, asks := fun x y => if x = h.life ∧ y = h.many then some clock else h.asks x y, many := h.many + 1 })
  else if way = 1 then (.v .non, match h.asks a b with
    | some t => { h with c := clock, ends := h.ends.set keeper.toNat (max (h.ends.getD keeper.toNat 0) (t + len)) }
    | none => { h with c := clock })
  else if way = 4 then (.pair h.life (h.many - 1), { h with c := clock, asks := fun _ _ => none, ends := List.replicate n.toNat h.first })
  else if way = 2 then (.v (.bl (holdsB n h clock)), { h with c := clock })
  else (.v (if holdsB n h clock = true then .int ((srt (goodE h clock)).getD ((goodE h clock).length - (n / 2).toNat - 1) 0) else .non), { h with c := clock })
def asksK (lo : Int) : List Int → List (Key × V)
  | [] => []
  | x :: cs => (Sum.inl lo, .int x) :: asksK (lo + 1) cs
theorem asksK_len : ∀ {cs : List Int} {lo : Int}, (asksK lo cs).length = cs.length
  | [], _ => rfl
  | _ :: cs, lo => by
    show (asksK (lo + 1) cs).length + 1 = cs.length + 1
    rw [asksK_len]
theorem asksK_key : ∀ {cs : List Int} {lo : Int} (kv : Key × V), kv ∈ asksK lo cs → ∃ b : Int, kv.1 = Sum.inl b ∧ lo ≤ b ∧ b < lo + cs.length
  | [], _, _, h => by cases h
  | x :: cs, lo, kv, h => by
    rcases List.mem_cons.mp h with e | h
    · subst e
      exact ⟨lo, rfl, Int.le_refl _, by rw [List.length_cons]; omega⟩
    · obtain ⟨b, e, h1, h2⟩ := asksK_key kv h
      exact ⟨b, e, by omega, by rw [List.length_cons]; omega⟩
theorem asksK_out {cs : List Int} {lo b : Int} (h : ¬ (lo ≤ b ∧ b < lo + cs.length)) : ∀ kv ∈ asksK lo cs, ¬ kv.1 = Sum.inl b := fun kv hkv e => by
  obtain ⟨b', e', h1, h2⟩ := asksK_key kv hkv
  rw [e] at e'
  cases e'
  exact h ⟨h1, h2⟩
theorem asksK_first {x : Int} {cs : List Int} {lo : Int} : valV (asksK lo (x :: cs)) (Sum.inl lo) = some (.int x) := valV_pos rfl
theorem asksK_drop {x : Int} {cs : List Int} {lo : Int} : dropK (asksK lo (x :: cs)) (Sum.inl lo) = asksK (lo + 1) cs := by
  unfold dropK
  show List.filter _ ((Sum.inl lo, .int x) :: asksK (lo + 1) cs) = _
  rw [List.filter_cons_of_neg (by simp)]
  refine List.filter_eq_self.mpr fun kv hkv => ?_
  exact decide_eq_true (asksK_out (by omega) kv hkv)
theorem asksK_app {y : Int} : ∀ {cs : List Int} {lo : Int}, asksK lo (cs ++ [y]) = asksK lo cs ++ [(Sum.inl (lo + cs.length), .int y)]
  | [], lo => by
    show [(Sum.inl lo, V.int y)] = [(Sum.inl (lo + ((0 : Nat) : Int)), V.int y)]
    rw [Int.natCast_zero, Int.add_zero]
  | x :: cs, lo => by
    show (Sum.inl lo, V.int x) :: asksK (lo + 1) (cs ++ [y]) = (Sum.inl lo, V.int x) :: (asksK (lo + 1) cs ++ _)
    rw [asksK_app, List.length_cons, show lo + 1 + (cs.length : Int) = lo + ((cs.length + 1 : Nat) : Int) by omega]
theorem asksK_put {y b : Int} {cs : List Int} {lo : Int} (hb : b = lo + cs.length) : putK (asksK lo cs) (Sum.inl b) (.int y) = asksK lo (cs ++ [y]) := by
  unfold putK
  rw [if_neg, asksK_app, hb]
  intro h
  rw [List.any_eq_true] at h
  obtain ⟨kv, h1, h2⟩ := h
  exact asksK_out (by omega) kv h1 (of_decide_eq_true h2)
theorem asksK_val : ∀ {cs : List Int} {lo b : Int} {v : V}, valV (asksK lo cs) (Sum.inl b) = some v → ∃ x : Int, v = .int x
  | [], _, _, _, h => by cases h
  | x :: cs, lo, b, v, h => by
    by_cases e : lo = b
    · subst e
      rw [asksK_first] at h
      cases h
      exact ⟨x, rfl⟩
    · rw [show asksK lo (x :: cs) = (Sum.inl lo, .int x) :: asksK (lo + 1) cs from rfl, valV_neg (fun y => e (Sum.inl.inj y))] at h
      exact asksK_val h
/-- those that are forgotten -/
theorem asksK_forget {b x : Int} : ∀ (j : Nat) {cs : List Int} {lo : Int}, j ≤ cs.length → valV (asksK lo cs) (Sum.inl b) = some (.int x) → x ∈ cs.take j ∨ valV (asksK (lo + j) (cs.drop j)) (Sum.inl b) = some (.int x)
  | 0, cs, lo, _, h => .inr (by rw [List.drop_zero, Int.natCast_zero, Int.add_zero]; exact h)
  | j + 1, [], lo, hj, h => by cases h
  | j + 1, y :: cs, lo, hj, h => by
    by_cases e : lo = b
    · subst e
      rw [asksK_first] at h
      cases h
      exact .inl List.mem_cons_self
    · rw [show asksK lo (y :: cs) = (Sum.inl lo, .int y) :: asksK (lo + 1) cs from rfl, valV_neg (fun y => e (Sum.inl.inj y))] at h
      rcases asksK_forget j (Nat.le_of_succ_le_succ hj) h with z | z
      · exact .inl (List.mem_cons_of_mem _ z)
      · refine .inr ?_
        rw [List.drop_succ_cons, show lo + ((j + 1 : Nat) : Int) = lo + 1 + (j : Int) by omega]
        exact z
theorem asksK_kept {b x : Int} : ∀ (j : Nat) {cs : List Int} {lo : Int}, j ≤ cs.length → valV (asksK (lo + j) (cs.drop j)) (Sum.inl b) = some (.int x) → valV (asksK lo cs) (Sum.inl b) = some (.int x)
  | 0, cs, lo, _, h => by rw [List.drop_zero, Int.natCast_zero, Int.add_zero] at h; exact h
  | j + 1, [], lo, hj, h => by cases h
  | j + 1, y :: cs, lo, hj, h => by
    rw [List.drop_succ_cons, show lo + ((j + 1 : Nat) : Int) = lo + 1 + (j : Int) by omega] at h
    have h := asksK_kept j (Nat.le_of_succ_le_succ hj) h
    have e : ¬ lo = b := fun e => by
      have g : valV (asksK (lo + 1) cs) (Sum.inl b) = none := by
        unfold valV
        rw [List.find?_eq_none.mpr fun kv hkv => by
          have := asksK_out (lo := lo + 1) (b := b) (by omega) kv hkv
          simpa using this]
        rfl
      rw [g] at h
      cases h
    rw [show asksK lo (y :: cs) = (Sum.inl lo, .int y) :: asksK (lo + 1) cs from rfl, valV_neg (fun y => e (Sum.inl.inj y))]
    exact h
def EndR (c : Int) : List Int → List Int → Prop
  | [], [] => True
  | x :: xs, y :: ys => (x = y ∨ x ≤ c ∧ y ≤ c) ∧ EndR c xs ys
  | _, _ => False
theorem EndR.mono {c c' : Int} (h : c ≤ c') : ∀ {xs ys : List Int}, EndR c xs ys → EndR c' xs ys
  | [], [], _ => trivial
  | x :: xs, y :: ys, ⟨h1, h2⟩ => ⟨h1.elim .inl fun z => .inr ⟨by omega, by omega⟩, EndR.mono h h2⟩
theorem EndR.at_ {c : Int} : ∀ {xs ys : List Int} (i : Nat), EndR c xs ys → xs.getD i 0 = ys.getD i 0 ∨ xs.getD i 0 ≤ c ∧ ys.getD i 0 ≤ c
  | [], [], _, _ => .inl rfl
  | x :: xs, y :: ys, 0, ⟨h1, _⟩ => h1
  | x :: xs, y :: ys, i + 1, ⟨_, h2⟩ => EndR.at_ i h2
theorem EndR.set {c a b : Int} (hab : a = b ∨ a ≤ c ∧ b ≤ c) : ∀ {xs ys : List Int} (i : Nat), EndR c xs ys → EndR c (xs.set i a) (ys.set i b)
  | [], [], _, _ => trivial
  | x :: xs, y :: ys, 0, ⟨_, h2⟩ => ⟨hab, h2⟩
  | x :: xs, y :: ys, i + 1, ⟨h1, h2⟩ => ⟨h1, EndR.set hab i h2⟩
theorem EndR.set1 {c b : Int} : ∀ {xs ys : List Int} (i : Nat), (xs.getD i 0 = b ∨ xs.getD i 0 ≤ c ∧ b ≤ c) → EndR c xs ys → EndR c xs (ys.set i b)
  | [], [], _, _, _ => trivial
  | x :: xs, y :: ys, 0, hab, ⟨_, h2⟩ => ⟨hab, h2⟩
  | x :: xs, y :: ys, i + 1, hab, ⟨h1, h2⟩ => ⟨h1, EndR.set1 i hab h2⟩
theorem EndR.rep {c a b : Int} (h : a ≤ c ∧ b ≤ c) : ∀ (n : Nat), EndR c (List.replicate n a) (List.replicate n b)
  | 0 => trivial
  | n + 1 => ⟨.inr h, EndR.rep h n⟩
theorem EndR.good {c clock : Int} (h : c ≤ clock) : ∀ {xs ys : List Int}, EndR c xs ys → xs.filter (fun e => decide (clock < e)) = ys.filter (fun e => decide (clock < e))
  | [], [], _ => rfl
  | x :: xs, y :: ys, ⟨h1, h2⟩ => by
    rcases h1 with e | ⟨e1, e2⟩
    · subst e
      rw [List.filter_cons, List.filter_cons, EndR.good h h2]
    · rw [List.filter_cons_of_neg (by simp; omega), List.filter_cons_of_neg (by simp; omega), EndR.good h h2]
theorem filter_front {clock : Int} : ∀ {ms : List Int}, ms.Pairwise (· ≥ ·) → ∃ B, ms = ms.filter (fun e => decide (clock < e)) ++ B ∧ ∀ x ∈ B, x ≤ clock
  | [], _ => ⟨[], rfl, fun _ h => by cases h⟩
  | x :: ms, h => by
    obtain ⟨h1, h2⟩ := List.pairwise_cons.mp h
    by_cases e : clock < x
    · obtain ⟨B, e1, e2⟩ := filter_front (clock := clock) h2
      refine ⟨B, ?_, e2⟩
      rw [List.filter_cons_of_pos (by simpa using e), List.cons_append, ← e1]
    · refine ⟨x :: ms, ?_, fun y hy => ?_⟩
      · rw [List.filter_eq_nil_iff.mpr, List.nil_append]
        intro y hy
        rcases List.mem_cons.mp hy with z | z
        · subst z; simpa using e
        · have := h1 y z
          simp
          omega
      · rcases List.mem_cons.mp hy with z | z
        · subst z; omega
        · have := h1 y z
          omega
theorem srt_eq {ms ns : List Int} (pw : ms.Pairwise (· ≤ ·)) (pm : ms.Perm ns) : ms = srt ns := by
  refine List.Perm.eq_of_pairwise (le := fun a b : Int => a ≤ b) (fun a b _ _ h1 h2 => Int.le_antisymm h1 h2) pw ?_ (pm.trans (List.mergeSort_perm _ _).symm)
  refine (List.pairwise_mergeSort (le := fun a b : Int => decide (a ≤ b)) ?_ ?_ _).imp fun h => of_decide_eq_true h
  · intro a b c h1 h2
    exact decide_eq_true (Int.le_trans (of_decide_eq_true h1) (of_decide_eq_true h2))
  · intro a b
    rw [Bool.or_eq_true, decide_eq_true_iff, decide_eq_true_iff]
    omega
theorem most_end {ms es : List Int} {clock : Int} {k : Nat} (pm : ms.Perm es) (pw : ms.Pairwise (· ≥ ·)) (hk : k < ms.length) :
    (clock < ms.getD k 0 ↔ k < (es.filter fun e => decide (clock < e)).length) ∧ (k < (es.filter fun e => decide (clock < e)).length → ms.getD k 0 = (srt (es.filter fun e => decide (clock < e))).getD ((es.filter fun e => decide (clock < e)).length - k - 1) 0) := by
  obtain ⟨B, e1, e2⟩ := filter_front (clock := clock) pw
  have pf : (ms.filter fun e => decide (clock < e)).Perm (es.filter fun e => decide (clock < e)) := pm.filter _
  have pl := pf.length_eq
  have pa : ∀ x ∈ ms.filter (fun e => decide (clock < e)), clock < x := fun x hx => of_decide_eq_true (List.mem_filter.mp hx).2
  have ps : (ms.filter fun e => decide (clock < e)).reverse = srt (es.filter fun e => decide (clock < e)) := srt_eq (List.pairwise_reverse.mpr (pw.sublist List.filter_sublist)) ((List.reverse_perm _).trans pf)
  rw [← ps, ← pl]
  generalize ms.filter (fun e => decide (clock < e)) = A at *
  subst e1
  rw [List.getD_eq_getElem?_getD]
  by_cases hkA : k < A.length
  · have ea : (A ++ B)[k]? = some A[k] := by rw [List.getElem?_append_left hkA, List.getElem?_eq_getElem hkA]
    rw [ea]
    refine ⟨⟨fun _ => hkA, fun _ => pa _ (List.getElem_mem _)⟩, fun _ => ?_⟩
    rw [List.getD_eq_getElem?_getD, List.getElem?_reverse (by omega), show A.length - 1 - (A.length - k - 1) = k by rw [Nat.sub_right_comm A.length k 1, Nat.sub_sub_self (Nat.le_sub_one_of_lt hkA)], List.getElem?_eq_getElem hkA]
  · refine ⟨⟨fun h => ?_, fun h => absurd h hkA⟩, fun h => absurd h hkA⟩
    rw [List.length_append] at hk
    have hb : k - A.length < B.length := by omega
    rw [List.getElem?_append_right (by omega), List.getElem?_eq_getElem hb] at h
    have := e2 _ (List.getElem_mem hb)
    exact absurd h (by show ¬ clock < B[k - A.length]; omega)
abbrev hf (len mj nm life latest told : Int) (da de : Addr) : List (Str × V) := flds_Holder (.int len) (.int mj) (.int nm) (.int life) (.int latest) (.int told) (.ref da) (.ref de)
/-- the asks that count are in the dict, or over -/
def AskOk (len : Int) (h : HW) (lo : Int) (cs : List Int) : Prop := (∀ a b x, h.asks a b = some x → a = h.life ∧ (x + len ≤ h.c ∨ valV (asksK lo cs) (Sum.inl b) = some (.int x))) ∧ ∀ b x, valV (asksK lo cs) (Sum.inl b) = some (.int x) → h.asks h.life b = some x
/-- the holder stands in the heap as the law's own holder does; S are its own objects -/
inductive HAt (t : Adr) (H : Hp) (p : Addr) (S : List Addr) (n len : Int) (h : HW) : Prop
  | mk (dx da de : Addr) (nm lo : Int) (cs es : List Int) (h0_ : S = [p, da, de]) (h1_ : H p = some (.ins t.Holder dx (hf len (n / 2 + 1) nm h.life h.c h.many da de))) (h2_ : H da = some (.dK (asksK lo cs))) (h3_ : H de = some (.lst (es.map V.int))) (h4_ : lo + cs.length = h.many) (h5_ : 0 ≤ lo) (h6_ : h.many ≤ 1000) (h7_ : AskOk len h lo cs) (h8_ : EndR h.c es h.ends) (h9_ : (es.length : Int) = n) (h10_ : h.first ≤ h.c) (h11_ : Small h.c) : HAt t H p S n len h
theorem HAt.some {t : Adr} {H : Hp} {p : Addr} {S : List Addr} {n len : Int} {h : HW} (k : HAt t H p S n len h) : p ∈ S ∧ ∀ x, x ∈ S → ∃ o, H x = some o ∧ ¬ Fx t o := by
  obtain ⟨dx, da, de, nm, lo, cs, es, rfl, h1, h2, h3, _⟩ := k
  refine ⟨List.mem_cons_self, fun x hx => ?_⟩
  simp only [List.mem_cons, List.not_mem_nil, or_false] at hx
  rcases hx with rfl | rfl | rfl
  · exact ⟨_, h1, by
      rintro (⟨_, z⟩ | ⟨_, _, _, _, _, z⟩)
      · cases z
      · injection z with _ _ z
        exact absurd (congrArg List.length z) (show ¬ (8 : Nat) = 4 by decide)⟩
  · exact ⟨_, h2, by rintro (⟨_, z⟩ | ⟨_, _, _, _, _, z⟩) <;> cases z⟩
  · exact ⟨_, h3, by rintro (⟨_, z⟩ | ⟨_, _, _, _, _, z⟩) <;> cases z⟩
theorem HAt.meth {t : Adr} {H : Hp} {p : Addr} {S : List Addr} {n len : Int} {h : HW} (k : HAt t H p S n len h) : ∃ dx fs, H p = Option.some (.ins t.Holder dx fs) ∧ fs.lookup ("ask" : Str) = none ∧ fs.lookup ("hear" : Str) = none ∧ fs.lookup ("holds" : Str) = none ∧ fs.lookup ("until" : Str) = none ∧ fs.lookup ("free" : Str) = none := by
  obtain ⟨dx, da, de, nm, lo, cs, es, rfl, h1, _⟩ := k
  exact ⟨_, _, h1, no_Holder_ask, no_Holder_hear, no_Holder_holds, no_Holder_until, no_Holder_free⟩
theorem HAt.frame {t : Adr} {H H' : Hp} {p : Addr} {S : List Addr} {n len : Int} {h : HW} (k : HAt t H p S n len h) (f : ∀ x o, H x = Option.some o → x ∈ S → H' x = Option.some o) (ft : ∀ x o, H x = Option.some o → Fx t o → H' x = Option.some o) : HAt t H' p S n len h := by
  obtain ⟨dx, da, de, nm, lo, cs, es, rfl, h1, h2, h3, h4, h5, h6, h7, h8, h9, h10, h11⟩ := k
  exact ⟨dx, da, de, nm, lo, cs, es, rfl, f _ _ h1 (by simp), f _ _ h2 (by simp), f _ _ h3 (by simp), h4, h5, h6, h7, h8, h9, h10, h11⟩
/-- the class that a word stands for -/
def clsOf (t : Adr) (x : Str) : Addr := if x = ("back" : Str) then t.Back else if x = ("keeper" : Str) then t.NoKeeper else t.NotAsked
/-- what is answered or raised -/
def Out (t : Adr) (Q : VK) (E : XK) (H' : Hp) : Res → Prop
  | .v (.str x) => E (.ref (clsOf t x)) none H'
  | .v x => Q x H'
  | .pair a b => ∀ r, H' r = some (.tup [.int a, .int b]) → Q (.ref r) H'
/-- a method by the law's own holder -/
inductive P_sp_hway (t : Adr) (way : Int) (args : Int → Int → Addr → List V) (vs : List V) (H : Hp) (Q : VK) (E : XK) : Prop
  | mk (p : Addr) (S : List Addr) (n len : Int) (h : HW) (clock keeper : Int) (q : Addr) (a b : Int) (h0_ : vs = .ref p :: args clock keeper q) (h1_ : HAt t H p S n len h) (h2_ : 1 ≤ n) (h3_ : n ≤ 5) (h4_ : h.many < 1000) (h5_ : Small clock) (h6_ : Small keeper) (h7_ : Small len) (h8_ : (way = 1 → H q = some (.tup [.int a, .int b]))) (h9_ : ∀ H' S', Fr H H' S S' → HAt t H' p S' n len (hdue n len h way clock keeper a b).2 → Out t Q E H' (hdue n len h way clock keeper a b).1) : P_sp_hway t way args vs H Q E
def sp_hway (t : Adr) (way : Int) (args : Int → Int → Addr → List V) : Sp := fun vs H Q E => P_sp_hway t way args vs H Q E
abbrev sp_Holder_ask (t : Adr) : Sp := sp_hway t 0 fun c _ _ => [.int c]
abbrev sp_Holder_hear (t : Adr) : Sp := sp_hway t 1 fun c k q => [.int c, .int k, .ref q]
abbrev sp_Holder_holds (t : Adr) : Sp := sp_hway t 2 fun c _ _ => [.int c]
abbrev sp_Holder_until (t : Adr) : Sp := sp_hway t 3 fun c _ _ => [.int c]
abbrev sp_Holder_free (t : Adr) : Sp := sp_hway t 4 fun c _ _ => [.int c]
inductive P_sp_Holder_init (t : Adr) (vs : List V) (H : Hp) (Q : VK) (E : XK) : Prop
  | mk (p dx tm dt : Addr) (lo hi le ke name life c : Int) (h0_ : vs = [.ref p, .ref tm, .int name, .int life, .int c]) (h1_ : H p = some (.ins t.Holder dx [])) (h2_ : H tm = some (.ins t.Terms dt (terms lo hi le ke))) (h3_ : good lo hi le ke) (h4_ : Small c) (h5_ : ∀ H' S, (∀ x o, H x = some o → x ≠ p → H' x = some o) → (∀ x, x ∈ S → x = p ∨ H x = none) → HAt t H' p S ke le ⟨c, c, life, 0, fun _ _ => none, List.replicate ke.toNat c⟩ → Q .non H') : P_sp_Holder_init t vs H Q E
def sp_Holder_init (t : Adr) : Sp := fun vs H Q E => P_sp_Holder_init t vs H Q E
section
variable {n len way clock keeper a b : Int} {h : HW}
theorem hdue_no (h0 : ¬ (0 ≤ keeper ∧ keeper < n)) : hdue n len h 1 clock keeper a b = (.v (.str "keeper"), h) := by unfold hdue; rw [if_pos ⟨rfl, h0⟩]
theorem hdue_back (h0 : ¬ (way = 1 ∧ ¬ (0 ≤ keeper ∧ keeper < n))) (h1 : clock < h.c) : hdue n len h way clock keeper a b = (.v (.str "back"), h) := by unfold hdue; rw [if_neg h0, if_pos h1]
theorem hdue_ask (h1 : ¬ clock < h.c) : hdue n len h 0 clock keeper a b = (.pair h.life h.many, { h with c := clock, asks := fun x y => if x = h.life ∧ y = h.many then some clock else h.asks x y, many := h.many + 1 }) := by
  unfold hdue; rw [if_neg (by rintro ⟨y, _⟩; exact absurd y (by decide)), if_neg h1, if_neg (by rintro ⟨y, _⟩; exact absurd y (by decide)), if_pos rfl]
theorem hdue_hear (h0 : 0 ≤ keeper ∧ keeper < n) (h1 : ¬ clock < h.c) : hdue n len h 1 clock keeper a b = (.v .non, match h.asks a b with
    | some t => { h with c := clock, ends := h.ends.set keeper.toNat (max (h.ends.getD keeper.toNat 0) (t + len)) }
    | none => { h with c := clock }) := by
  unfold hdue; rw [if_neg (fun y => y.2 h0), if_neg h1, if_neg (by rintro ⟨y, _⟩; exact absurd y (by decide)), if_neg (by decide), if_pos rfl]
  all_goals (cases h.asks a b <;> rfl)
theorem hdue_holds (h1 : ¬ clock < h.c) : hdue n len h 2 clock keeper a b = (.v (.bl (holdsB n h clock)), { h with c := clock }) := by
  unfold hdue; rw [if_neg (by rintro ⟨y, _⟩; exact absurd y (by decide)), if_neg h1, if_neg (by rintro ⟨y, _⟩; exact absurd y (by decide)), if_neg (by decide), if_neg (by decide), if_neg (by decide), if_pos rfl]
theorem hdue_until (h1 : ¬ clock < h.c) : hdue n len h 3 clock keeper a b = (.v (if holdsB n h clock = true then .int ((srt (goodE h clock)).getD ((goodE h clock).length - (n / 2).toNat - 1) 0) else .non), { h with c := clock }) := by
  unfold hdue; rw [if_neg (by rintro ⟨y, _⟩; exact absurd y (by decide)), if_neg h1, if_neg (by rintro ⟨y, _⟩; exact absurd y (by decide)), if_neg (by decide), if_neg (by decide), if_neg (by decide), if_neg (by decide)]
theorem hdue_asked (h1 : ¬ clock < h.c) (h2 : h.many = 0) : hdue n len h 4 clock keeper a b = (.v (.str "asked"), h) := by
  unfold hdue; rw [if_neg (by rintro ⟨y, _⟩; exact absurd y (by decide)), if_neg h1, if_pos ⟨rfl, h2⟩]
theorem hdue_free (h1 : ¬ clock < h.c) (h2 : ¬ h.many = 0) : hdue n len h 4 clock keeper a b = (.pair h.life (h.many - 1), { h with c := clock, asks := fun _ _ => none, ends := List.replicate n.toNat h.first }) := by
  unfold hdue; rw [if_neg (by rintro ⟨y, _⟩; exact absurd y (by decide)), if_neg h1, if_neg (fun y => h2 y.2), if_neg (by decide), if_neg (by decide), if_pos rfl]
end
theorem cls_back {t : Adr} : clsOf t "back" = t.Back := if_pos rfl
theorem cls_keeper {t : Adr} : clsOf t "keeper" = t.NoKeeper := by unfold clsOf; rw [if_neg (by decide), if_pos rfl]
theorem cls_asked {t : Adr} : clsOf t "asked" = t.NotAsked := by unfold clsOf; rw [if_neg (by decide), if_neg (by decide)]
theorem rep_flat {f : Int} : ∀ {k : Nat}, (List.replicate k [V.int f]).flatten = (List.replicate k f).map V.int
  | 0 => rfl
  | k + 1 => by
    rw [List.replicate_succ, List.flatten_cons, rep_flat, List.replicate_succ]
    rfl
theorem fr3 {H H' : Hp} {p da de : Addr} (f : ∀ x o, H x = some o → x ≠ p → x ≠ da → x ≠ de → H' x = some o) : Fr H H' [p, da, de] [p, da, de] :=
  ⟨fun x o e ne => f x o e (fun y => ne (by simp [y])) (fun y => ne (by simp [y])) (fun y => ne (by simp [y])), fun x h => .inl h⟩
theorem upd_id {H : Hp} {a : Addr} {o : HO} (h : H a = some o) : upd H a o = H := by
  funext b
  by_cases e : b = a
  · subst e; rw [upd_same, h]
  · rw [upd_ne e]
/-- what is over is forgotten -/
inductive P_sp_Holder_forget_over (t : Adr) (vs : List V) (H : Hp) (Q : VK) (E : XK) : Prop
  | mk (p dx da de : Addr) (len mj nm life latest lo clock : Int) (cs : List Int) (h0_ : vs = [.ref p, .int clock]) (h1_ : H p = some (.ins t.Holder dx (hf len mj nm life latest (lo + cs.length) da de))) (h2_ : H da = some (.dK (asksK lo cs))) (h3_ : ∀ j : Nat, j ≤ cs.length → (∀ x ∈ cs.take j, x + len ≤ clock) → Q .non (upd H da (.dK (asksK (lo + j) (cs.drop j))))) : P_sp_Holder_forget_over t vs H Q E
def sp_Holder_forget_over (t : Adr) : Sp := fun vs H Q E => P_sp_Holder_forget_over t vs H Q E
section
variable {P : Program} {w : World} {K : PySem.W.Frag} {mg : Str → Option Value} {base : Heap} {t : Adr}
theorem ok_Holder_init (T : Txt K mg t) : FnOk P w K mg base CX0 2 t.f_Holder_init t.d_Holder_init ["self", "terms", "name", "life", "clock"] (sp_Holder_init t) := by
  refine T.F_Holder_init.ok sc_Holder_init (fun vs H Q E h => ?_) (fun cdv A outer s H vs Q E hr h => ?_)
  · obtain ⟨p, dx, tm, dt, lo, hi, le, ke, name, life, c, rfl, _⟩ := h
    rfl
  · obtain ⟨p, dx, tm, dt, lo, hi, le, ke, name, life, c, rfl, hp, ht, g, sc, q⟩ := h
    refine ⟨_, (jss_cons (js_fld nc_attr (je_var (i := 0) nm_self lo_Holder_init_self rfl) (je_fld bs_name (je_var (i := 1) nm_terms lo_Holder_init_terms rfl)))
      (jss_cons (js_fld nc_call (je_var (i := 0) nm_self lo_Holder_init_self rfl) (je_meth0 bs_name rfl (je_var (i := 1) nm_terms lo_Holder_init_terms rfl) T.cl_Terms T.h_Terms_most (ok_Terms_most T) (hr.mono (by decide)) T.b_Terms_most pass0))
      (jss_cons (js_fld nc_name (je_var (i := 0) nm_self lo_Holder_init_self rfl) (je_var (i := 2) nm_name lo_Holder_init_name rfl))
      (jss_cons (js_fld nc_name (je_var (i := 0) nm_self lo_Holder_init_self rfl) (je_var (i := 3) nm_life lo_Holder_init_life rfl))
      (jss_cons (js_fld nc_name (je_var (i := 0) nm_self lo_Holder_init_self rfl) (je_var (i := 4) nm_clock lo_Holder_init_clock rfl))
      (jss_cons (js_fld nc_const (je_var (i := 0) nm_self lo_Holder_init_self rfl) je_int)
      (jss_cons (js_fld nc_dict (je_var (i := 0) nm_self lo_Holder_init_self rfl) je_dnewK)
      (jss_one (js_fld nc_bin (je_var (i := 0) nm_self lo_Holder_init_self rfl) (je_op jo_rep (je_lst (ja_cons sx_name (je_var (i := 4) nm_clock lo_Holder_init_clock rfl) ja_nil)) (je_fld bs_name (je_var (i := 1) nm_terms lo_Holder_init_terms rfl)))))))))))).h, ?_⟩
    dsimp only [cxOf_K, L2.start, List.map_cons, List.map_nil, List.length_cons, List.length_nil, List.cons_append, List.nil_append, List.replicate]
    refine fix_s (by simp only [List.map_cons, List.map_nil, List.cons_append, List.nil_append, Nat.sub_self, List.replicate, List.append_nil]; exact rfl) ?_
    have ntp : tm ≠ p := ne_of ht hp (by intro z; injection z with _ _ z; exact absurd (congrArg List.length z) (show ¬ (4 : Nat) = 0 by decide))
    have ht' : ∀ {o : HO}, upd H p o tm = some (.ins t.Terms dt (terms lo hi le ke)) := fun {o} => by rw [upd_ne ntp]; exact ht
    refine seq_step fun R k => ?_
    try dsimp only [Y0,Y1,Y2,Y3,Y4,Y5,Y6,Y7,Y8,Y9,Ya,Yb,Yc,Yd,Ye,Yf,Yg,Yh,Yi,Yj,Yk,Yl,Ym,Yn,Yo,Yp,Yq,Yr,Ys,Yt,Yu,Yv,Yw,Yx,Yy,Yz,Z0,Z1,Z2,Z3,Z4,Z5,Z6,Z7,Z8,Z9,Za,Zb,Zc,Zd,Ze,Zf,Zg,Zh,Zi,Zj,Zk,Zl,Zm,Zn,Zo,Zp,Zq,Zr,Zs,Zt,Zu,Zv,Zw,Zx,Zy,Zz,V0,V1,V2]
    try simp only [V3,V4,V5,V6,V7,V8,V9,Va,Vb,Vc,Vd,Ve,Vf,Vg,Vh,Vi,Vj,V1,V2,Vk,Vl,reduceCtorEq,Vn,Vo,Vp,Vq]
    refine rd_Terms_length T ht ?_
    refine rd_put hp T.cl_Holder T.nf_Holder_length (by decide : 0 < 1000) (k _ _ ?_)
    clear k R
    refine seq_step fun R k => ?_
    try dsimp only [Y0,Y1,Y2,Y3,Y4,Y5,Y6,Y7,Y8,Y9,Ya,Yb,Yc,Yd,Ye,Yf,Yg,Yh,Yi,Yj,Yk,Yl,Ym,Yn,Yo,Yp,Yq,Yr,Ys,Yt,Yu,Yv,Yw,Yx,Yy,Yz,Z0,Z1,Z2,Z3,Z4,Z5,Z6,Z7,Z8,Z9,Za,Zb,Zc,Zd,Ze,Zf,Zg,Zh,Zi,Zj,Zk,Zl,Zm,Zn,Zo,Zp,Zq,Zr,Zs,Zt,Zu,Zv,Zw,Zx,Zy,Zz,V0,V1,V2]
    try simp only [V3,V4,V5,V6,V7,V8,V9,Va,Vb,Vc,Vd,Ve,Vf,Vg,Vh,Vi,Vj,V1,V2,Vk,Vl,reduceCtorEq,Vn,Vo,Vp,Vq]
    refine me_Terms_most ht' ⟨tm, dt, lo, hi, le, ke, rfl, ht', g, ?_⟩
    refine rd_put upd_same T.cl_Holder T.nf_Holder_needed (by exact (by decide : 1 < 1000)) (k _ _ ?_)
    clear k R
    refine seq_step fun R k => ?_
    rw [upd_upd]
    try dsimp only [Y0,Y1,Y2,Y3,Y4,Y5,Y6,Y7,Y8,Y9,Ya,Yb,Yc,Yd,Ye,Yf,Yg,Yh,Yi,Yj,Yk,Yl,Ym,Yn,Yo,Yp,Yq,Yr,Ys,Yt,Yu,Yv,Yw,Yx,Yy,Yz,Z0,Z1,Z2,Z3,Z4,Z5,Z6,Z7,Z8,Z9,Za,Zb,Zc,Zd,Ze,Zf,Zg,Zh,Zi,Zj,Zk,Zl,Zm,Zn,Zo,Zp,Zq,Zr,Zs,Zt,Zu,Zv,Zw,Zx,Zy,Zz,V0,V1,V2]
    try simp only [V3,V4,V5,V6,V7,V8,V9,Va,Vb,Vc,Vd,Ve,Vf,Vg,Vh,Vi,Vj,V1,V2,Vk,Vl,reduceCtorEq,Vn,Vo,Vp,Vq]
    refine rd_put upd_same T.cl_Holder T.nf_Holder_name (by exact (by decide : 2 < 1000)) (k _ _ ?_)
    clear k R
    refine seq_step fun R k => ?_
    rw [upd_upd]
    try dsimp only [Y0,Y1,Y2,Y3,Y4,Y5,Y6,Y7,Y8,Y9,Ya,Yb,Yc,Yd,Ye,Yf,Yg,Yh,Yi,Yj,Yk,Yl,Ym,Yn,Yo,Yp,Yq,Yr,Ys,Yt,Yu,Yv,Yw,Yx,Yy,Yz,Z0,Z1,Z2,Z3,Z4,Z5,Z6,Z7,Z8,Z9,Za,Zb,Zc,Zd,Ze,Zf,Zg,Zh,Zi,Zj,Zk,Zl,Zm,Zn,Zo,Zp,Zq,Zr,Zs,Zt,Zu,Zv,Zw,Zx,Zy,Zz,V0,V1,V2]
    try simp only [V3,V4,V5,V6,V7,V8,V9,Va,Vb,Vc,Vd,Ve,Vf,Vg,Vh,Vi,Vj,V1,V2,Vk,Vl,reduceCtorEq,Vn,Vo,Vp,Vq]
    refine rd_put upd_same T.cl_Holder T.nf_Holder_life (by exact (by decide : 3 < 1000)) (k _ _ ?_)
    clear k R
    refine seq_step fun R k => ?_
    rw [upd_upd]
    try dsimp only [Y0,Y1,Y2,Y3,Y4,Y5,Y6,Y7,Y8,Y9,Ya,Yb,Yc,Yd,Ye,Yf,Yg,Yh,Yi,Yj,Yk,Yl,Ym,Yn,Yo,Yp,Yq,Yr,Ys,Yt,Yu,Yv,Yw,Yx,Yy,Yz,Z0,Z1,Z2,Z3,Z4,Z5,Z6,Z7,Z8,Z9,Za,Zb,Zc,Zd,Ze,Zf,Zg,Zh,Zi,Zj,Zk,Zl,Zm,Zn,Zo,Zp,Zq,Zr,Zs,Zt,Zu,Zv,Zw,Zx,Zy,Zz,V0,V1,V2]
    try simp only [V3,V4,V5,V6,V7,V8,V9,Va,Vb,Vc,Vd,Ve,Vf,Vg,Vh,Vi,Vj,V1,V2,Vk,Vl,reduceCtorEq,Vn,Vo,Vp,Vq]
    refine rd_put upd_same T.cl_Holder T.nf_Holder_latest (by exact (by decide : 4 < 1000)) (k _ _ ?_)
    clear k R
    refine seq_step fun R k => ?_
    rw [upd_upd]
    try dsimp only [Y0,Y1,Y2,Y3,Y4,Y5,Y6,Y7,Y8,Y9,Ya,Yb,Yc,Yd,Ye,Yf,Yg,Yh,Yi,Yj,Yk,Yl,Ym,Yn,Yo,Yp,Yq,Yr,Ys,Yt,Yu,Yv,Yw,Yx,Yy,Yz,Z0,Z1,Z2,Z3,Z4,Z5,Z6,Z7,Z8,Z9,Za,Zb,Zc,Zd,Ze,Zf,Zg,Zh,Zi,Zj,Zk,Zl,Zm,Zn,Zo,Zp,Zq,Zr,Zs,Zt,Zu,Zv,Zw,Zx,Zy,Zz,V0,V1,V2]
    try simp only [V3,V4,V5,V6,V7,V8,V9,Va,Vb,Vc,Vd,Ve,Vf,Vg,Vh,Vi,Vj,V1,V2,Vk,Vl,reduceCtorEq,Vn,Vo,Vp,Vq]
    refine rd_put upd_same T.cl_Holder T.nf_Holder_told (by exact (by decide : 5 < 1000)) (k _ _ ?_)
    clear k R
    refine seq_step fun R k => ?_
    rw [upd_upd]
    try dsimp only [Y0,Y1,Y2,Y3,Y4,Y5,Y6,Y7,Y8,Y9,Ya,Yb,Yc,Yd,Ye,Yf,Yg,Yh,Yi,Yj,Yk,Yl,Ym,Yn,Yo,Yp,Yq,Yr,Ys,Yt,Yu,Yv,Yw,Yx,Yy,Yz,Z0,Z1,Z2,Z3,Z4,Z5,Z6,Z7,Z8,Z9,Za,Zb,Zc,Zd,Ze,Zf,Zg,Zh,Zi,Zj,Zk,Zl,Zm,Zn,Zo,Zp,Zq,Zr,Zs,Zt,Zu,Zv,Zw,Zx,Zy,Zz,V0,V1,V2]
    try simp only [V3,V4,V5,V6,V7,V8,V9,Va,Vb,Vc,Vd,Ve,Vf,Vg,Vh,Vi,Vj,V1,V2,Vk,Vl,reduceCtorEq,Vn,Vo,Vp,Vq]
    intro da hda
    have npd : p ≠ da := ne_of_none upd_same hda
    have hda0 : H da = none := by rw [upd_ne npd.symm] at hda; exact hda
    refine rd_put (by rw [upd_ne npd]; exact upd_same) T.cl_Holder T.nf_Holder_asks (by exact (by decide : 6 < 1000)) (k _ _ ?_)
    clear k R
    generalize e1 : upd (upd (upd H p _) da (.dK [])) p (.ins t.Holder dx _) = H1
    have f1 : ∀ x o, H x = some o → x ≠ p → H1 x = some o := fun x o e ne => by rw [← e1, upd_ne ne, upd_ne (ne_of_none e hda0), upd_ne ne]; exact e
    have hp1 := (congrFun e1 p).symm.trans upd_same
    have hd1 : H1 da = some (.dK []) := by rw [← e1, upd_ne npd.symm]; exact upd_same
    clear e1
    clear hda ht'
    have ht1 := f1 _ _ ht ntp
    try dsimp only [Y0,Y1,Y2,Y3,Y4,Y5,Y6,Y7,Y8,Y9,Ya,Yb,Yc,Yd,Ye,Yf,Yg,Yh,Yi,Yj,Yk,Yl,Ym,Yn,Yo,Yp,Yq,Yr,Ys,Yt,Yu,Yv,Yw,Yx,Yy,Yz,Z0,Z1,Z2,Z3,Z4,Z5,Z6,Z7,Z8,Z9,Za,Zb,Zc,Zd,Ze,Zf,Zg,Zh,Zi,Zj,Zk,Zl,Zm,Zn,Zo,Zp,Zq,Zr,Zs,Zt,Zu,Zv,Zw,Zx,Zy,Zz,V0,V1,V2]
    try simp only [V3,V4,V5,V6,V7,V8,V9,Va,Vb,Vc,Vd,Ve,Vf,Vg,Vh,Vi,Vj,V1,V2,Vk,Vl,reduceCtorEq,Vn,Vo,Vp,Vq]
    refine ⟨by decide, fun p1 hp1' => ?_⟩
    have f2 : ∀ {o : HO} x o', H1 x = some o' → upd H1 p1 o x = some o' := fun x o' e => by rw [upd_ne (ne_of_none e hp1')]; exact e
    refine rd_Terms_keepers T (f2 _ _ ht1) ?_
    obtain ⟨g1, g2, g3, g4, g5, g6, g7⟩ := id g
    refine ⟨p1, ke, _, rfl, rfl, upd_same, by omega, by omega, ?_, fun de hde => ?_⟩
    · have := sizeLine_eq
      rw [List.length_singleton]
      omega
    rw [rep_flat]
    have f3 : ∀ {o o2 : HO} x o', H1 x = some o' → upd (upd H1 p1 o) de o2 x = some o' := fun {o o2} x o' e => by rw [upd_ne (ne_of_none (f2 (o := .lst [.int c]) x o' e) hde)]; exact f2 x o' e
    have hde1 : H1 de = none := by
      cases e : H1 de with
      | none => rfl
      | some o => rw [f2 _ _ e] at hde; cases hde
    have hde0 : de = p ∨ H de = none := by
      cases e : H de with
      | none => exact .inr rfl
      | some o =>
        by_cases y : de = p
        · exact .inl y
        · rw [f1 _ _ e y] at hde1; cases hde1
    have npe : p ≠ de := ne_of_none hp1 hde1
    have nde : da ≠ de := ne_of_none hd1 hde1
    refine rd_put (f3 _ _ hp1) T.cl_Holder T.nf_Holder_ends (by exact (by decide : 7 < 1000)) ?_
    refine q _ [p, da, de] (fun x o e ne => by rw [upd_ne ne]; exact f3 _ _ (f1 _ _ e ne)) (fun x hx => ?_) ?_
    · simp only [List.mem_cons, List.not_mem_nil, or_false] at hx
      rcases hx with rfl | rfl | rfl
      · exact .inl rfl
      · exact .inr hda0
      · exact hde0
    · refine ⟨dx, da, de, name, 0, [], List.replicate ke.toNat c, rfl, upd_same, by rw [upd_ne npd.symm]; exact f3 _ _ hd1, by rw [upd_ne npe.symm]; exact upd_same, rfl, by decide, (by show (0 : Int) ≤ 1000; decide), ⟨fun _ _ _ z => (by cases z), fun _ _ z => (by cases z)⟩, EndR.rep ⟨Int.le_refl _, Int.le_refl _⟩ _, ?_, Int.le_refl _, sc⟩
      rw [List.length_replicate]
      omega
theorem ok_Holder_forget_over (T : Txt K mg t) : FnOk P w K mg base CX0 1 t.f_Holder_forget_over t.d_Holder_forget_over ["self", "clock"] (sp_Holder_forget_over t) := by
  refine T.F_Holder_forget_over.ok sc_Holder_forget_over (fun vs H Q E h => ?_) (fun cdv A outer s H vs Q E hr h => ?_)
  · obtain ⟨p, dx, da, de, len, mj, nm, life, latest, lo, clock, cs, rfl, _⟩ := h
    rfl
  · obtain ⟨p, dx, da, de, len, mj, nm, life, latest, lo, clock, cs, rfl, hp, hda, q⟩ := h
    refine ⟨_, (jss_cons (js_set (i := 2) nc_bin sc_Holder_forget_over.nd rfl lo_Holder_forget_over_oldest (je_op jo_sub (je_fld bs_name (je_var (i := 0) nm_self lo_Holder_forget_over_self rfl)) (je_callB nm_len lo_Holder_forget_over_len jc_lenD T.z_len bt_len sx_attr ns_nil (ja_cons sx_attr (je_fld bs_name (je_var (i := 0) nm_self lo_Holder_forget_over_self rfl)) ja_nil))))
      (jss_one (js_while PassesOwn.never (jt_bool (jw_and (jt_cmp jo_lt (je_var (i := 2) nm_oldest lo_Holder_forget_over_oldest rfl) (je_fld bs_name (je_var (i := 0) nm_self lo_Holder_forget_over_self rfl)) (by decide) (by decide)) (jw_and1 (jt_cmp jo_le (je_op jo_add (je_dget (hu_of hr) (je_fld bs_name (je_var (i := 0) nm_self lo_Holder_forget_over_self rfl)) (je_var (i := 2) nm_oldest lo_Holder_forget_over_oldest rfl) (fun _ _ => rfl)) (je_fld bs_name (je_var (i := 0) nm_self lo_Holder_forget_over_self rfl))) (je_var (i := 1) nm_clock lo_Holder_forget_over_clock rfl) (by decide) (by decide))))) (jss_cons (js_expr nc_call (je_dpop bs_attr rfl sx_name (je_fld bs_name (je_var (i := 0) nm_self lo_Holder_forget_over_self rfl)) (je_var (i := 2) nm_oldest lo_Holder_forget_over_oldest rfl)))
      (jss_one (js_aug (i := 2) sc_Holder_forget_over.nd rfl lo_Holder_forget_over_oldest ip_add je_int)))))).h, ?_⟩
    dsimp only [cxOf_K, L2.start, List.map_cons, List.map_nil, List.length_cons, List.length_nil, List.cons_append, List.nil_append, List.replicate]
    refine fix_s (by simp only [List.map_cons, List.map_nil, List.cons_append, List.nil_append, Nat.sub_self, List.replicate, List.append_nil]; exact rfl) ?_
    have npd : p ≠ da := ne_of hp hda (by intro z; cases z)
    refine seq_step fun R k => ?_
    try dsimp only [Y0,Y1,Y2,Y3,Y4,Y5,Y6,Y7,Y8,Y9,Ya,Yb,Yc,Yd,Ye,Yf,Yg,Yh,Yi,Yj,Yk,Yl,Ym,Yn,Yo,Yp,Yq,Yr,Ys,Yt,Yu,Yv,Yw,Yx,Yy,Yz,Z0,Z1,Z2,Z3,Z4,Z5,Z6,Z7,Z8,Z9,Za,Zb,Zc,Zd,Ze,Zf,Zg,Zh,Zi,Zj,Zk,Zl,Zm,Zn,Zo,Zp,Zq,Zr,Zs,Zt,Zu,Zv,Zw,Zx,Zy,Zz,V0,V1,V2]
    try simp only [V3,V4,V5,V6,V7,V8,V9,Va,Vb,Vc,Vd,Ve,Vf,Vg,Vh,Vi,Vj,V1,V2,Vk,Vl,reduceCtorEq,Vn,Vo,Vp,Vq]
    refine rd_Holder_told T hp ?_
    try dsimp only [Y0,Y1,Y2,Y3,Y4,Y5,Y6,Y7,Y8,Y9,Ya,Yb,Yc,Yd,Ye,Yf,Yg,Yh,Yi,Yj,Yk,Yl,Ym,Yn,Yo,Yp,Yq,Yr,Ys,Yt,Yu,Yv,Yw,Yx,Yy,Yz,Z0,Z1,Z2,Z3,Z4,Z5,Z6,Z7,Z8,Z9,Za,Zb,Zc,Zd,Ze,Zf,Zg,Zh,Zi,Zj,Zk,Zl,Zm,Zn,Zo,Zp,Zq,Zr,Zs,Zt,Zu,Zv,Zw,Zx,Zy,Zz,V0,V1,V2]
    try simp only [V3,V4,V5,V6,V7,V8,V9,Va,Vb,Vc,Vd,Ve,Vf,Vg,Vh,Vi,Vj,V1,V2,Vk,Vl,reduceCtorEq,Vn,Vo,Vp,Vq]
    refine rd_Holder_asks T hp (rd_lenD hda ?_)
    try dsimp only [Y0,Y1,Y2,Y3,Y4,Y5,Y6,Y7,Y8,Y9,Ya,Yb,Yc,Yd,Ye,Yf,Yg,Yh,Yi,Yj,Yk,Yl,Ym,Yn,Yo,Yp,Yq,Yr,Ys,Yt,Yu,Yv,Yw,Yx,Yy,Yz,Z0,Z1,Z2,Z3,Z4,Z5,Z6,Z7,Z8,Z9,Za,Zb,Zc,Zd,Ze,Zf,Zg,Zh,Zi,Zj,Zk,Zl,Zm,Zn,Zo,Zp,Zq,Zr,Zs,Zt,Zu,Zv,Zw,Zx,Zy,Zz,V0,V1,V2]
    try simp only [V3,V4,V5,V6,V7,V8,V9,Va,Vb,Vc,Vd,Ve,Vf,Vg,Vh,Vi,Vj,V1,V2,Vk,Vl,reduceCtorEq,Vn,Vo,Vp,Vq]
    rw [asksK_len, Int.add_sub_cancel]
    refine k _ _ ?_
    clear k R
    refine ⟨fun m σ H' => ∃ j : Nat, σ = [some (.ref p), some (.int clock), some (.int (lo + j))] ∧ j ≤ cs.length ∧ H' = upd H da (.dK (asksK (lo + j) (cs.drop j))) ∧ (∀ x ∈ cs.take j, x + len ≤ clock) ∧ m = cs.length - j, ⟨_, 0, ?_, Nat.zero_le _, ?_, ?_, rfl⟩, ?_⟩
    · rw [Int.natCast_zero, Int.add_zero]
    · rw [Int.natCast_zero, Int.add_zero, List.drop_zero, upd_id hda]
    · intro x hx
      cases hx
    rintro m σ H' ⟨j, rfl, hj, rfl, hx, rfl⟩
    have hp' : upd H da (.dK (asksK (lo + j) (cs.drop j))) p = some (.ins t.Holder dx (hf len mj nm life latest (lo + cs.length) da de)) := by rw [upd_ne npd]; exact hp
    try dsimp only [Y0,Y1,Y2,Y3,Y4,Y5,Y6,Y7,Y8,Y9,Ya,Yb,Yc,Yd,Ye,Yf,Yg,Yh,Yi,Yj,Yk,Yl,Ym,Yn,Yo,Yp,Yq,Yr,Ys,Yt,Yu,Yv,Yw,Yx,Yy,Yz,Z0,Z1,Z2,Z3,Z4,Z5,Z6,Z7,Z8,Z9,Za,Zb,Zc,Zd,Ze,Zf,Zg,Zh,Zi,Zj,Zk,Zl,Zm,Zn,Zo,Zp,Zq,Zr,Zs,Zt,Zu,Zv,Zw,Zx,Zy,Zz,V0,V1,V2]
    try simp only [V3,V4,V5,V6,V7,V8,V9,Va,Vb,Vc,Vd,Ve,Vf,Vg,Vh,Vi,Vj,V1,V2,Vk,Vl,reduceCtorEq,Vn,Vo,Vp,Vq]
    refine rd_Holder_told T hp' ?_
    try dsimp only [Y0,Y1,Y2,Y3,Y4,Y5,Y6,Y7,Y8,Y9,Ya,Yb,Yc,Yd,Ye,Yf,Yg,Yh,Yi,Yj,Yk,Yl,Ym,Yn,Yo,Yp,Yq,Yr,Ys,Yt,Yu,Yv,Yw,Yx,Yy,Yz,Z0,Z1,Z2,Z3,Z4,Z5,Z6,Z7,Z8,Z9,Za,Zb,Zc,Zd,Ze,Zf,Zg,Zh,Zi,Zj,Zk,Zl,Zm,Zn,Zo,Zp,Zq,Zr,Zs,Zt,Zu,Zv,Zw,Zx,Zy,Zz,V0,V1,V2]
    try simp only [V3,V4,V5,V6,V7,V8,V9,Va,Vb,Vc,Vd,Ve,Vf,Vg,Vh,Vi,Vj,V1,V2,Vk,Vl,reduceCtorEq,Vn,Vo,Vp,Vq]
    split
    · rename_i h1
      have hjl : j < cs.length := by omega
      have ed : cs.drop j = cs[j] :: cs.drop (j + 1) := List.drop_eq_getElem_cons hjl
      have hv : valV (asksK (lo + j) (cs.drop j)) (Sum.inl (lo + j)) = some (.int cs[j]) := by rw [ed]; exact asksK_first
      refine rd_Holder_asks T hp' (rd_dgetI upd_same hv ?_)
      try dsimp only [Y0,Y1,Y2,Y3,Y4,Y5,Y6,Y7,Y8,Y9,Ya,Yb,Yc,Yd,Ye,Yf,Yg,Yh,Yi,Yj,Yk,Yl,Ym,Yn,Yo,Yp,Yq,Yr,Ys,Yt,Yu,Yv,Yw,Yx,Yy,Yz,Z0,Z1,Z2,Z3,Z4,Z5,Z6,Z7,Z8,Z9,Za,Zb,Zc,Zd,Ze,Zf,Zg,Zh,Zi,Zj,Zk,Zl,Zm,Zn,Zo,Zp,Zq,Zr,Zs,Zt,Zu,Zv,Zw,Zx,Zy,Zz,V0,V1,V2]
      try simp only [V3,V4,V5,V6,V7,V8,V9,Va,Vb,Vc,Vd,Ve,Vf,Vg,Vh,Vi,Vj,V1,V2,Vk,Vl,reduceCtorEq,Vn,Vo,Vp,Vq]
      refine rd_Holder_length T hp' ?_
      try dsimp only [Y0,Y1,Y2,Y3,Y4,Y5,Y6,Y7,Y8,Y9,Ya,Yb,Yc,Yd,Ye,Yf,Yg,Yh,Yi,Yj,Yk,Yl,Ym,Yn,Yo,Yp,Yq,Yr,Ys,Yt,Yu,Yv,Yw,Yx,Yy,Yz,Z0,Z1,Z2,Z3,Z4,Z5,Z6,Z7,Z8,Z9,Za,Zb,Zc,Zd,Ze,Zf,Zg,Zh,Zi,Zj,Zk,Zl,Zm,Zn,Zo,Zp,Zq,Zr,Zs,Zt,Zu,Zv,Zw,Zx,Zy,Zz,V0,V1,V2]
      try simp only [V3,V4,V5,V6,V7,V8,V9,Va,Vb,Vc,Vd,Ve,Vf,Vg,Vh,Vi,Vj,V1,V2,Vk,Vl,reduceCtorEq,Vn,Vo,Vp,Vq]
      split
      · rename_i h2
        refine ⟨fun σ' H'' => σ' = [some (.ref p), some (.int clock), some (.int (lo + j + 1))] ∧ H'' = upd H da (.dK (asksK (lo + j + 1) (cs.drop (j + 1)))), ?_, ?_⟩
        · rintro σ' H'' ⟨rfl, rfl⟩
          refine ⟨_, ?_, j + 1, ?_, hjl, ?_, ?_, rfl⟩
          · omega
          · rw [show lo + ((j + 1 : Nat) : Int) = lo + j + 1 by omega]
          · rw [show lo + ((j + 1 : Nat) : Int) = lo + j + 1 by omega]
          · intro x hx'
            rw [List.take_add_one, List.getElem?_eq_getElem hjl] at hx'
            rcases List.mem_append.mp hx' with z | z
            · exact hx x z
            · cases List.mem_singleton.mp z
              exact h2
        · refine seq_step fun R2 k2 => ?_
          try dsimp only [Y0,Y1,Y2,Y3,Y4,Y5,Y6,Y7,Y8,Y9,Ya,Yb,Yc,Yd,Ye,Yf,Yg,Yh,Yi,Yj,Yk,Yl,Ym,Yn,Yo,Yp,Yq,Yr,Ys,Yt,Yu,Yv,Yw,Yx,Yy,Yz,Z0,Z1,Z2,Z3,Z4,Z5,Z6,Z7,Z8,Z9,Za,Zb,Zc,Zd,Ze,Zf,Zg,Zh,Zi,Zj,Zk,Zl,Zm,Zn,Zo,Zp,Zq,Zr,Zs,Zt,Zu,Zv,Zw,Zx,Zy,Zz,V0,V1,V2]
          try simp only [V3,V4,V5,V6,V7,V8,V9,Va,Vb,Vc,Vd,Ve,Vf,Vg,Vh,Vi,Vj,V1,V2,Vk,Vl,reduceCtorEq,Vn,Vo,Vp,Vq]
          refine rd_Holder_asks T hp' ⟨da, rfl, .inl ⟨_, .inl upd_same⟩, ?_⟩
          try dsimp only [Y0,Y1,Y2,Y3,Y4,Y5,Y6,Y7,Y8,Y9,Ya,Yb,Yc,Yd,Ye,Yf,Yg,Yh,Yi,Yj,Yk,Yl,Ym,Yn,Yo,Yp,Yq,Yr,Ys,Yt,Yu,Yv,Yw,Yx,Yy,Yz,Z0,Z1,Z2,Z3,Z4,Z5,Z6,Z7,Z8,Z9,Za,Zb,Zc,Zd,Ze,Zf,Zg,Zh,Zi,Zj,Zk,Zl,Zm,Zn,Zo,Zp,Zq,Zr,Zs,Zt,Zu,Zv,Zw,Zx,Zy,Zz,V0,V1,V2]
          try simp only [V3,V4,V5,V6,V7,V8,V9,Va,Vb,Vc,Vd,Ve,Vf,Vg,Vh,Vi,Vj,V1,V2,Vk,Vl,reduceCtorEq,Vn,Vo,Vp,Vq]
          refine ⟨_, upd_same, Sum.inl (lo + j), rfl, .int cs[j], hv, ?_⟩
          rw [upd_upd, ed, asksK_drop]
          refine k2 _ _ ?_
          try dsimp only [Y0,Y1,Y2,Y3,Y4,Y5,Y6,Y7,Y8,Y9,Ya,Yb,Yc,Yd,Ye,Yf,Yg,Yh,Yi,Yj,Yk,Yl,Ym,Yn,Yo,Yp,Yq,Yr,Ys,Yt,Yu,Yv,Yw,Yx,Yy,Yz,Z0,Z1,Z2,Z3,Z4,Z5,Z6,Z7,Z8,Z9,Za,Zb,Zc,Zd,Ze,Zf,Zg,Zh,Zi,Zj,Zk,Zl,Zm,Zn,Zo,Zp,Zq,Zr,Zs,Zt,Zu,Zv,Zw,Zx,Zy,Zz,V0,V1,V2]
          try simp only [V3,V4,V5,V6,V7,V8,V9,Va,Vb,Vc,Vd,Ve,Vf,Vg,Vh,Vi,Vj,V1,V2,Vk,Vl,reduceCtorEq,Vn,Vo,Vp,Vq]
      · exact q j hj hx
    · exact q j hj hx
theorem ok_Holder_ask (T : Txt K mg t) : FnOk P w K mg base (CXF P w) 2 t.f_Holder_ask t.d_Holder_ask ["self", "clock"] (sp_Holder_ask t) := by
  refine T.F_Holder_ask.okX sc_Holder_ask (fun vs H Q E h => ?_) (fun cdv A outer s H vs Q E hr h => ?_)
  · obtain ⟨p, S, n, len, h, clock, keeper, q, a, b, rfl, _⟩ := h
    rfl
  · obtain ⟨p, S, n, len, ⟨c, f, l, m, asks, ends⟩, clock, keeper, q, a, b, rfl, ⟨dx, da, de, nm, lo, cs, es, rfl, hp, hda, hde, hlo, hlo0, hm1, ha, he, hen, hf0, sc⟩, n1, n5, hm, sm, sk, sl, hq, z⟩ := h
    dsimp only at hp hda hde hlo hm1 ha he hf0 sc hm
    subst hlo
    have npd : p ≠ da := ne_of hp hda (by intro z; cases z)
    have npe : p ≠ de := ne_of hp hde (by intro z; cases z)
    have nde : da ≠ de := ne_of hda hde (by intro z; cases z)
    have qe : clock < c → E (.ref t.Back) none H := fun h1 => by
      have z := z H [p, da, de] (fr3 fun x o e _ _ _ => e)
      rw [hdue_back (by rintro ⟨y, _⟩; exact absurd y (by decide)) h1] at z
      rw [← cls_back]
      exact z ⟨dx, da, de, nm, lo, cs, es, rfl, hp, hda, hde, rfl, hlo0, hm1, ha, he, hen, hf0, sc⟩
    refine ⟨_, (jssx_cons (jsx_fld nc_call (je_var (i := 0) nm_self lo_Holder_ask_self rfl) (jex_call nm_gone_on lo_Holder_ask_gone_on (ok_gone_on T) (hr.mono (by decide)) T.m_gone_on T.F_gone_on.kp T.b_gone_on sx_attr (ns_cons sx_name ns_nil) (ja_cons sx_attr (je_fld bs_name (je_var (i := 0) nm_self lo_Holder_ask_self rfl)) (ja_cons sx_name (je_var (i := 1) nm_clock lo_Holder_ask_clock rfl) ja_nil))))
      (jssx_cons (jx (js_expr nc_call (je_meth bs_name rfl (by decide) (je_var (i := 0) nm_self lo_Holder_ask_self rfl) T.cl_Holder T.h_Holder_forget_over (ok_Holder_forget_over T) (hr.mono (by decide)) T.b_Holder_forget_over pass0 sx_name ns_nil (ja_cons sx_name (je_var (i := 1) nm_clock lo_Holder_ask_clock rfl) ja_nil))))
      (jssx_cons (jx (js_set (i := 2) nc_tuple sc_Holder_ask.nd rfl lo_Holder_ask_number (je_tup (ja_cons sx_attr (je_fld bs_name (je_var (i := 0) nm_self lo_Holder_ask_self rfl)) (ja_cons sx_attr (je_fld bs_name (je_var (i := 0) nm_self lo_Holder_ask_self rfl)) ja_nil)))))
      (jssx_cons (jx (js_dput nc_name (hu_of hr) (je_fld bs_name (je_var (i := 0) nm_self lo_Holder_ask_self rfl)) (je_fld bs_name (je_var (i := 0) nm_self lo_Holder_ask_self rfl)) (je_var (i := 1) nm_clock lo_Holder_ask_clock rfl)))
      (jssx_cons (jx (js_fldaug in_add (je_var (i := 0) nm_self lo_Holder_ask_self rfl) je_int))
      (jssx_one (jx (js_ret (je_var (i := 2) nm_number lo_Holder_ask_number rfl))))))))).h, ?_⟩
    dsimp only [cxOf_K, L2.start, List.map_cons, List.map_nil, List.length_cons, List.length_nil, List.cons_append, List.nil_append, List.replicate]
    refine fix_x (by simp only [List.map_cons, List.map_nil, List.cons_append, List.nil_append, Nat.sub_self, List.replicate, List.append_nil]; exact rfl) ?_
    refine xseq_step fun R k => ?_
    try dsimp only [Y0,Y1,Y2,Y3,Y4,Y5,Y6,Y7,Y8,Y9,Ya,Yb,Yc,Yd,Ye,Yf,Yg,Yh,Yi,Yj,Yk,Yl,Ym,Yn,Yo,Yp,Yq,Yr,Ys,Yt,Yu,Yv,Yw,Yx,Yy,Yz,Z0,Z1,Z2,Z3,Z4,Z5,Z6,Z7,Z8,Z9,Za,Zb,Zc,Zd,Ze,Zf,Zg,Zh,Zi,Zj,Zk,Zl,Zm,Zn,Zo,Zp,Zq,Zr,Zs,Zt,Zu,Zv,Zw,Zx,Zy,Zz,V0,V1,V2]
    try simp only [V3,V4,V5,V6,V7,V8,V9,Va,Vb,Vc,Vd,Ve,Vf,Vg,Vh,Vi,Vj,V1,V2,Vk,Vl,reduceCtorEq,Vn,Vo,Vp,Vq]
    refine rd_Holder_latest T hp ?_
    try dsimp only [Y0,Y1,Y2,Y3,Y4,Y5,Y6,Y7,Y8,Y9,Ya,Yb,Yc,Yd,Ye,Yf,Yg,Yh,Yi,Yj,Yk,Yl,Ym,Yn,Yo,Yp,Yq,Yr,Ys,Yt,Yu,Yv,Yw,Yx,Yy,Yz,Z0,Z1,Z2,Z3,Z4,Z5,Z6,Z7,Z8,Z9,Za,Zb,Zc,Zd,Ze,Zf,Zg,Zh,Zi,Zj,Zk,Zl,Zm,Zn,Zo,Zp,Zq,Zr,Zs,Zt,Zu,Zv,Zw,Zx,Zy,Zz,V0,V1,V2]
    try simp only [V3,V4,V5,V6,V7,V8,V9,Va,Vb,Vc,Vd,Ve,Vf,Vg,Vh,Vi,Vj,V1,V2,Vk,Vl,reduceCtorEq,Vn,Vo,Vp,Vq]
    refine ⟨c, clock, rfl, sc, sm, qe, fun h1 => ?_⟩
    try dsimp only [Y0,Y1,Y2,Y3,Y4,Y5,Y6,Y7,Y8,Y9,Ya,Yb,Yc,Yd,Ye,Yf,Yg,Yh,Yi,Yj,Yk,Yl,Ym,Yn,Yo,Yp,Yq,Yr,Ys,Yt,Yu,Yv,Yw,Yx,Yy,Yz,Z0,Z1,Z2,Z3,Z4,Z5,Z6,Z7,Z8,Z9,Za,Zb,Zc,Zd,Ze,Zf,Zg,Zh,Zi,Zj,Zk,Zl,Zm,Zn,Zo,Zp,Zq,Zr,Zs,Zt,Zu,Zv,Zw,Zx,Zy,Zz,V0,V1,V2]
    try simp only [V3,V4,V5,V6,V7,V8,V9,Va,Vb,Vc,Vd,Ve,Vf,Vg,Vh,Vi,Vj,V1,V2,Vk,Vl,reduceCtorEq,Vn,Vo,Vp,Vq]
    refine st_Holder_latest T hp (k _ _ ?_)
    clear k R
    refine xseq_step fun R k => ?_
    rw [hdue_ask h1] at z
    dsimp only at h1 z
    have f1 : ∀ x o, H x = some o → x ≠ p → upd H p (.ins t.Holder dx (hf len (n / 2 + 1) nm l clock (lo + cs.length) da de)) x = some o := fun x o e ne => by rw [upd_ne ne]; exact e
    have hp1 : upd H p (.ins t.Holder dx (hf len (n / 2 + 1) nm l clock (lo + cs.length) da de)) p = some (.ins t.Holder dx (hf len (n / 2 + 1) nm l clock (lo + cs.length) da de)) := upd_same
    have hda1 := f1 _ _ hda npd.symm
    have hde1 := f1 _ _ hde npe.symm
    generalize upd H p (.ins t.Holder dx (hf len (n / 2 + 1) nm l clock (lo + cs.length) da de)) = H1 at f1 hp1 hda1 hde1 ⊢
    try dsimp only [Y0,Y1,Y2,Y3,Y4,Y5,Y6,Y7,Y8,Y9,Ya,Yb,Yc,Yd,Ye,Yf,Yg,Yh,Yi,Yj,Yk,Yl,Ym,Yn,Yo,Yp,Yq,Yr,Ys,Yt,Yu,Yv,Yw,Yx,Yy,Yz,Z0,Z1,Z2,Z3,Z4,Z5,Z6,Z7,Z8,Z9,Za,Zb,Zc,Zd,Ze,Zf,Zg,Zh,Zi,Zj,Zk,Zl,Zm,Zn,Zo,Zp,Zq,Zr,Zs,Zt,Zu,Zv,Zw,Zx,Zy,Zz,V0,V1,V2]
    try simp only [V3,V4,V5,V6,V7,V8,V9,Va,Vb,Vc,Vd,Ve,Vf,Vg,Vh,Vi,Vj,V1,V2,Vk,Vl,reduceCtorEq,Vn,Vo,Vp,Vq]
    refine me_Holder_forget_over hp1 ⟨p, dx, da, de, len, n / 2 + 1, nm, l, clock, lo, clock, cs, rfl, hp1, hda1, fun j hj hx => k _ _ ?_⟩
    clear k R
    refine xseq_step fun R k => ?_
    have f2 : ∀ x o, H1 x = some o → x ≠ da → upd H1 da (.dK (asksK (lo + j) (cs.drop j))) x = some o := fun x o e ne => by rw [upd_ne ne]; exact e
    have hp2 := f2 _ _ hp1 npd
    have hde2 := f2 _ _ hde1 nde.symm
    have hda2 : upd H1 da (.dK (asksK (lo + j) (cs.drop j))) da = some (.dK (asksK (lo + j) (cs.drop j))) := upd_same
    generalize upd H1 da (.dK (asksK (lo + j) (cs.drop j))) = H2 at f2 hp2 hde2 hda2 ⊢
    try dsimp only [Y0,Y1,Y2,Y3,Y4,Y5,Y6,Y7,Y8,Y9,Ya,Yb,Yc,Yd,Ye,Yf,Yg,Yh,Yi,Yj,Yk,Yl,Ym,Yn,Yo,Yp,Yq,Yr,Ys,Yt,Yu,Yv,Yw,Yx,Yy,Yz,Z0,Z1,Z2,Z3,Z4,Z5,Z6,Z7,Z8,Z9,Za,Zb,Zc,Zd,Ze,Zf,Zg,Zh,Zi,Zj,Zk,Zl,Zm,Zn,Zo,Zp,Zq,Zr,Zs,Zt,Zu,Zv,Zw,Zx,Zy,Zz,V0,V1,V2]
    try simp only [V3,V4,V5,V6,V7,V8,V9,Va,Vb,Vc,Vd,Ve,Vf,Vg,Vh,Vi,Vj,V1,V2,Vk,Vl,reduceCtorEq,Vn,Vo,Vp,Vq]
    refine rd_Holder_life T hp2 (rd_Holder_told T hp2 ⟨by decide, fun pr hpr => k _ _ ?_⟩)
    clear k R
    refine xseq_step fun R k => ?_
    have f3 : ∀ x o, H2 x = some o → upd H2 pr (.tup [.int l, .int (lo + cs.length)]) x = some o := fun x o e => by rw [upd_ne (ne_of_none e hpr)]; exact e
    have hp3 := f3 _ _ hp2
    have hde3 := f3 _ _ hde2
    have hda3 := f3 _ _ hda2
    have hpr3 : upd H2 pr (.tup [.int l, .int (lo + cs.length)]) pr = some (.tup [.int l, .int (lo + cs.length)]) := upd_same
    generalize upd H2 pr (.tup [.int l, .int (lo + cs.length)]) = H3 at f3 hp3 hde3 hda3 hpr3 ⊢
    have dl : (cs.drop j).length = cs.length - j := List.length_drop
    try dsimp only [Y0,Y1,Y2,Y3,Y4,Y5,Y6,Y7,Y8,Y9,Ya,Yb,Yc,Yd,Ye,Yf,Yg,Yh,Yi,Yj,Yk,Yl,Ym,Yn,Yo,Yp,Yq,Yr,Ys,Yt,Yu,Yv,Yw,Yx,Yy,Yz,Z0,Z1,Z2,Z3,Z4,Z5,Z6,Z7,Z8,Z9,Za,Zb,Zc,Zd,Ze,Zf,Zg,Zh,Zi,Zj,Zk,Zl,Zm,Zn,Zo,Zp,Zq,Zr,Zs,Zt,Zu,Zv,Zw,Zx,Zy,Zz,V0,V1,V2]
    try simp only [V3,V4,V5,V6,V7,V8,V9,Va,Vb,Vc,Vd,Ve,Vf,Vg,Vh,Vi,Vj,V1,V2,Vk,Vl,reduceCtorEq,Vn,Vo,Vp,Vq]
    refine rd_Holder_asks T hp3 (rd_Holder_told T hp3 (rd_dputI hda3 ?_ (k _ _ ?_)))
    · rw [asksK_len, dl]
      exact small1000 (by omega)
    clear k R
    refine xseq_step fun R k => ?_
    rw [asksK_put (by omega)]
    have f4 : ∀ x o, H3 x = some o → x ≠ da → upd H3 da (.dK (asksK (lo + j) (cs.drop j ++ [clock]))) x = some o := fun x o e ne => by rw [upd_ne ne]; exact e
    have hp4 := f4 _ _ hp3 npd
    have hde4 := f4 _ _ hde3 nde.symm
    have hpr4 := f4 _ _ hpr3 (ne_of hpr3 hda3 (by intro z; cases z))
    have hda4 : upd H3 da (.dK (asksK (lo + j) (cs.drop j ++ [clock]))) da = some (.dK (asksK (lo + j) (cs.drop j ++ [clock]))) := upd_same
    generalize upd H3 da (.dK (asksK (lo + j) (cs.drop j ++ [clock]))) = H4 at f4 hp4 hde4 hpr4 hda4 ⊢
    try dsimp only [Y0,Y1,Y2,Y3,Y4,Y5,Y6,Y7,Y8,Y9,Ya,Yb,Yc,Yd,Ye,Yf,Yg,Yh,Yi,Yj,Yk,Yl,Ym,Yn,Yo,Yp,Yq,Yr,Ys,Yt,Yu,Yv,Yw,Yx,Yy,Yz,Z0,Z1,Z2,Z3,Z4,Z5,Z6,Z7,Z8,Z9,Za,Zb,Zc,Zd,Ze,Zf,Zg,Zh,Zi,Zj,Zk,Zl,Zm,Zn,Zo,Zp,Zq,Zr,Zs,Zt,Zu,Zv,Zw,Zx,Zy,Zz,V0,V1,V2]
    try simp only [V3,V4,V5,V6,V7,V8,V9,Va,Vb,Vc,Vd,Ve,Vf,Vg,Vh,Vi,Vj,V1,V2,Vk,Vl,reduceCtorEq,Vn,Vo,Vp,Vq]
    refine rd_faug hp4 T.cl_Holder T.nf_Holder_told get_Holder_told (by exact (by decide : 8 < 1000)) ?_
    rw [put_Holder_told]
    refine k _ _ ?_
    clear k R
    have npr : pr ≠ p := ne_of hpr4 hp4 (by intro z; cases z)
    try dsimp only [Y0,Y1,Y2,Y3,Y4,Y5,Y6,Y7,Y8,Y9,Ya,Yb,Yc,Yd,Ye,Yf,Yg,Yh,Yi,Yj,Yk,Yl,Ym,Yn,Yo,Yp,Yq,Yr,Ys,Yt,Yu,Yv,Yw,Yx,Yy,Yz,Z0,Z1,Z2,Z3,Z4,Z5,Z6,Z7,Z8,Z9,Za,Zb,Zc,Zd,Ze,Zf,Zg,Zh,Zi,Zj,Zk,Zl,Zm,Zn,Zo,Zp,Zq,Zr,Zs,Zt,Zu,Zv,Zw,Zx,Zy,Zz,V0,V1,V2]
    try simp only [V3,V4,V5,V6,V7,V8,V9,Va,Vb,Vc,Vd,Ve,Vf,Vg,Vh,Vi,Vj,V1,V2,Vk,Vl,reduceCtorEq,Vn,Vo,Vp,Vq]
    refine z _ [p, da, de] (fr3 fun x o e e1 e2 e3 => by rw [upd_ne e1]; exact f4 _ _ (f3 _ _ (f2 _ _ (f1 _ _ e e1) e2)) e2) ⟨dx, da, de, nm, lo + j, cs.drop j ++ [clock], es, rfl, upd_same, by rw [upd_ne npd.symm]; exact hda4, by rw [upd_ne npe.symm]; exact hde4, ?_, by omega, by dsimp only; omega, ⟨fun a' b' x e => ?_, fun b' x e => ?_⟩, EndR.mono (by dsimp only; omega) he, hen, by dsimp only; omega, sm⟩ pr (by rw [upd_ne npr]; exact hpr4)
    · dsimp only
      rw [List.length_append, dl, List.length_singleton]
      omega
    · dsimp only at e ⊢
      rw [← asksK_put (b := lo + cs.length) (by omega), valV_put]
      by_cases y : a' = l ∧ b' = lo + cs.length
      · rw [if_pos y] at e
        cases e
        exact ⟨y.1, .inr (by rw [if_pos (by rw [y.2])])⟩
      · rw [if_neg y] at e
        obtain ⟨e1, e2⟩ := ha.1 a' b' x e
        refine ⟨e1, ?_⟩
        rcases e2 with e2 | e2
        · exact .inl (by dsimp only at e2; omega)
        · rcases asksK_forget j hj e2 with e3 | e3
          · exact .inl (hx x e3)
          · exact .inr (by rw [if_neg fun z => y ⟨e1, (Sum.inl.inj z)⟩]; exact e3)
    · dsimp only at e ⊢
      rw [← asksK_put (b := lo + cs.length) (by omega), valV_put] at e
      by_cases y : b' = lo + cs.length
      · rw [if_pos (by rw [y])] at e
        cases e
        rw [if_pos ⟨rfl, y⟩]
      · rw [if_neg fun z => y (Sum.inl.inj z)] at e
        rw [if_neg fun z => y z.2]
        exact ha.2 b' x (asksK_kept j hj e)
theorem ok_Holder_hear (T : Txt K mg t) : FnOk P w K mg base (CXF P w) 2 t.f_Holder_hear t.d_Holder_hear ["self", "clock", "keeper", "number"] (sp_Holder_hear t) := by
  refine T.F_Holder_hear.okX sc_Holder_hear (fun vs H Q E h => ?_) (fun cdv A outer s H vs Q E hr h => ?_)
  · obtain ⟨p, S, n, len, h, clock, keeper, q, a, b, rfl, _⟩ := h
    rfl
  · obtain ⟨p, S, n, len, ⟨c, f, l, m, asks, ends⟩, clock, keeper, q, a, b, rfl, ⟨dx, da, de, nm, lo, cs, es, rfl, hp, hda, hde, hlo, hlo0, hm1, ha, he, hen, hf0, sc⟩, n1, n5, hm, sm, sk, sl, hq, z⟩ := h
    dsimp only at hp hda hde hlo hm1 ha he hf0 sc hm
    subst hlo
    have npd : p ≠ da := ne_of hp hda (by intro z; cases z)
    have npe : p ≠ de := ne_of hp hde (by intro z; cases z)
    have nde : da ≠ de := ne_of hda hde (by intro z; cases z)
    have hq := hq rfl
    have no : ¬ (0 ≤ keeper ∧ keeper < n) → E (.ref t.NoKeeper) none H := fun h0 => by
      have z := z H [p, da, de] (fr3 fun x o e _ _ _ => e)
      rw [hdue_no h0] at z
      rw [← cls_keeper]
      exact z ⟨dx, da, de, nm, lo, cs, es, rfl, hp, hda, hde, rfl, hlo0, hm1, ha, he, hen, hf0, sc⟩
    refine ⟨_, (jssx_cons (jsx_if (jt_bool (jw_or (jt_cmp jo_lt (je_var (i := 2) nm_keeper lo_Holder_hear_keeper rfl) je_int (by decide) (by decide)) (jw_or1 (jt_cmp jo_ge (je_var (i := 2) nm_keeper lo_Holder_hear_keeper rfl) (je_callB nm_len lo_Holder_hear_len jc_len T.z_len bt_len sx_attr ns_nil (ja_cons sx_attr (je_fld bs_name (je_var (i := 0) nm_self lo_Holder_hear_self rfl)) ja_nil)) (by decide) (by decide))))) (jssx_one (jsx_raise nm_NoKeeper rfl lo_Holder_hear_NoKeeper T.m_NoKeeper T.n_NoKeeper T.x_NoKeeper PySem.F.excBase_ValueError sx_join ns_nil (ja_cons sx_join (je_fstr (jfs_cons (jf_str (by decide)) (jfs_cons (jf_int (je_var (i := 2) nm_keeper lo_Holder_hear_keeper rfl)) jfs_nil rfl) rfl) (by decide)) ja_nil))) jssx_nil)
      (jssx_cons (jsx_fld nc_call (je_var (i := 0) nm_self lo_Holder_hear_self rfl) (jex_call nm_gone_on lo_Holder_hear_gone_on (ok_gone_on T) (hr.mono (by decide)) T.m_gone_on T.F_gone_on.kp T.b_gone_on sx_attr (ns_cons sx_name ns_nil) (ja_cons sx_attr (je_fld bs_name (je_var (i := 0) nm_self lo_Holder_hear_self rfl)) (ja_cons sx_name (je_var (i := 1) nm_clock lo_Holder_hear_clock rfl) ja_nil))))
      (jssx_one (jx (js_if (jt_bool (jw_and (jt_cmp jo_eq (je_ix jx_tup (je_var (i := 3) nm_number lo_Holder_hear_number rfl) je_int (fun _ _ => rfl)) (je_fld bs_name (je_var (i := 0) nm_self lo_Holder_hear_self rfl)) (by decide) (by decide)) (jw_and1 (jt_din (hu_of hr) (je_ix jx_tup (je_var (i := 3) nm_number lo_Holder_hear_number rfl) je_int (fun _ _ => rfl)) (je_fld bs_name (je_var (i := 0) nm_self lo_Holder_hear_self rfl)) rfl)))) (jss_one (js_asg nc_call (je_callB nm_max lo_Holder_hear_max (jc_max rfl) T.z_max bt_max sx_sub (ns_cons sx_bin ns_nil) (ja_cons sx_sub (je_ix jx_list (je_fld bs_name (je_var (i := 0) nm_self lo_Holder_hear_self rfl)) (je_var (i := 2) nm_keeper lo_Holder_hear_keeper rfl) (fun _ _ => rfl)) (ja_cons sx_bin (je_op jo_add (je_dget (hu_of hr) (je_fld bs_name (je_var (i := 0) nm_self lo_Holder_hear_self rfl)) (je_ix jx_tup (je_var (i := 3) nm_number lo_Holder_hear_number rfl) je_int (fun _ _ => rfl)) (fun _ _ => rfl)) (je_fld bs_name (je_var (i := 0) nm_self lo_Holder_hear_self rfl))) ja_nil))) (jg_sub (je_fld bs_name (je_var (i := 0) nm_self lo_Holder_hear_self rfl)) (je_var (i := 2) nm_keeper lo_Holder_hear_keeper rfl) jp_list (fun _ => rfl)) rfl rfl)) jss_nil))))).h, ?_⟩
    dsimp only [cxOf_K, L2.start, List.map_cons, List.map_nil, List.length_cons, List.length_nil, List.cons_append, List.nil_append, List.replicate]
    refine fix_x (by simp only [List.map_cons, List.map_nil, List.cons_append, List.nil_append, Nat.sub_self, List.replicate, List.append_nil]; exact rfl) ?_
    refine xseq_step fun R k0 => ?_
    have rest : (0 ≤ keeper ∧ keeper < n) → R [some (.ref p), some (.int clock), some (.int keeper), some (.ref q)] H := fun h0 => by
      refine k0 _ _ ?_
      clear k0 R no
      refine xseq_step fun R k => ?_
      have qe : clock < c → E (.ref t.Back) none H := fun h1 => by
        have z := z H [p, da, de] (fr3 fun x o e _ _ _ => e)
        rw [hdue_back (fun y => y.2 h0) h1] at z
        rw [← cls_back]
        exact z ⟨dx, da, de, nm, lo, cs, es, rfl, hp, hda, hde, rfl, hlo0, hm1, ha, he, hen, hf0, sc⟩
      try dsimp only [Y0,Y1,Y2,Y3,Y4,Y5,Y6,Y7,Y8,Y9,Ya,Yb,Yc,Yd,Ye,Yf,Yg,Yh,Yi,Yj,Yk,Yl,Ym,Yn,Yo,Yp,Yq,Yr,Ys,Yt,Yu,Yv,Yw,Yx,Yy,Yz,Z0,Z1,Z2,Z3,Z4,Z5,Z6,Z7,Z8,Z9,Za,Zb,Zc,Zd,Ze,Zf,Zg,Zh,Zi,Zj,Zk,Zl,Zm,Zn,Zo,Zp,Zq,Zr,Zs,Zt,Zu,Zv,Zw,Zx,Zy,Zz,V0,V1,V2]
      try simp only [V3,V4,V5,V6,V7,V8,V9,Va,Vb,Vc,Vd,Ve,Vf,Vg,Vh,Vi,Vj,V1,V2,Vk,Vl,reduceCtorEq,Vn,Vo,Vp,Vq]
      refine rd_Holder_latest T hp ?_
      try dsimp only [Y0,Y1,Y2,Y3,Y4,Y5,Y6,Y7,Y8,Y9,Ya,Yb,Yc,Yd,Ye,Yf,Yg,Yh,Yi,Yj,Yk,Yl,Ym,Yn,Yo,Yp,Yq,Yr,Ys,Yt,Yu,Yv,Yw,Yx,Yy,Yz,Z0,Z1,Z2,Z3,Z4,Z5,Z6,Z7,Z8,Z9,Za,Zb,Zc,Zd,Ze,Zf,Zg,Zh,Zi,Zj,Zk,Zl,Zm,Zn,Zo,Zp,Zq,Zr,Zs,Zt,Zu,Zv,Zw,Zx,Zy,Zz,V0,V1,V2]
      try simp only [V3,V4,V5,V6,V7,V8,V9,Va,Vb,Vc,Vd,Ve,Vf,Vg,Vh,Vi,Vj,V1,V2,Vk,Vl,reduceCtorEq,Vn,Vo,Vp,Vq]
      refine ⟨c, clock, rfl, sc, sm, qe, fun h1 => ?_⟩
      try dsimp only [Y0,Y1,Y2,Y3,Y4,Y5,Y6,Y7,Y8,Y9,Ya,Yb,Yc,Yd,Ye,Yf,Yg,Yh,Yi,Yj,Yk,Yl,Ym,Yn,Yo,Yp,Yq,Yr,Ys,Yt,Yu,Yv,Yw,Yx,Yy,Yz,Z0,Z1,Z2,Z3,Z4,Z5,Z6,Z7,Z8,Z9,Za,Zb,Zc,Zd,Ze,Zf,Zg,Zh,Zi,Zj,Zk,Zl,Zm,Zn,Zo,Zp,Zq,Zr,Zs,Zt,Zu,Zv,Zw,Zx,Zy,Zz,V0,V1,V2]
      try simp only [V3,V4,V5,V6,V7,V8,V9,Va,Vb,Vc,Vd,Ve,Vf,Vg,Vh,Vi,Vj,V1,V2,Vk,Vl,reduceCtorEq,Vn,Vo,Vp,Vq]
      refine st_Holder_latest T hp (k _ _ ?_)
      clear k R
      rw [hdue_hear h0 h1] at z
      dsimp only at h1 z
      have f1 : ∀ x o, H x = some o → x ≠ p → upd H p (.ins t.Holder dx (hf len (n / 2 + 1) nm l clock (lo + cs.length) da de)) x = some o := fun x o e ne => by rw [upd_ne ne]; exact e
      have hp1 : upd H p (.ins t.Holder dx (hf len (n / 2 + 1) nm l clock (lo + cs.length) da de)) p = some (.ins t.Holder dx (hf len (n / 2 + 1) nm l clock (lo + cs.length) da de)) := upd_same
      have hda1 := f1 _ _ hda npd.symm
      have hde1 := f1 _ _ hde npe.symm
      have hq1 := f1 _ _ hq (ne_of hq hp (by intro z; cases z))
      generalize upd H p (.ins t.Holder dx (hf len (n / 2 + 1) nm l clock (lo + cs.length) da de)) = H1 at f1 hp1 hda1 hde1 hq1 ⊢
      have he1 := EndR.mono (c' := clock) (by omega) he
      have ha1 : (∀ a b x, asks a b = some x → a = l ∧ (x + len ≤ clock ∨ valV (asksK lo cs) (Sum.inl b) = some (.int x))) := fun a b x e => ⟨(ha.1 a b x e).1, (ha.1 a b x e).2.elim (fun y => .inl (by dsimp only at y; omega)) .inr⟩
      obtain ⟨kn, rfl⟩ : ∃ kn : Nat, keeper = (kn : Int) := ⟨_, (Int.toNat_of_nonneg h0.1).symm⟩
      rw [Int.toNat_natCast] at z
      -- not in the dict
      have out : valV (asksK lo cs) (Sum.inl b) = none ∨ a ≠ l → Q .non H1 := fun hno => by
        cases ea : asks a b with
        | none =>
          rw [ea] at z
          exact z H1 [p, da, de] (fr3 fun x o e e1 _ _ => f1 x o e e1) ⟨dx, da, de, nm, lo, cs, es, rfl, hp1, hda1, hde1, rfl, hlo0, hm1, ⟨ha1, ha.2⟩, he1, hen, by dsimp only; omega, sm⟩
        | some x =>
          rw [ea] at z
          obtain ⟨e1, e2⟩ := ha.1 a b x ea
          have e2 : x + len ≤ c := by
            rcases e2 with e2 | e2
            · exact e2
            · rcases hno with y | y
              · rw [e2] at y; cases y
              · exact absurd e1 y
          refine z H1 [p, da, de] (fr3 fun x o e e1 _ _ => f1 x o e e1) ⟨dx, da, de, nm, lo, cs, es, rfl, hp1, hda1, hde1, rfl, hlo0, hm1, ⟨ha1, ha.2⟩, EndR.set1 kn ?_ he1, hen, by dsimp only; omega, sm⟩
          have := EndR.at_ kn he
          dsimp only at this ⊢
          rw [Int.max_def]
          split <;> omega
      try dsimp only [Y0,Y1,Y2,Y3,Y4,Y5,Y6,Y7,Y8,Y9,Ya,Yb,Yc,Yd,Ye,Yf,Yg,Yh,Yi,Yj,Yk,Yl,Ym,Yn,Yo,Yp,Yq,Yr,Ys,Yt,Yu,Yv,Yw,Yx,Yy,Yz,Z0,Z1,Z2,Z3,Z4,Z5,Z6,Z7,Z8,Z9,Za,Zb,Zc,Zd,Ze,Zf,Zg,Zh,Zi,Zj,Zk,Zl,Zm,Zn,Zo,Zp,Zq,Zr,Zs,Zt,Zu,Zv,Zw,Zx,Zy,Zz,V0,V1,V2]
      try simp only [V3,V4,V5,V6,V7,V8,V9,Va,Vb,Vc,Vd,Ve,Vf,Vg,Vh,Vi,Vj,V1,V2,Vk,Vl,reduceCtorEq,Vn,Vo,Vp,Vq]
      refine rd_ixT (SqT.of hq1) (v := .int a) rfl (rd_Holder_life T hp1 ?_)
      try dsimp only [Y0,Y1,Y2,Y3,Y4,Y5,Y6,Y7,Y8,Y9,Ya,Yb,Yc,Yd,Ye,Yf,Yg,Yh,Yi,Yj,Yk,Yl,Ym,Yn,Yo,Yp,Yq,Yr,Ys,Yt,Yu,Yv,Yw,Yx,Yy,Yz,Z0,Z1,Z2,Z3,Z4,Z5,Z6,Z7,Z8,Z9,Za,Zb,Zc,Zd,Ze,Zf,Zg,Zh,Zi,Zj,Zk,Zl,Zm,Zn,Zo,Zp,Zq,Zr,Zs,Zt,Zu,Zv,Zw,Zx,Zy,Zz,V0,V1,V2]
      try simp only [V3,V4,V5,V6,V7,V8,V9,Va,Vb,Vc,Vd,Ve,Vf,Vg,Vh,Vi,Vj,V1,V2,Vk,Vl,reduceCtorEq,Vn,Vo,Vp,Vq]
      split
      · rename_i h2
        refine rd_ixT (SqT.of hq1) (v := .int b) rfl (rd_Holder_asks T hp1 (rd_dinI hda1 ?_))
        cases hv : valV (asksK lo cs) (Sum.inl b) with
        | none =>
          try dsimp only [Option.isSome_none,Y0,Y1,Y2,Y3,Y4,Y5,Y6,Y7,Y8,Y9,Ya,Yb,Yc,Yd,Ye,Yf,Yg,Yh,Yi,Yj,Yk,Yl,Ym,Yn,Yo,Yp,Yq,Yr,Ys,Yt,Yu,Yv,Yw,Yx,Yy,Yz,Z0,Z1,Z2,Z3,Z4,Z5,Z6,Z7,Z8,Z9,Za,Zb,Zc,Zd,Ze,Zf,Zg,Zh,Zi,Zj,Zk,Zl,Zm,Zn,Zo,Zp,Zq,Zr,Zs,Zt,Zu,Zv,Zw,Zx,Zy,Zz,V0,V1,V2]
          try simp only [V3,V4,V5,V6,V7,V8,V9,Va,Vb,Vc,Vd,Ve,Vf,Vg,Vh,Vi,Vj,V1,V2,Vk,Vl,reduceCtorEq,Vn,Vo,Vp,Vq]
          exact out (.inl hv)
        | some v =>
          obtain ⟨x, rfl⟩ := asksK_val hv
          have ea := ha.2 b x hv
          dsimp only at ea
          rw [← h2] at ea
          rw [ea] at z
          dsimp only at z
          have hkn : kn < es.length := by omega
          have at1 : atI (es.map V.int) (kn : Int) = some (.int (es.getD kn 0)) := by
            refine atI_nat ?_
            rw [List.getElem?_map, List.getElem?_eq_getElem hkn, List.getD_eq_getElem?_getD, List.getElem?_eq_getElem hkn]
            rfl
          try dsimp only [Option.isSome_some,Y0,Y1,Y2,Y3,Y4,Y5,Y6,Y7,Y8,Y9,Ya,Yb,Yc,Yd,Ye,Yf,Yg,Yh,Yi,Yj,Yk,Yl,Ym,Yn,Yo,Yp,Yq,Yr,Ys,Yt,Yu,Yv,Yw,Yx,Yy,Yz,Z0,Z1,Z2,Z3,Z4,Z5,Z6,Z7,Z8,Z9,Za,Zb,Zc,Zd,Ze,Zf,Zg,Zh,Zi,Zj,Zk,Zl,Zm,Zn,Zo,Zp,Zq,Zr,Zs,Zt,Zu,Zv,Zw,Zx,Zy,Zz,V0,V1,V2]
          try simp only [V3,V4,V5,V6,V7,V8,V9,Va,Vb,Vc,Vd,Ve,Vf,Vg,Vh,Vi,Vj,V1,V2,Vk,Vl,reduceCtorEq,Vn,Vo,Vp,Vq]
          refine rd_Holder_ends T hp1 (rd_ixL (SqL.of hde1) at1 (rd_Holder_asks T hp1 (rd_ixT (SqT.of hq1) (v := .int b) rfl (rd_dgetI hda1 hv (rd_Holder_length T hp1 ?_)))))
          try dsimp only [Y0,Y1,Y2,Y3,Y4,Y5,Y6,Y7,Y8,Y9,Ya,Yb,Yc,Yd,Ye,Yf,Yg,Yh,Yi,Yj,Yk,Yl,Ym,Yn,Yo,Yp,Yq,Yr,Ys,Yt,Yu,Yv,Yw,Yx,Yy,Yz,Z0,Z1,Z2,Z3,Z4,Z5,Z6,Z7,Z8,Z9,Za,Zb,Zc,Zd,Ze,Zf,Zg,Zh,Zi,Zj,Zk,Zl,Zm,Zn,Zo,Zp,Zq,Zr,Zs,Zt,Zu,Zv,Zw,Zx,Zy,Zz,V0,V1,V2]
          try simp only [V3,V4,V5,V6,V7,V8,V9,Va,Vb,Vc,Vd,Ve,Vf,Vg,Vh,Vi,Vj,V1,V2,Vk,Vl,reduceCtorEq,Vn,Vo,Vp,Vq]
          refine rd_two ?_
          try dsimp only [gSub,Y0,Y1,Y2,Y3,Y4,Y5,Y6,Y7,Y8,Y9,Ya,Yb,Yc,Yd,Ye,Yf,Yg,Yh,Yi,Yj,Yk,Yl,Ym,Yn,Yo,Yp,Yq,Yr,Ys,Yt,Yu,Yv,Yw,Yx,Yy,Yz,Z0,Z1,Z2,Z3,Z4,Z5,Z6,Z7,Z8,Z9,Za,Zb,Zc,Zd,Ze,Zf,Zg,Zh,Zi,Zj,Zk,Zl,Zm,Zn,Zo,Zp,Zq,Zr,Zs,Zt,Zu,Zv,Zw,Zx,Zy,Zz,V0,V1,V2]
          try simp only [V3,V4,V5,V6,V7,V8,V9,Va,Vb,Vc,Vd,Ve,Vf,Vg,Vh,Vi,Vj,V1,V2,Vk,Vl,reduceCtorEq,Vn,Vo,Vp,Vq]
          refine rd_Holder_ends T hp1 ?_
          refine ⟨de, _, (kn : Int), kn, rfl, rfl, hde1, ?_, ?_⟩
          · unfold ixN
            rw [if_pos (by omega), if_pos (by rw [List.length_map]; omega)]
            rfl
          refine z _ [p, da, de] (fr3 fun x o e e1 e2 e3 => by rw [upd_ne e3]; exact f1 x o e e1) ⟨dx, da, de, nm, lo, cs, es.set kn (max (es.getD kn 0) (x + len)), rfl, by rw [upd_ne npe]; exact hp1, by rw [upd_ne nde]; exact hda1, by rw [upd_same, List.map_set], rfl, hlo0, hm1, ⟨ha1, ha.2⟩, EndR.set ?_ kn he1, by rw [List.length_set]; exact hen, by dsimp only; omega, sm⟩
          have := EndR.at_ kn he
          dsimp only at this ⊢
          rw [Int.max_def, Int.max_def]
          split <;> split <;> omega
      · rename_i h2
        exact out (.inr h2)
    clear k0
    try dsimp only [Y0,Y1,Y2,Y3,Y4,Y5,Y6,Y7,Y8,Y9,Ya,Yb,Yc,Yd,Ye,Yf,Yg,Yh,Yi,Yj,Yk,Yl,Ym,Yn,Yo,Yp,Yq,Yr,Ys,Yt,Yu,Yv,Yw,Yx,Yy,Yz,Z0,Z1,Z2,Z3,Z4,Z5,Z6,Z7,Z8,Z9,Za,Zb,Zc,Zd,Ze,Zf,Zg,Zh,Zi,Zj,Zk,Zl,Zm,Zn,Zo,Zp,Zq,Zr,Zs,Zt,Zu,Zv,Zw,Zx,Zy,Zz,V0,V1,V2]
    try simp only [V3,V4,V5,V6,V7,V8,V9,Va,Vb,Vc,Vd,Ve,Vf,Vg,Vh,Vi,Vj,V1,V2,Vk,Vl,reduceCtorEq,Vn,Vo,Vp,Vq]
    split
    · rename_i h0
      exact ⟨sk.log, fun _ => ⟨by decide, no (by omega)⟩⟩
    · rename_i h0
      refine rd_Holder_ends T hp (rd_lenL (SqL.of hde) ?_)
      try dsimp only [Y0,Y1,Y2,Y3,Y4,Y5,Y6,Y7,Y8,Y9,Ya,Yb,Yc,Yd,Ye,Yf,Yg,Yh,Yi,Yj,Yk,Yl,Ym,Yn,Yo,Yp,Yq,Yr,Ys,Yt,Yu,Yv,Yw,Yx,Yy,Yz,Z0,Z1,Z2,Z3,Z4,Z5,Z6,Z7,Z8,Z9,Za,Zb,Zc,Zd,Ze,Zf,Zg,Zh,Zi,Zj,Zk,Zl,Zm,Zn,Zo,Zp,Zq,Zr,Zs,Zt,Zu,Zv,Zw,Zx,Zy,Zz,V0,V1,V2]
      try simp only [V3,V4,V5,V6,V7,V8,V9,Va,Vb,Vc,Vd,Ve,Vf,Vg,Vh,Vi,Vj,V1,V2,Vk,Vl,reduceCtorEq,Vn,Vo,Vp,Vq]
      rw [List.length_map]
      split
      · rename_i h2
        exact ⟨sk.log, fun _ => ⟨by decide, no (by omega)⟩⟩
      · rename_i h2
        exact rest ⟨by omega, by omega⟩
theorem ok_Holder_until (T : Txt K mg t) : FnOk P w K mg base (CXF P w) 2 t.f_Holder_until t.d_Holder_until ["self", "clock"] (sp_Holder_until t) := by
  refine T.F_Holder_until.okX sc_Holder_until (fun vs H Q E h => ?_) (fun cdv A outer s H vs Q E hr h => ?_)
  · obtain ⟨p, S, n, len, h, clock, keeper, q, a, b, rfl, _⟩ := h
    rfl
  · obtain ⟨p, S, n, len, ⟨c, f, l, m, asks, ends⟩, clock, keeper, q, a, b, rfl, ⟨dx, da, de, nm, lo, cs, es, rfl, hp, hda, hde, hlo, hlo0, hm1, ha, he, hen, hf0, sc⟩, n1, n5, hm, sm, sk, sl, hq, z⟩ := h
    dsimp only at hp hda hde hlo hm1 ha he hf0 sc hm
    subst hlo
    have npd : p ≠ da := ne_of hp hda (by intro z; cases z)
    have npe : p ≠ de := ne_of hp hde (by intro z; cases z)
    have nde : da ≠ de := ne_of hda hde (by intro z; cases z)
    have qe : clock < c → E (.ref t.Back) none H := fun h1 => by
      have z := z H [p, da, de] (fr3 fun x o e _ _ _ => e)
      rw [hdue_back (by rintro ⟨y, _⟩; exact absurd y (by decide)) h1] at z
      rw [← cls_back]
      exact z ⟨dx, da, de, nm, lo, cs, es, rfl, hp, hda, hde, rfl, hlo0, hm1, ha, he, hen, hf0, sc⟩
    refine ⟨_, (jssx_cons (jsx_fld nc_call (je_var (i := 0) nm_self lo_Holder_until_self rfl) (jex_call nm_gone_on lo_Holder_until_gone_on (ok_gone_on T) (hr.mono (by decide)) T.m_gone_on T.F_gone_on.kp T.b_gone_on sx_attr (ns_cons sx_name ns_nil) (ja_cons sx_attr (je_fld bs_name (je_var (i := 0) nm_self lo_Holder_until_self rfl)) (ja_cons sx_name (je_var (i := 1) nm_clock lo_Holder_until_clock rfl) ja_nil))))
      (jssx_cons (jx (js_set (i := 2) nc_sub sc_Holder_until.nd rfl lo_Holder_until_end (je_ix jx_list (je_sortR nm_sorted lo_Holder_until_sorted T.z_sorted bt_sorted sx_attr (je_fld bs_name (je_var (i := 0) nm_self lo_Holder_until_self rfl))) (je_op jo_sub (je_fld bs_name (je_var (i := 0) nm_self lo_Holder_until_self rfl)) je_int) (fun _ _ => rfl))))
      (jssx_one (jx (js_ret (je_if (jt_cmp jo_lt (je_var (i := 1) nm_clock lo_Holder_until_clock rfl) (je_var (i := 2) nm_end lo_Holder_until_end rfl) (by decide) (by decide)) (je_var (i := 2) nm_end lo_Holder_until_end rfl) je_non)))))).h, ?_⟩
    dsimp only [cxOf_K, L2.start, List.map_cons, List.map_nil, List.length_cons, List.length_nil, List.cons_append, List.nil_append, List.replicate]
    refine fix_x (by simp only [List.map_cons, List.map_nil, List.cons_append, List.nil_append, Nat.sub_self, List.replicate, List.append_nil]; exact rfl) ?_
    refine xseq_step fun R k => ?_
    try dsimp only [Y0,Y1,Y2,Y3,Y4,Y5,Y6,Y7,Y8,Y9,Ya,Yb,Yc,Yd,Ye,Yf,Yg,Yh,Yi,Yj,Yk,Yl,Ym,Yn,Yo,Yp,Yq,Yr,Ys,Yt,Yu,Yv,Yw,Yx,Yy,Yz,Z0,Z1,Z2,Z3,Z4,Z5,Z6,Z7,Z8,Z9,Za,Zb,Zc,Zd,Ze,Zf,Zg,Zh,Zi,Zj,Zk,Zl,Zm,Zn,Zo,Zp,Zq,Zr,Zs,Zt,Zu,Zv,Zw,Zx,Zy,Zz,V0,V1,V2]
    try simp only [V3,V4,V5,V6,V7,V8,V9,Va,Vb,Vc,Vd,Ve,Vf,Vg,Vh,Vi,Vj,V1,V2,Vk,Vl,reduceCtorEq,Vn,Vo,Vp,Vq]
    refine rd_Holder_latest T hp ?_
    try dsimp only [Y0,Y1,Y2,Y3,Y4,Y5,Y6,Y7,Y8,Y9,Ya,Yb,Yc,Yd,Ye,Yf,Yg,Yh,Yi,Yj,Yk,Yl,Ym,Yn,Yo,Yp,Yq,Yr,Ys,Yt,Yu,Yv,Yw,Yx,Yy,Yz,Z0,Z1,Z2,Z3,Z4,Z5,Z6,Z7,Z8,Z9,Za,Zb,Zc,Zd,Ze,Zf,Zg,Zh,Zi,Zj,Zk,Zl,Zm,Zn,Zo,Zp,Zq,Zr,Zs,Zt,Zu,Zv,Zw,Zx,Zy,Zz,V0,V1,V2]
    try simp only [V3,V4,V5,V6,V7,V8,V9,Va,Vb,Vc,Vd,Ve,Vf,Vg,Vh,Vi,Vj,V1,V2,Vk,Vl,reduceCtorEq,Vn,Vo,Vp,Vq]
    refine ⟨c, clock, rfl, sc, sm, qe, fun h1 => ?_⟩
    try dsimp only [Y0,Y1,Y2,Y3,Y4,Y5,Y6,Y7,Y8,Y9,Ya,Yb,Yc,Yd,Ye,Yf,Yg,Yh,Yi,Yj,Yk,Yl,Ym,Yn,Yo,Yp,Yq,Yr,Ys,Yt,Yu,Yv,Yw,Yx,Yy,Yz,Z0,Z1,Z2,Z3,Z4,Z5,Z6,Z7,Z8,Z9,Za,Zb,Zc,Zd,Ze,Zf,Zg,Zh,Zi,Zj,Zk,Zl,Zm,Zn,Zo,Zp,Zq,Zr,Zs,Zt,Zu,Zv,Zw,Zx,Zy,Zz,V0,V1,V2]
    try simp only [V3,V4,V5,V6,V7,V8,V9,Va,Vb,Vc,Vd,Ve,Vf,Vg,Vh,Vi,Vj,V1,V2,Vk,Vl,reduceCtorEq,Vn,Vo,Vp,Vq]
    refine st_Holder_latest T hp (k _ _ ?_)
    clear k R
    refine xseq_step fun R k => ?_
    rw [hdue_until h1] at z
    dsimp only at h1 z
    have f1 : ∀ x o, H x = some o → x ≠ p → upd H p (.ins t.Holder dx (hf len (n / 2 + 1) nm l clock (lo + cs.length) da de)) x = some o := fun x o e ne => by rw [upd_ne ne]; exact e
    have hp1 : upd H p (.ins t.Holder dx (hf len (n / 2 + 1) nm l clock (lo + cs.length) da de)) p = some (.ins t.Holder dx (hf len (n / 2 + 1) nm l clock (lo + cs.length) da de)) := upd_same
    have hda1 := f1 _ _ hda npd.symm
    have hde1 := f1 _ _ hde npe.symm
    generalize upd H p (.ins t.Holder dx (hf len (n / 2 + 1) nm l clock (lo + cs.length) da de)) = H1 at f1 hp1 hda1 hde1 ⊢
    try dsimp only [Y0,Y1,Y2,Y3,Y4,Y5,Y6,Y7,Y8,Y9,Ya,Yb,Yc,Yd,Ye,Yf,Yg,Yh,Yi,Yj,Yk,Yl,Ym,Yn,Yo,Yp,Yq,Yr,Ys,Yt,Yu,Yv,Yw,Yx,Yy,Yz,Z0,Z1,Z2,Z3,Z4,Z5,Z6,Z7,Z8,Z9,Za,Zb,Zc,Zd,Ze,Zf,Zg,Zh,Zi,Zj,Zk,Zl,Zm,Zn,Zo,Zp,Zq,Zr,Zs,Zt,Zu,Zv,Zw,Zx,Zy,Zz,V0,V1,V2]
    try simp only [V3,V4,V5,V6,V7,V8,V9,Va,Vb,Vc,Vd,Ve,Vf,Vg,Vh,Vi,Vj,V1,V2,Vk,Vl,reduceCtorEq,Vn,Vo,Vp,Vq]
    refine rd_Holder_ends T hp1 ⟨de, es, rfl, SqL.of hde1, by omega, fun ms ls pm pw hls => ?_⟩
    have f2 : ∀ x o, H1 x = some o → upd H1 ls (.lst (ms.map V.int)) x = some o := fun x o e => by rw [upd_ne (ne_of_none e hls)]; exact e
    have hls2 : upd H1 ls (.lst (ms.map V.int)) ls = some (.lst (ms.map V.int)) := upd_same
    generalize upd H1 ls (.lst (ms.map V.int)) = H2 at f2 hls2 ⊢
    have hml : ms.length = es.length := pm.length_eq
    obtain ⟨kn, hkn⟩ : ∃ kn : Nat, (kn : Int) = n / 2 := ⟨(n / 2).toNat, Int.toNat_of_nonneg (by omega)⟩
    have hkl : kn < ms.length := by omega
    refine rd_Holder_needed T (f2 _ _ hp1) ?_
    try dsimp only [Y0,Y1,Y2,Y3,Y4,Y5,Y6,Y7,Y8,Y9,Ya,Yb,Yc,Yd,Ye,Yf,Yg,Yh,Yi,Yj,Yk,Yl,Ym,Yn,Yo,Yp,Yq,Yr,Ys,Yt,Yu,Yv,Yw,Yx,Yy,Yz,Z0,Z1,Z2,Z3,Z4,Z5,Z6,Z7,Z8,Z9,Za,Zb,Zc,Zd,Ze,Zf,Zg,Zh,Zi,Zj,Zk,Zl,Zm,Zn,Zo,Zp,Zq,Zr,Zs,Zt,Zu,Zv,Zw,Zx,Zy,Zz,V0,V1,V2]
    try simp only [V3,V4,V5,V6,V7,V8,V9,Va,Vb,Vc,Vd,Ve,Vf,Vg,Vh,Vi,Vj,V1,V2,Vk,Vl,reduceCtorEq,Vn,Vo,Vp,Vq]
    rw [Int.add_sub_cancel, ← hkn]
    refine rd_ixL (v := .int (ms.getD kn 0)) (SqL.of hls2) (atI_nat ?_) (k _ _ ?_)
    · rw [List.getElem?_map, List.getElem?_eq_getElem hkl, List.getD_eq_getElem?_getD, List.getElem?_eq_getElem hkl]
      rfl
    clear k R
    obtain ⟨me1, me2⟩ := most_end (clock := clock) pm pw hkl
    have eg : goodE ⟨c, f, l, lo + cs.length, asks, ends⟩ clock = es.filter fun e => decide (clock < e) := (EndR.good (by omega) he).symm
    have hb : holdsB n ⟨c, f, l, lo + cs.length, asks, ends⟩ clock = decide (kn < (es.filter fun e => decide (clock < e)).length) := by
      unfold holdsB
      rw [eg]
      refine decide_eq_decide.mpr ⟨fun y => by omega, fun y => by omega⟩
    rw [hb, eg, show (n / 2).toNat = kn by omega] at z
    have z := z H2 [p, da, de] (fr3 fun x o e e1 _ _ => f2 _ _ (f1 x o e e1)) ⟨dx, da, de, nm, lo, cs, es, rfl, f2 _ _ hp1, f2 _ _ hda1, f2 _ _ hde1, rfl, hlo0, hm1, ⟨fun a b x e => ⟨(ha.1 a b x e).1, (ha.1 a b x e).2.elim (fun y => .inl (by dsimp only at y ⊢; omega)) .inr⟩, ha.2⟩, EndR.mono (by dsimp only; omega) he, hen, by dsimp only; omega, sm⟩
    try dsimp only [Y0,Y1,Y2,Y3,Y4,Y5,Y6,Y7,Y8,Y9,Ya,Yb,Yc,Yd,Ye,Yf,Yg,Yh,Yi,Yj,Yk,Yl,Ym,Yn,Yo,Yp,Yq,Yr,Ys,Yt,Yu,Yv,Yw,Yx,Yy,Yz,Z0,Z1,Z2,Z3,Z4,Z5,Z6,Z7,Z8,Z9,Za,Zb,Zc,Zd,Ze,Zf,Zg,Zh,Zi,Zj,Zk,Zl,Zm,Zn,Zo,Zp,Zq,Zr,Zs,Zt,Zu,Zv,Zw,Zx,Zy,Zz,V0,V1,V2]
    try simp only [V3,V4,V5,V6,V7,V8,V9,Va,Vb,Vc,Vd,Ve,Vf,Vg,Vh,Vi,Vj,V1,V2,Vk,Vl,reduceCtorEq,Vn,Vo,Vp,Vq]
    split
    · rename_i h2
      rw [if_pos (decide_eq_true (me1.mp h2)), ← me2 (me1.mp h2)] at z
      exact z
    · rename_i h2
      rw [if_neg fun y => h2 (me1.mpr (of_decide_eq_true y))] at z
      exact z
theorem ok_Holder_holds (T : Txt K mg t) : FnOk P w K mg base (CXF P w) 3 t.f_Holder_holds t.d_Holder_holds ["self", "clock"] (sp_Holder_holds t) := by
  refine T.F_Holder_holds.okX sc_Holder_holds (fun vs H Q E h => ?_) (fun cdv A outer s H vs Q E hr h => ?_)
  · obtain ⟨p, S, n, len, h, clock, keeper, q, a, b, rfl, _⟩ := h
    rfl
  · obtain ⟨p, S, n, len, ⟨c, f, l, m, asks, ends⟩, clock, keeper, q, a, b, rfl, ⟨dx, da, de, nm, lo, cs, es, rfl, hp, hda, hde, hlo, hlo0, hm1, ha, he, hen, hf0, sc⟩, n1, n5, hm, sm, sk, sl, hq, z⟩ := h
    dsimp only at hp hda hde hlo hm1 ha he hf0 sc hm
    subst hlo
    have npd : p ≠ da := ne_of hp hda (by intro z; cases z)
    have npe : p ≠ de := ne_of hp hde (by intro z; cases z)
    have nde : da ≠ de := ne_of hda hde (by intro z; cases z)
    refine ⟨_, (jssx_one (jsx_ret (jex_notN (jex_meth bs_name rfl (by decide) (je_var (i := 0) nm_self lo_Holder_holds_self rfl) T.cl_Holder T.h_Holder_until (ok_Holder_until T) (hr.mono (by decide)) T.b_Holder_until sx_name ns_nil (ja_cons sx_name (je_var (i := 1) nm_clock lo_Holder_holds_clock rfl) ja_nil))))).h, ?_⟩
    dsimp only [cxOf_K, L2.start, List.map_cons, List.map_nil, List.length_cons, List.length_nil, List.cons_append, List.nil_append, List.replicate]
    refine fix_x (by simp only [List.map_cons, List.map_nil, List.cons_append, List.nil_append, Nat.sub_self, List.replicate, List.append_nil]; exact rfl) ?_
    have hat : HAt t H p [p, da, de] n len ⟨c, f, l, lo + cs.length, asks, ends⟩ := ⟨dx, da, de, nm, lo, cs, es, rfl, hp, hda, hde, rfl, hlo0, hm1, ha, he, hen, hf0, sc⟩
    try dsimp only [Y0,Y1,Y2,Y3,Y4,Y5,Y6,Y7,Y8,Y9,Ya,Yb,Yc,Yd,Ye,Yf,Yg,Yh,Yi,Yj,Yk,Yl,Ym,Yn,Yo,Yp,Yq,Yr,Ys,Yt,Yu,Yv,Yw,Yx,Yy,Yz,Z0,Z1,Z2,Z3,Z4,Z5,Z6,Z7,Z8,Z9,Za,Zb,Zc,Zd,Ze,Zf,Zg,Zh,Zi,Zj,Zk,Zl,Zm,Zn,Zo,Zp,Zq,Zr,Zs,Zt,Zu,Zv,Zw,Zx,Zy,Zz,V0,V1,V2]
    try simp only [V3,V4,V5,V6,V7,V8,V9,Va,Vb,Vc,Vd,Ve,Vf,Vg,Vh,Vi,Vj,V1,V2,Vk,Vl,reduceCtorEq,Vn,Vo,Vp,Vq]
    refine me_Holder_until hp ⟨p, [p, da, de], n, len, ⟨c, f, l, lo + cs.length, asks, ends⟩, clock, keeper, q, a, b, rfl, hat, n1, n5, hm, sm, sk, sl, fun y => absurd y (by decide), fun H' S' fr ho => ?_⟩
    by_cases h1 : clock < c
    · rw [hdue_back (by rintro ⟨y, _⟩; exact absurd y (by decide)) h1] at ho ⊢
      have z := z H' S' fr
      rw [hdue_back (by rintro ⟨y, _⟩; exact absurd y (by decide)) h1] at z
      exact z ho
    · rw [hdue_until h1] at ho ⊢
      have z := z H' S' fr
      rw [hdue_holds h1] at z
      have z := z ho
      dsimp only at z ⊢
      cases e : holdsB n ⟨c, f, l, lo + cs.length, asks, ends⟩ clock with
      | true =>
        rw [e] at z
        exact z
      | false =>
        rw [e] at z
        exact z
theorem ok_Holder_free (T : Txt K mg t) : FnOk P w K mg base (CXF P w) 2 t.f_Holder_free t.d_Holder_free ["self", "clock"] (sp_Holder_free t) := by
  refine T.F_Holder_free.okX sc_Holder_free (fun vs H Q E h => ?_) (fun cdv A outer s H vs Q E hr h => ?_)
  · obtain ⟨p, S, n, len, h, clock, keeper, q, a, b, rfl, _⟩ := h
    rfl
  · obtain ⟨p, S, n, len, ⟨c, f, l, m, asks, ends⟩, clock, keeper, q, a, b, rfl, ⟨dx, da, de, nm, lo, cs, es, rfl, hp, hda, hde, hlo, hlo0, hm1, ha, he, hen, hf0, sc⟩, n1, n5, hm, sm, sk, sl, hq, z⟩ := h
    dsimp only at hp hda hde hlo hm1 ha he hf0 sc hm
    subst hlo
    have npd : p ≠ da := ne_of hp hda (by intro z; cases z)
    have npe : p ≠ de := ne_of hp hde (by intro z; cases z)
    have nde : da ≠ de := ne_of hda hde (by intro z; cases z)
    have qe : clock < c → E (.ref t.Back) none H := fun h1 => by
      have z := z H [p, da, de] (fr3 fun x o e _ _ _ => e)
      rw [hdue_back (by rintro ⟨y, _⟩; exact absurd y (by decide)) h1] at z
      rw [← cls_back]
      exact z ⟨dx, da, de, nm, lo, cs, es, rfl, hp, hda, hde, rfl, hlo0, hm1, ha, he, hen, hf0, sc⟩
    refine ⟨_, (jssx_cons (jsx_set (i := 2) nc_call sc_Holder_free.nd rfl lo_Holder_free_latest (jex_call nm_gone_on lo_Holder_free_gone_on (ok_gone_on T) (hr.mono (by decide)) T.m_gone_on T.F_gone_on.kp T.b_gone_on sx_attr (ns_cons sx_name ns_nil) (ja_cons sx_attr (je_fld bs_name (je_var (i := 0) nm_self lo_Holder_free_self rfl)) (ja_cons sx_name (je_var (i := 1) nm_clock lo_Holder_free_clock rfl) ja_nil))))
      (jssx_cons (jsx_if (jt_cmp jo_eq (je_fld bs_name (je_var (i := 0) nm_self lo_Holder_free_self rfl)) je_int (by decide) (by decide)) (jssx_one (jsx_raise nm_NotAsked rfl lo_Holder_free_NotAsked T.m_NotAsked T.n_NotAsked T.x_NotAsked PySem.F.excBase_ValueError sx_const ns_nil (ja_cons sx_const je_str ja_nil))) jssx_nil)
      (jssx_cons (jx (js_fld nc_name (je_var (i := 0) nm_self lo_Holder_free_self rfl) (je_var (i := 2) nm_latest lo_Holder_free_latest rfl)))
      (jssx_cons (jx (js_fld nc_dict (je_var (i := 0) nm_self lo_Holder_free_self rfl) je_dnewK))
      (jssx_cons (jx (js_fld nc_bin (je_var (i := 0) nm_self lo_Holder_free_self rfl) (je_op jo_rep (je_lst (ja_cons sx_name (je_var (i := 1) nm_clock lo_Holder_free_clock rfl) ja_nil)) (je_callB nm_len lo_Holder_free_len jc_len T.z_len bt_len sx_attr ns_nil (ja_cons sx_attr (je_fld bs_name (je_var (i := 0) nm_self lo_Holder_free_self rfl)) ja_nil)))))
      (jssx_one (jx (js_ret (je_tup (ja_cons sx_attr (je_fld bs_name (je_var (i := 0) nm_self lo_Holder_free_self rfl)) (ja_cons sx_bin (je_op jo_sub (je_fld bs_name (je_var (i := 0) nm_self lo_Holder_free_self rfl)) je_int) ja_nil))))))))))).h, ?_⟩
    dsimp only [cxOf_K, L2.start, List.map_cons, List.map_nil, List.length_cons, List.length_nil, List.cons_append, List.nil_append, List.replicate]
    refine fix_x (by simp only [List.map_cons, List.map_nil, List.cons_append, List.nil_append, Nat.sub_self, List.replicate, List.append_nil]; exact rfl) ?_
    refine xseq_step fun R k => ?_
    try dsimp only [Y0,Y1,Y2,Y3,Y4,Y5,Y6,Y7,Y8,Y9,Ya,Yb,Yc,Yd,Ye,Yf,Yg,Yh,Yi,Yj,Yk,Yl,Ym,Yn,Yo,Yp,Yq,Yr,Ys,Yt,Yu,Yv,Yw,Yx,Yy,Yz,Z0,Z1,Z2,Z3,Z4,Z5,Z6,Z7,Z8,Z9,Za,Zb,Zc,Zd,Ze,Zf,Zg,Zh,Zi,Zj,Zk,Zl,Zm,Zn,Zo,Zp,Zq,Zr,Zs,Zt,Zu,Zv,Zw,Zx,Zy,Zz,V0,V1,V2]
    try simp only [V3,V4,V5,V6,V7,V8,V9,Va,Vb,Vc,Vd,Ve,Vf,Vg,Vh,Vi,Vj,V1,V2,Vk,Vl,reduceCtorEq,Vn,Vo,Vp,Vq]
    refine rd_Holder_latest T hp ?_
    try dsimp only [Y0,Y1,Y2,Y3,Y4,Y5,Y6,Y7,Y8,Y9,Ya,Yb,Yc,Yd,Ye,Yf,Yg,Yh,Yi,Yj,Yk,Yl,Ym,Yn,Yo,Yp,Yq,Yr,Ys,Yt,Yu,Yv,Yw,Yx,Yy,Yz,Z0,Z1,Z2,Z3,Z4,Z5,Z6,Z7,Z8,Z9,Za,Zb,Zc,Zd,Ze,Zf,Zg,Zh,Zi,Zj,Zk,Zl,Zm,Zn,Zo,Zp,Zq,Zr,Zs,Zt,Zu,Zv,Zw,Zx,Zy,Zz,V0,V1,V2]
    try simp only [V3,V4,V5,V6,V7,V8,V9,Va,Vb,Vc,Vd,Ve,Vf,Vg,Vh,Vi,Vj,V1,V2,Vk,Vl,reduceCtorEq,Vn,Vo,Vp,Vq]
    refine ⟨c, clock, rfl, sc, sm, qe, fun h1 => k _ _ ?_⟩
    clear k R
    refine xseq_step fun R k => ?_
    try dsimp only [Y0,Y1,Y2,Y3,Y4,Y5,Y6,Y7,Y8,Y9,Ya,Yb,Yc,Yd,Ye,Yf,Yg,Yh,Yi,Yj,Yk,Yl,Ym,Yn,Yo,Yp,Yq,Yr,Ys,Yt,Yu,Yv,Yw,Yx,Yy,Yz,Z0,Z1,Z2,Z3,Z4,Z5,Z6,Z7,Z8,Z9,Za,Zb,Zc,Zd,Ze,Zf,Zg,Zh,Zi,Zj,Zk,Zl,Zm,Zn,Zo,Zp,Zq,Zr,Zs,Zt,Zu,Zv,Zw,Zx,Zy,Zz,V0,V1,V2]
    try simp only [V3,V4,V5,V6,V7,V8,V9,Va,Vb,Vc,Vd,Ve,Vf,Vg,Vh,Vi,Vj,V1,V2,Vk,Vl,reduceCtorEq,Vn,Vo,Vp,Vq]
    refine rd_Holder_told T hp ?_
    try dsimp only [Y0,Y1,Y2,Y3,Y4,Y5,Y6,Y7,Y8,Y9,Ya,Yb,Yc,Yd,Ye,Yf,Yg,Yh,Yi,Yj,Yk,Yl,Ym,Yn,Yo,Yp,Yq,Yr,Ys,Yt,Yu,Yv,Yw,Yx,Yy,Yz,Z0,Z1,Z2,Z3,Z4,Z5,Z6,Z7,Z8,Z9,Za,Zb,Zc,Zd,Ze,Zf,Zg,Zh,Zi,Zj,Zk,Zl,Zm,Zn,Zo,Zp,Zq,Zr,Zs,Zt,Zu,Zv,Zw,Zx,Zy,Zz,V0,V1,V2]
    try simp only [V3,V4,V5,V6,V7,V8,V9,Va,Vb,Vc,Vd,Ve,Vf,Vg,Vh,Vi,Vj,V1,V2,Vk,Vl,reduceCtorEq,Vn,Vo,Vp,Vq]
    split
    · rename_i h2
      rw [hdue_asked h1 h2, ] at z
      rw [cls_asked.symm]
      exact ⟨by decide, z H [p, da, de] (fr3 fun x o e _ _ _ => e) ⟨dx, da, de, nm, lo, cs, es, rfl, hp, hda, hde, rfl, hlo0, hm1, ha, he, hen, hf0, sc⟩⟩
    · rename_i h2
      refine k _ _ ?_
      clear k R
      refine xseq_step fun R k => ?_
      rw [hdue_free h1 h2] at z
      dsimp only at h1 z
      try dsimp only [Y0,Y1,Y2,Y3,Y4,Y5,Y6,Y7,Y8,Y9,Ya,Yb,Yc,Yd,Ye,Yf,Yg,Yh,Yi,Yj,Yk,Yl,Ym,Yn,Yo,Yp,Yq,Yr,Ys,Yt,Yu,Yv,Yw,Yx,Yy,Yz,Z0,Z1,Z2,Z3,Z4,Z5,Z6,Z7,Z8,Z9,Za,Zb,Zc,Zd,Ze,Zf,Zg,Zh,Zi,Zj,Zk,Zl,Zm,Zn,Zo,Zp,Zq,Zr,Zs,Zt,Zu,Zv,Zw,Zx,Zy,Zz,V0,V1,V2]
      try simp only [V3,V4,V5,V6,V7,V8,V9,Va,Vb,Vc,Vd,Ve,Vf,Vg,Vh,Vi,Vj,V1,V2,Vk,Vl,reduceCtorEq,Vn,Vo,Vp,Vq]
      refine st_Holder_latest T hp (k _ _ ?_)
      clear k R
      refine xseq_step fun R k => ?_
      have f1 : ∀ x o, H x = some o → x ≠ p → upd H p (.ins t.Holder dx (hf len (n / 2 + 1) nm l clock (lo + cs.length) da de)) x = some o := fun x o e ne => by rw [upd_ne ne]; exact e
      have hp1 : upd H p (.ins t.Holder dx (hf len (n / 2 + 1) nm l clock (lo + cs.length) da de)) p = some (.ins t.Holder dx (hf len (n / 2 + 1) nm l clock (lo + cs.length) da de)) := upd_same
      have hda1 := f1 _ _ hda npd.symm
      have hde1 := f1 _ _ hde npe.symm
      generalize upd H p (.ins t.Holder dx (hf len (n / 2 + 1) nm l clock (lo + cs.length) da de)) = H1 at f1 hp1 hda1 hde1 ⊢
      try dsimp only [Y0,Y1,Y2,Y3,Y4,Y5,Y6,Y7,Y8,Y9,Ya,Yb,Yc,Yd,Ye,Yf,Yg,Yh,Yi,Yj,Yk,Yl,Ym,Yn,Yo,Yp,Yq,Yr,Ys,Yt,Yu,Yv,Yw,Yx,Yy,Yz,Z0,Z1,Z2,Z3,Z4,Z5,Z6,Z7,Z8,Z9,Za,Zb,Zc,Zd,Ze,Zf,Zg,Zh,Zi,Zj,Zk,Zl,Zm,Zn,Zo,Zp,Zq,Zr,Zs,Zt,Zu,Zv,Zw,Zx,Zy,Zz,V0,V1,V2]
      try simp only [V3,V4,V5,V6,V7,V8,V9,Va,Vb,Vc,Vd,Ve,Vf,Vg,Vh,Vi,Vj,V1,V2,Vk,Vl,reduceCtorEq,Vn,Vo,Vp,Vq]
      intro dn hdn
      have hdn0 : H dn = none := by
        cases e : H dn with
        | none => rfl
        | some o =>
          by_cases y : dn = p
          · rw [y, hp1] at hdn; cases hdn
          · rw [f1 _ _ e y] at hdn; cases hdn
      have npn : p ≠ dn := ne_of_none hp1 hdn
      have nen : de ≠ dn := ne_of_none hde1 hdn
      refine st_Holder_asks T (by rw [upd_ne npn]; exact hp1) (k _ _ ?_)
      clear k R
      refine xseq_step fun R k => ?_
      have f2 : ∀ x o, H1 x = some o → x ≠ p → upd (upd H1 dn (.dK [])) p (.ins t.Holder dx (hf len (n / 2 + 1) nm l clock (lo + cs.length) dn de)) x = some o := fun x o e ne => by rw [upd_ne ne, upd_ne (ne_of_none e hdn)]; exact e
      have hp2 : upd (upd H1 dn (.dK [])) p (.ins t.Holder dx (hf len (n / 2 + 1) nm l clock (lo + cs.length) dn de)) p = some (.ins t.Holder dx (hf len (n / 2 + 1) nm l clock (lo + cs.length) dn de)) := upd_same
      have hdn2 : upd (upd H1 dn (.dK [])) p (.ins t.Holder dx (hf len (n / 2 + 1) nm l clock (lo + cs.length) dn de)) dn = some (.dK []) := by rw [upd_ne npn.symm]; exact upd_same
      have hde2 := f2 _ _ hde1 npe.symm
      generalize upd (upd H1 dn (.dK [])) p (.ins t.Holder dx (hf len (n / 2 + 1) nm l clock (lo + cs.length) dn de)) = H2 at f2 hp2 hdn2 hde2 ⊢
      try dsimp only [Y0,Y1,Y2,Y3,Y4,Y5,Y6,Y7,Y8,Y9,Ya,Yb,Yc,Yd,Ye,Yf,Yg,Yh,Yi,Yj,Yk,Yl,Ym,Yn,Yo,Yp,Yq,Yr,Ys,Yt,Yu,Yv,Yw,Yx,Yy,Yz,Z0,Z1,Z2,Z3,Z4,Z5,Z6,Z7,Z8,Z9,Za,Zb,Zc,Zd,Ze,Zf,Zg,Zh,Zi,Zj,Zk,Zl,Zm,Zn,Zo,Zp,Zq,Zr,Zs,Zt,Zu,Zv,Zw,Zx,Zy,Zz,V0,V1,V2]
      try simp only [V3,V4,V5,V6,V7,V8,V9,Va,Vb,Vc,Vd,Ve,Vf,Vg,Vh,Vi,Vj,V1,V2,Vk,Vl,reduceCtorEq,Vn,Vo,Vp,Vq]
      refine ⟨by decide, fun p1 hp1' => ?_⟩
      have f3 : ∀ {o : HO} x o', H2 x = some o' → upd H2 p1 o x = some o' := fun x o' e => by rw [upd_ne (ne_of_none e hp1')]; exact e
      refine rd_Holder_ends T (f3 _ _ hp2) (rd_lenL (SqL.of (f3 _ _ hde2)) ?_)
      rw [List.length_map, hen]
      refine ⟨p1, n, _, rfl, rfl, upd_same, by omega, by omega, ?_, fun dg hdg => ?_⟩
      · have := sizeLine_eq
        rw [List.length_singleton]
        omega
      rw [rep_flat]
      have f4 : ∀ {o2 : HO} x o', H2 x = some o' → upd (upd H2 p1 (.lst [.int clock])) dg o2 x = some o' := fun {o2} x o' e => by rw [upd_ne (ne_of_none (f3 x o' e) hdg)]; exact f3 x o' e
      have hdg2 : H2 dg = none := by
        cases e : H2 dg with
        | none => rfl
        | some o => rw [f3 _ _ e] at hdg; cases hdg
      have hdg0 : H dg = none := by
        cases e : H dg with
        | none => rfl
        | some o =>
          by_cases y : dg = p
          · rw [y, hp2] at hdg2; cases hdg2
          · rw [f2 _ _ (f1 _ _ e y) y] at hdg2; cases hdg2
      have npg : p ≠ dg := ne_of_none hp2 hdg2
      have nng : dn ≠ dg := ne_of_none hdn2 hdg2
      refine st_Holder_ends T (f4 _ _ hp2) (k _ _ ?_)
      clear k R
      have f5 : ∀ x o, H2 x = some o → x ≠ p → upd (upd (upd H2 p1 (.lst [.int clock])) dg (.lst ((List.replicate n.toNat clock).map V.int))) p (.ins t.Holder dx (hf len (n / 2 + 1) nm l clock (lo + cs.length) dn dg)) x = some o := fun x o e ne => by rw [upd_ne ne]; exact f4 _ _ e
      have hp5 : upd (upd (upd H2 p1 (.lst [.int clock])) dg (.lst ((List.replicate n.toNat clock).map V.int))) p (.ins t.Holder dx (hf len (n / 2 + 1) nm l clock (lo + cs.length) dn dg)) p = some (.ins t.Holder dx (hf len (n / 2 + 1) nm l clock (lo + cs.length) dn dg)) := upd_same
      have hdn5 := f5 _ _ hdn2 npn.symm
      have hdg5 : upd (upd (upd H2 p1 (.lst [.int clock])) dg (.lst ((List.replicate n.toNat clock).map V.int))) p (.ins t.Holder dx (hf len (n / 2 + 1) nm l clock (lo + cs.length) dn dg)) dg = some (.lst ((List.replicate n.toNat clock).map V.int)) := by rw [upd_ne npg.symm]; exact upd_same
      generalize upd (upd (upd H2 p1 (.lst [.int clock])) dg (.lst ((List.replicate n.toNat clock).map V.int))) p (.ins t.Holder dx (hf len (n / 2 + 1) nm l clock (lo + cs.length) dn dg)) = H5 at f5 hp5 hdn5 hdg5 ⊢
      try dsimp only [Y0,Y1,Y2,Y3,Y4,Y5,Y6,Y7,Y8,Y9,Ya,Yb,Yc,Yd,Ye,Yf,Yg,Yh,Yi,Yj,Yk,Yl,Ym,Yn,Yo,Yp,Yq,Yr,Ys,Yt,Yu,Yv,Yw,Yx,Yy,Yz,Z0,Z1,Z2,Z3,Z4,Z5,Z6,Z7,Z8,Z9,Za,Zb,Zc,Zd,Ze,Zf,Zg,Zh,Zi,Zj,Zk,Zl,Zm,Zn,Zo,Zp,Zq,Zr,Zs,Zt,Zu,Zv,Zw,Zx,Zy,Zz,V0,V1,V2]
      try simp only [V3,V4,V5,V6,V7,V8,V9,Va,Vb,Vc,Vd,Ve,Vf,Vg,Vh,Vi,Vj,V1,V2,Vk,Vl,reduceCtorEq,Vn,Vo,Vp,Vq]
      refine rd_Holder_life T hp5 (rd_Holder_told T hp5 ?_)
      try dsimp only [Y0,Y1,Y2,Y3,Y4,Y5,Y6,Y7,Y8,Y9,Ya,Yb,Yc,Yd,Ye,Yf,Yg,Yh,Yi,Yj,Yk,Yl,Ym,Yn,Yo,Yp,Yq,Yr,Ys,Yt,Yu,Yv,Yw,Yx,Yy,Yz,Z0,Z1,Z2,Z3,Z4,Z5,Z6,Z7,Z8,Z9,Za,Zb,Zc,Zd,Ze,Zf,Zg,Zh,Zi,Zj,Zk,Zl,Zm,Zn,Zo,Zp,Zq,Zr,Zs,Zt,Zu,Zv,Zw,Zx,Zy,Zz,V0,V1,V2]
      try simp only [V3,V4,V5,V6,V7,V8,V9,Va,Vb,Vc,Vd,Ve,Vf,Vg,Vh,Vi,Vj,V1,V2,Vk,Vl,reduceCtorEq,Vn,Vo,Vp,Vq]
      refine ⟨by decide, fun pr hpr => ?_⟩
      have f6 : ∀ x o, H5 x = some o → upd H5 pr (.tup [.int l, .int (lo + cs.length - 1)]) x = some o := fun x o e => by rw [upd_ne (ne_of_none e hpr)]; exact e
      refine z _ [p, dn, dg] ⟨fun x o e ne => f6 _ _ (f5 _ _ (f2 _ _ (f1 x o e fun y => ne (by simp [y])) fun y => ne (by simp [y])) fun y => ne (by simp [y])), fun x hx => ?_⟩ ⟨dx, dn, dg, nm, lo + cs.length, [], List.replicate n.toNat clock, rfl, f6 _ _ hp5, f6 _ _ hdn5, f6 _ _ hdg5, ?_, by omega, hm1, ⟨fun _ _ _ e => (by cases e), fun _ _ e => (by cases e)⟩, EndR.rep ⟨Int.le_refl _, by dsimp only at hf0 ⊢; omega⟩ _, ?_, by dsimp only at hf0 ⊢; omega, sm⟩ pr upd_same
      · simp only [List.mem_cons, List.not_mem_nil, or_false] at hx
        rcases hx with rfl | rfl | rfl
        · exact .inl (by simp)
        · exact .inr hdn0
        · exact .inr hdg0
      · dsimp only [List.length_nil]
        omega
      · rw [List.length_replicate]
        omega
end
open Lease
def kp (k : KW) : Kp := ⟨k.c, k.u, k.st.map (·.name), match k.st with | some l => (l.a, l.b) | none => (0, 0)⟩
theorem kp_asked {k : KW} {wt clock name a b : Int} {q : Addr} (h : ¬ clock < k.c) : (due k wt 0 clock name q a b).1 = .bl ((kp k).says clock name (a, b)) ∧ kp (due k wt 0 clock name q a b).2 = (kp k).asked wt clock name (a, b) := by
  obtain ⟨c, u, st⟩ := k
  unfold due kp Kp.says Kp.asked
  dsimp only at h ⊢
  rw [if_neg h, if_neg (by decide), if_neg (by decide)]
  cases st with
  | none =>
    by_cases h1 : clock < u
    · rw [if_pos h1]
      simp [h1]
    · rw [if_neg h1]
      simp [h1]
  | some l =>
    by_cases h1 : clock < u
    · rw [if_pos h1]
      dsimp only
      by_cases h2 : l.name ≠ name ∨ ltN a b l.a l.b
      · rw [if_pos h2]
        have h3 : (some l).map (·.name) ≠ some name ∨ nlt (a, b) (l.a, l.b) := h2.elim (fun y => .inl fun z => y (Option.some.inj z)) .inr
        rw [if_pos ⟨h1, h3⟩]
        refine ⟨?_, rfl⟩
        rcases h2 with h3 | h3
        · simp [h1, h3]
        · have h4 : nlt (a, b) (l.a, l.b) := h3
          simp [h1, h4]
      · rw [if_neg h2]
        have h3 : l.name = name := Decidable.not_not.mp fun y => h2 (.inl y)
        have h4 : ¬ nlt (a, b) (l.a, l.b) := fun y => h2 (.inr y)
        rw [if_neg (c := clock < u ∧ ((some l).map (·.name) ≠ some name ∨ nlt (a, b) (l.a, l.b))) fun y => y.2.elim (fun z => z (by rw [← h3]; rfl)) h4]
        by_cases h5 : a = l.a ∧ b = l.b
        · rw [if_pos h5, if_pos ⟨h1, by rw [h5.1, h5.2]⟩]
          refine ⟨?_, rfl⟩
          simp [h3, h4]
        · rw [if_neg h5, if_neg fun y => h5 (by have := y.2; simpa using this)]
          refine ⟨?_, rfl⟩
          simp [h3, h4]
    · rw [if_neg h1, if_neg fun y => h1 y.1, if_neg fun y => h1 y.1]
      refine ⟨?_, rfl⟩
      simp [h1]
theorem kp_freed {k : KW} {wt clock name a b : Int} {q : Addr} (h : ¬ clock < k.c) : (due k wt 1 clock name q a b).1 = .non ∧ kp (due k wt 1 clock name q a b).2 = (kp k).freed clock name (a, b) := by
  obtain ⟨c, u, st⟩ := k
  unfold due kp Kp.freed
  dsimp only at h ⊢
  rw [if_neg h, if_neg (by decide), if_pos rfl]
  refine ⟨rfl, ?_⟩
  cases st with
  | none => 
    rw [if_neg fun y => by have := y.1; simp at this]
  | some l =>
    dsimp only
    have e : nle (l.a, l.b) (a, b) ↔ ¬ ltN a b l.a l.b := by rw [← ltN_not, @eq_comm _ a]; exact Iff.rfl
    by_cases h2 : l.name = name ∧ ¬ ltN a b l.a l.b
    · rw [if_pos h2, if_pos ⟨by rw [← h2.1]; rfl, e.mpr h2.2⟩]
    · rw [if_neg h2, if_neg fun y => h2 ⟨Option.some.inj y.1, e.mp y.2⟩]
theorem kp_new {wt c : Int} : kp ⟨c, c + wt, none⟩ = Kp.new wt c := rfl
structure HRel (nk : Nat) (h : HW) (d : Hd) : Prop where
  lf : d.life = h.life
  ck : d.clock = h.c
  mn : d.many = h.many
  ak : ∀ a b, h.asks a b = (d.asks.find? (fun p => decide (p.1 = (a, b)))).map (·.2)
  ln : h.ends.length = nk
  en : ∀ k, k < nk → d.ends k = h.ends.getD k 0
  fs : h.first ≤ h.c
  nw : h.many = 0 → (∀ a b, h.asks a b = none) ∧ ∀ e, e ∈ h.ends → e ≤ h.c
section
variable {nk : Nat} {h : HW} {d : Hd} {n len clock kk a b : Int}
theorem HRel.ask (r : HRel nk h d) (hc : ¬ clock < h.c) (new : ∀ p ∈ d.asks, nlt p.1 (d.life, d.many)) (m0 : 0 ≤ h.many) : HRel nk (hdue n len h 0 clock kk a b).2 (d.ask clock) := by
  rw [hdue_ask hc]
  refine ⟨r.lf, rfl, ?_, fun a b => ?_, r.ln, r.en, ?_, fun y => by dsimp only at y; omega⟩
  · show d.many + 1 = h.many + 1
    rw [r.mn]
  · dsimp only
    show _ = ((d.asks ++ [((d.life, d.many), clock)]).find? _).map _
    rw [List.find?_append]
    by_cases e : a = h.life ∧ b = h.many
    · rw [if_pos e]
      have e1 : d.asks.find? (fun p => decide (p.1 = (a, b))) = none := by
        rw [List.find?_eq_none]
        intro p hp
        have := new p hp
        rw [r.lf, r.mn, ← e.1, ← e.2] at this
        intro y
        rw [of_decide_eq_true y] at this
        exact nlt_irrefl this
      rw [e1, r.lf, r.mn, ← e.1, ← e.2]
      simp
    · rw [if_neg e, r.ak a b]
      have e1 : [((d.life, d.many), clock)].find? (fun p => decide (p.1 = (a, b))) = none := by
        rw [List.find?_eq_none]
        intro p hp
        rw [List.mem_singleton.mp hp]
        simp only [decide_eq_true_eq, Prod.mk.injEq]
        rw [r.lf, r.mn]
        omega
      rw [e1, Option.or_none]
  · have := r.fs
    dsimp only
    omega
theorem HRel.hear {k : Nat} (r : HRel nk h d) (hk : k < nk) (hn : (nk : Int) = n) (hc : ¬ clock < h.c) : HRel nk (hdue n len h 1 clock (k : Int) a b).2 (d.hear len clock k (a, b)) := by
  have fs := r.fs
  rw [hdue_hear ⟨by omega, by omega⟩ hc]
  unfold Hd.hear
  rw [r.ak a b]
  cases e : d.asks.find? (fun p => decide (p.1 = (a, b))) with
  | none => exact ⟨r.lf, rfl, r.mn, r.ak, r.ln, r.en, by dsimp only [Option.map_none]; omega, fun y => ⟨(r.nw y).1, fun x hx => by have := (r.nw y).2 x hx; dsimp only [Option.map_none]; omega⟩⟩
  | some p =>
    refine ⟨r.lf, rfl, r.mn, r.ak, ?_, fun j hj => ?_, by dsimp only [Option.map_some]; omega, fun y => by
      have z := (r.nw y).1 a b
      rw [r.ak a b, e] at z
      cases z⟩
    · dsimp only [Option.map_some]
      rw [List.length_set]
      exact r.ln
    · dsimp only [Option.map_some]
      rw [Int.toNat_natCast, List.getD_eq_getElem?_getD, List.getElem?_set]
      by_cases q : j = k
      · subst q
        rw [set1_same, if_pos rfl, if_pos (by rw [r.ln]; exact hj), r.en j hj]
        rfl
      · rw [set1_ne q, if_neg fun y => q y.symm, r.en j hj, List.getD_eq_getElem?_getD]
theorem HRel.free (r : HRel nk h d) (hc : ¬ clock < h.c) (hm : ¬ h.many = 0) (hn : (nk : Int) = n) : HRel nk (hdue n len h 4 clock kk a b).2 (d.free h.first clock) := by
  have fs := r.fs
  rw [hdue_free hc hm]
  refine ⟨r.lf, rfl, r.mn, fun _ _ => rfl, ?_, fun k hk => ?_, by dsimp only; omega, fun y => absurd y hm⟩
  · dsimp only
    rw [List.length_replicate]
    omega
  · dsimp only
    show h.first = _
    rw [List.getD_eq_getElem?_getD, List.getElem?_replicate, if_pos (by omega)]
    rfl
theorem HRel.seen (r : HRel nk h d) (hc : ¬ clock < h.c) : HRel nk { h with c := clock } (d.seen clock) := ⟨r.lf, rfl, r.mn, r.ak, r.ln, r.en, by have := r.fs; dsimp only; omega, fun y => ⟨(r.nw y).1, fun x hx => by have := (r.nw y).2 x hx; dsimp only; omega⟩⟩
theorem filter_at {p : Int → Bool} : ∀ (es : List Int), (es.filter p).length = ((List.range es.length).filter fun k => p (es.getD k 0)).length
  | [] => rfl
  | x :: es => by
    have ih := filter_at (p := p) es
    rw [List.length_cons, List.range_succ_eq_map, List.filter_cons, List.filter_cons, List.filter_map, show (x :: es).getD 0 0 = x from rfl]
    have e : ((fun k => p ((x :: es).getD k 0)) ∘ Nat.succ) = fun k => p (es.getD k 0) := by
      funext k
      rfl
    rw [e]
    split
    · rw [List.length_cons, List.length_cons, List.length_map, ih]
    · rw [List.length_map, ih]
theorem HRel.holds (r : HRel nk h d) (hn : (nk : Int) = n) : holdsB n h clock = d.holds nk clock := by
  unfold holdsB Hd.holds Hd.count goodE
  rw [filter_at, r.ln]
  have e : (List.range nk).filter (fun k => decide (clock < h.ends.getD k 0)) = (List.range nk).filter fun k => decide (clock < d.ends k) := by
    refine List.filter_congr fun k hk => ?_
    rw [r.en k (List.mem_range.mp hk)]
  rw [e, ← hn]
  refine decide_eq_decide.mpr ⟨fun y => by omega, fun y => by omega⟩
theorem HRel.new {c life : Int} : HRel nk ⟨c, c, life, 0, fun _ _ => none, List.replicate nk c⟩ (Hd.new life c) := ⟨rfl, rfl, rfl, fun _ _ => rfl, List.length_replicate, fun k hk => by
  show c = _
  dsimp only
  rw [List.getD_eq_getElem?_getD, List.getElem?_replicate, if_pos hk]
  rfl, Int.le_refl _, fun _ => ⟨fun _ _ => rfl, fun e he => by rw [List.eq_of_mem_replicate he]; exact Int.le_refl _⟩⟩
end
structure Fv where
  Sa : List Addr
  Ta : Hp → Prop
  S1 : List Addr
  T1 : Hp → Prop
  wt : Int
  n : Int
  len : Int
  ks : List Addr
  hs : List Addr
  Sk : Nat → List Addr
  Sh : Nat → List Addr
  kw : Nat → KW
  hw : Nat → HW
def KTh (t : Adr) (ks : List Addr) (wt : Int) (Sk : Nat → List Addr) (kw : Nat → KW) (i : Nat) (H : Hp) : Prop := ∀ p, ks[i]? = some p → KAt t H p (Sk i) wt (kw i)
def HTh (t : Adr) (hs : List Addr) (n len : Int) (Sh : Nat → List Addr) (hw : Nat → HW) (i : Nat) (H : Hp) : Prop := ∀ p, hs[i]? = some p → HAt t H p (Sh i) n len (hw i)
def FS (v : Fv) : Nat → List Addr
  | 0 => v.Sa
  | 1 => v.S1
  | j + 2 => if j % 2 = 0 then v.Sk (j / 2) else v.Sh (j / 2)
def FT (t : Adr) (v : Fv) : Nat → Hp → Prop
  | 0 => v.Ta
  | 1 => v.T1
  | j + 2 => if j % 2 = 0 then KTh t v.ks v.wt v.Sk v.kw (j / 2) else HTh t v.hs v.n v.len v.Sh v.hw (j / 2)
abbrev Fm (t : Adr) (H : Hp) (v : Fv) : Prop := Fam t H (FS v) (FT t v)
section
variable {t : Adr} {H H' : Hp} {v : Fv} {S' : List Addr} {T' : Hp → Prop} {i : Nat} {p : Addr}
theorem FS_k : FS v (2 * i + 2) = v.Sk i := by
  show (if (2 * i) % 2 = 0 then v.Sk (2 * i / 2) else v.Sh (2 * i / 2)) = _
  rw [if_pos (by omega), show 2 * i / 2 = i by omega]
theorem FS_h : FS v (2 * i + 1 + 2) = v.Sh i := by
  show (if (2 * i + 1) % 2 = 0 then v.Sk ((2 * i + 1) / 2) else v.Sh ((2 * i + 1) / 2)) = _
  rw [if_neg (by omega), show (2 * i + 1) / 2 = i by omega]
theorem FT_k : FT t v (2 * i + 2) = KTh t v.ks v.wt v.Sk v.kw i := by
  show (if (2 * i) % 2 = 0 then KTh t v.ks v.wt v.Sk v.kw (2 * i / 2) else HTh t v.hs v.n v.len v.Sh v.hw (2 * i / 2)) = _
  rw [if_pos (by omega), show 2 * i / 2 = i by omega]
theorem FT_h : FT t v (2 * i + 1 + 2) = HTh t v.hs v.n v.len v.Sh v.hw i := by
  show (if (2 * i + 1) % 2 = 0 then KTh t v.ks v.wt v.Sk v.kw ((2 * i + 1) / 2) else HTh t v.hs v.n v.len v.Sh v.hw ((2 * i + 1) / 2)) = _
  rw [if_neg (by omega), show (2 * i + 1) / 2 = i by omega]
theorem Fm.keeper (F : Fm t H v) (e : v.ks[i]? = some p) : KAt t H p (v.Sk i) v.wt (v.kw i) := by
  have h := F.th (2 * i + 2)
  rw [FT_k] at h
  exact h p e
theorem Fm.holder (F : Fm t H v) (e : v.hs[i]? = some p) : HAt t H p (v.Sh i) v.n v.len (v.hw i) := by
  have h := F.th (2 * i + 1 + 2)
  rw [FT_h] at h
  exact h p e
theorem Fm.put1 (F : Fm t H v) (f : Fr H H' v.S1 S') (ft : Foot t S' T') (h : T' H') : Fm t H' { v with S1 := S', T1 := T' } :=
  (F.step (i := 1) f ft h).as (fun j => by rcases j with _ | _ | j <;> first | rfl | exact atS_ne (by omega)) (fun j => by rcases j with _ | _ | j <;> first | rfl | exact atS_ne (by omega))
theorem Fm.stepK (F : Fm t H v) {ks' : List Addr} {k' : KW} (e1 : ks'[i]? = some p) (e2 : ∀ j, j ≠ i → ks'[j]? = v.ks[j]?) (f : Fr H H' (v.Sk i) S') (h : KAt t H' p S' v.wt k') : Fm t H' { v with ks := ks', Sk := atS v.Sk i S', kw := atS v.kw i k' } := by
  have ft : Foot t S' (KTh t ks' v.wt (atS v.Sk i S') (atS v.kw i k') i) := by
    refine ⟨fun H h x hx => ?_, fun H H' h f ft p' e' => ?_⟩
    · have := h p e1
      rw [atS_same] at this
      exact this.some.2 x hx
    · have := h p' e'
      rw [atS_same, atS_same] at this ⊢
      exact this.frame f ft
  have th : KTh t ks' v.wt (atS v.Sk i S') (atS v.kw i k') i H' := fun p' e' => by
    rw [e1] at e'
    cases e'
    rw [atS_same, atS_same]
    exact h
  refine (F.step (i := 2 * i + 2) (by rw [FS_k]; exact f) ft th).as (fun j => ?_) fun j => ?_
  · rcases j with _ | _ | j
    · exact atS_ne (by omega)
    · exact atS_ne (by omega)
    · by_cases ej : j = 2 * i
      · subst ej
        rw [atS_same, FS_k]
        exact atS_same.symm
      · rw [atS_ne (by omega)]
        show (if j % 2 = 0 then v.Sk (j / 2) else v.Sh (j / 2)) = (if j % 2 = 0 then atS v.Sk i S' (j / 2) else v.Sh (j / 2))
        by_cases h2 : j % 2 = 0
        · rw [if_pos h2, if_pos h2, atS_ne (by omega)]
        · rw [if_neg h2, if_neg h2]
  · rcases j with _ | _ | j
    · exact atS_ne (by omega)
    · exact atS_ne (by omega)
    · by_cases ej : j = 2 * i
      · subst ej
        rw [atS_same, FT_k]
      · rw [atS_ne (by omega)]
        show (if j % 2 = 0 then KTh t v.ks v.wt v.Sk v.kw (j / 2) else HTh t v.hs v.n v.len v.Sh v.hw (j / 2)) = (if j % 2 = 0 then KTh t ks' v.wt (atS v.Sk i S') (atS v.kw i k') (j / 2) else HTh t v.hs v.n v.len v.Sh v.hw (j / 2))
        by_cases h2 : j % 2 = 0
        · rw [if_pos h2, if_pos h2]
          unfold KTh
          rw [atS_ne (by omega), atS_ne (by omega), e2 _ (by omega)]
        · rw [if_neg h2, if_neg h2]
theorem Fm.stepH (F : Fm t H v) {hs' : List Addr} {h' : HW} (e1 : hs'[i]? = some p) (e2 : ∀ j, j ≠ i → hs'[j]? = v.hs[j]?) (f : Fr H H' (v.Sh i) S') (h : HAt t H' p S' v.n v.len h') : Fm t H' { v with hs := hs', Sh := atS v.Sh i S', hw := atS v.hw i h' } := by
  have ft : Foot t S' (HTh t hs' v.n v.len (atS v.Sh i S') (atS v.hw i h') i) := by
    refine ⟨fun H h x hx => ?_, fun H H' h f ft p' e' => ?_⟩
    · have := h p e1
      rw [atS_same] at this
      exact this.some.2 x hx
    · have := h p' e'
      rw [atS_same, atS_same] at this ⊢
      exact this.frame f ft
  have th : HTh t hs' v.n v.len (atS v.Sh i S') (atS v.hw i h') i H' := fun p' e' => by
    rw [e1] at e'
    cases e'
    rw [atS_same, atS_same]
    exact h
  refine (F.step (i := 2 * i + 1 + 2) (by rw [FS_h]; exact f) ft th).as (fun j => ?_) fun j => ?_
  · rcases j with _ | _ | j
    · exact atS_ne (by omega)
    · exact atS_ne (by omega)
    · by_cases ej : j = 2 * i + 1
      · subst ej
        rw [atS_same, FS_h]
        exact atS_same.symm
      · rw [atS_ne (by omega)]
        show (if j % 2 = 0 then v.Sk (j / 2) else v.Sh (j / 2)) = (if j % 2 = 0 then v.Sk (j / 2) else atS v.Sh i S' (j / 2))
        by_cases h2 : j % 2 = 0
        · rw [if_pos h2, if_pos h2]
        · rw [if_neg h2, if_neg h2, atS_ne (by omega)]
  · rcases j with _ | _ | j
    · exact atS_ne (by omega)
    · exact atS_ne (by omega)
    · by_cases ej : j = 2 * i + 1
      · subst ej
        rw [atS_same, FT_h]
      · rw [atS_ne (by omega)]
        show (if j % 2 = 0 then KTh t v.ks v.wt v.Sk v.kw (j / 2) else HTh t v.hs v.n v.len v.Sh v.hw (j / 2)) = (if j % 2 = 0 then KTh t v.ks v.wt v.Sk v.kw (j / 2) else HTh t hs' v.n v.len (atS v.Sh i S') (atS v.hw i h') (j / 2))
        by_cases h2 : j % 2 = 0
        · rw [if_pos h2, if_pos h2]
        · rw [if_neg h2, if_neg h2]
          unfold HTh
          rw [atS_ne (by omega), atS_ne (by omega), e2 _ (by omega)]
end
/-- the town's own objects -/
structure TAd where
  tw : Addr
  cl : Addr
  bg : Addr
  kl : Addr
  hl : Addr
def TAd.all (A : TAd) : List Addr := [A.tw, A.cl, A.bg, A.kl, A.hl]
def townD (A : TAd) (lf : Int) : List (Key × V) := [(Sum.inr "clocks", .ref A.cl), (Sum.inr "bag", .ref A.bg), (Sum.inr "life", .int lf), (Sum.inr "keepers", .ref A.kl), (Sum.inr "holders", .ref A.hl)]
section
variable {A : TAd} {lf x : Int}
theorem tw_clocks : valV (townD A lf) (Sum.inr "clocks") = some (.ref A.cl) := by rfl
theorem tw_bag : valV (townD A lf) (Sum.inr "bag") = some (.ref A.bg) := by rfl
theorem tw_life : valV (townD A lf) (Sum.inr "life") = some (.int lf) := by rfl
theorem tw_keepers : valV (townD A lf) (Sum.inr "keepers") = some (.ref A.kl) := by rfl
theorem tw_holders : valV (townD A lf) (Sum.inr "holders") = some (.ref A.hl) := by rfl
theorem tw_put : putK (townD A lf) (Sum.inr "life") (.int x) = townD A x := by rfl
theorem tw_small : (townD A lf).length < sizeLine := by show 5 < sizeLine; decide
end
def msgV (kind : Str) (k x : Nat) (q : Addr) : List V := [.str kind, .int (k : Int), .int (x : Int), .ref q]
def MsgAt (H : Hp) (r : Addr) : Msg → Prop
  | .ask k x n => ∃ q, H r = some (.tup (msgV "ask" k x q)) ∧ H q = some (.tup [.int n.1, .int n.2])
  | .free k x n => ∃ q, H r = some (.tup (msgV "free" k x q)) ∧ H q = some (.tup [.int n.1, .int n.2])
  | .lets k x n => ∃ q, H r = some (.tup (msgV "let" k x q)) ∧ H q = some (.tup [.int n.1, .int n.2])
theorem MsgAt.keep {t : Adr} {H H' : Hp} {r : Addr} {m : Msg} (h : MsgAt H r m) (ft : ∀ x o, H x = some o → Fx t o → H' x = some o) : MsgAt H' r m := by
  cases m with
  | ask k x n => exact let ⟨q, e1, e2⟩ := h; ⟨q, ft _ _ e1 fx_tup, ft _ _ e2 fx_tup⟩
  | free k x n => exact let ⟨q, e1, e2⟩ := h; ⟨q, ft _ _ e1 fx_tup, ft _ _ e2 fx_tup⟩
  | lets k x n => exact let ⟨q, e1, e2⟩ := h; ⟨q, ft _ _ e1 fx_tup, ft _ _ e2 fx_tup⟩
structure TAt (A : TAd) (ks hs : List Addr) (cl : List Int) (lf : Int) (bag : List (Addr × Msg)) (H : Hp) : Prop where
  tw : H A.tw = some (.dK (townD A lf))
  cl : H A.cl = some (.lst (cl.map V.int))
  bg : H A.bg = some (.lst (bag.map fun p => V.ref p.1))
  kl : H A.kl = some (.lst (ks.map V.ref))
  hl : H A.hl = some (.lst (hs.map V.ref))
  ms : ∀ p, p ∈ bag → MsgAt H p.1 p.2
theorem TAt.foot {t : Adr} {A : TAd} {ks hs : List Addr} {cl : List Int} {lf : Int} {bag : List (Addr × Msg)} : Foot t A.all (TAt A ks hs cl lf bag) := by
  refine ⟨fun H h x hx => ?_, fun H H' h f ft => ⟨f _ _ h.tw (by simp [TAd.all]), f _ _ h.cl (by simp [TAd.all]), f _ _ h.bg (by simp [TAd.all]), f _ _ h.kl (by simp [TAd.all]), f _ _ h.hl (by simp [TAd.all]), fun p hp => (h.ms p hp).keep ft⟩⟩
  simp only [TAd.all, List.mem_cons, List.not_mem_nil, or_false] at hx
  rcases hx with rfl | rfl | rfl | rfl | rfl
  · exact ⟨_, h.tw, by rintro (⟨_, z⟩ | ⟨_, _, _, _, _, z⟩) <;> cases z⟩
  · exact ⟨_, h.cl, by rintro (⟨_, z⟩ | ⟨_, _, _, _, _, z⟩) <;> cases z⟩
  · exact ⟨_, h.bg, by rintro (⟨_, z⟩ | ⟨_, _, _, _, _, z⟩) <;> cases z⟩
  · exact ⟨_, h.kl, by rintro (⟨_, z⟩ | ⟨_, _, _, _, _, z⟩) <;> cases z⟩
  · exact ⟨_, h.hl, by rintro (⟨_, z⟩ | ⟨_, _, _, _, _, z⟩) <;> cases z⟩
/-- the whole town, as plain data beside its addresses -/
structure TV where
  Sa : List Addr
  Ta : Hp → Prop
  wt : Int
  len : Int
  A : TAd
  ks : List Addr
  hs : List Addr
  Sk : Nat → List Addr
  Sh : Nat → List Addr
  cl : List Int
  lf : Int
  bag : List (Addr × Msg)
  kw : Nat → KW
  hw : Nat → HW
def TV.f (v : TV) (n : Int) : Fv := ⟨v.Sa, v.Ta, v.A.all, TAt v.A v.ks v.hs v.cl v.lf v.bag, v.wt, n, v.len, v.ks, v.hs, v.Sk, v.Sh, v.kw, v.hw⟩
/-- what is fixed stays -/
abbrev Keep (t : Adr) (H H' : Hp) : Prop := ∀ x o, H x = some o → Fx t o → H' x = some o
theorem Keep.trans {t : Adr} {H H1 H2 : Hp} (a : Keep t H H1) (b : Keep t H1 H2) : Keep t H H2 := fun x o e f => b x o (a x o e f) f
theorem Keep.of {t : Adr} {H H' : Hp} (s : Same H H') : Keep t H H' := fun x o e _ => s x o e
theorem nf_lst {t : Adr} {xs : List V} : ¬ Fx t (.lst xs) := by rintro (⟨_, z⟩ | ⟨_, _, _, _, _, z⟩) <;> cases z
theorem nf_dK {t : Adr} {xs : List (Key × V)} : ¬ Fx t (.dK xs) := by rintro (⟨_, z⟩ | ⟨_, _, _, _, _, z⟩) <;> cases z
theorem Keep.upd {t : Adr} {H : Hp} {a : Addr} {o0 o : HO} (h : H a = some o0) (nf : ¬ Fx t o0) : Keep t H (upd H a o) := fun x o' e f => by
  rw [upd_ne fun y => ?_]
  · exact e
  · rw [y, h] at e
    cases e
    exact nf f
structure Apart (A : TAd) : Prop where
  tc : A.tw ≠ A.cl
  tb : A.tw ≠ A.bg
  tk : A.tw ≠ A.kl
  th : A.tw ≠ A.hl
  cb : A.cl ≠ A.bg
  ck : A.cl ≠ A.kl
  ch : A.cl ≠ A.hl
  bk : A.bg ≠ A.kl
  bh : A.bg ≠ A.hl
  kh : A.kl ≠ A.hl
section
variable {t : Adr} {A : TAd} {ks hs ks' hs' : List Addr} {cl cl' : List Int} {lf lf' : Int} {bag bag' : List (Addr × Msg)} {H H' : Hp} {o0 : HO}
theorem TAt.putBg (a : TAt A ks hs cl lf bag H) (d : Apart A) (hm : ∀ p, p ∈ bag' → MsgAt H p.1 p.2) (hb : H A.bg = some o0) (nf : ¬ Fx t o0) : TAt A ks hs cl lf bag' (upd H A.bg (.lst (bag'.map fun p => V.ref p.1))) :=
  ⟨by rw [upd_ne d.tb]; exact a.tw, by rw [upd_ne d.cb]; exact a.cl, upd_same, by rw [upd_ne d.bk.symm]; exact a.kl, by rw [upd_ne d.bh.symm]; exact a.hl, fun p hp => (hm p hp).keep (Keep.upd (t := t) hb nf)⟩
theorem TAt.putCl (t : Adr) (a : TAt A ks hs cl lf bag H) (d : Apart A) : TAt A ks hs cl' lf bag (upd H A.cl (.lst (cl'.map V.int))) :=
  ⟨by rw [upd_ne d.tc]; exact a.tw, upd_same, by rw [upd_ne d.cb.symm]; exact a.bg, by rw [upd_ne d.ck.symm]; exact a.kl, by rw [upd_ne d.ch.symm]; exact a.hl, fun p hp => (a.ms p hp).keep (Keep.upd (t := t) a.cl nf_lst)⟩
theorem TAt.putKl (t : Adr) (a : TAt A ks hs cl lf bag H) (d : Apart A) : TAt A ks' hs cl lf bag (upd H A.kl (.lst (ks'.map V.ref))) :=
  ⟨by rw [upd_ne d.tk]; exact a.tw, by rw [upd_ne d.ck]; exact a.cl, by rw [upd_ne d.bk]; exact a.bg, upd_same, by rw [upd_ne d.kh.symm]; exact a.hl, fun p hp => (a.ms p hp).keep (Keep.upd (t := t) a.kl nf_lst)⟩
theorem TAt.putHl (t : Adr) (a : TAt A ks hs cl lf bag H) (d : Apart A) : TAt A ks hs' cl lf bag (upd H A.hl (.lst (hs'.map V.ref))) :=
  ⟨by rw [upd_ne d.th]; exact a.tw, by rw [upd_ne d.ch]; exact a.cl, by rw [upd_ne d.bh]; exact a.bg, by rw [upd_ne d.kh]; exact a.kl, upd_same, fun p hp => (a.ms p hp).keep (Keep.upd (t := t) a.hl nf_lst)⟩
theorem TAt.putLf (t : Adr) (a : TAt A ks hs cl lf bag H) (d : Apart A) : TAt A ks hs cl lf' bag (upd H A.tw (.dK (townD A lf'))) :=
  ⟨upd_same, by rw [upd_ne d.tc.symm]; exact a.cl, by rw [upd_ne d.tb.symm]; exact a.bg, by rw [upd_ne d.tk.symm]; exact a.kl, by rw [upd_ne d.th.symm]; exact a.hl, fun p hp => (a.ms p hp).keep (Keep.upd (t := t) a.tw nf_dK)⟩
theorem TAt.same (t : Adr) (a : TAt A ks hs cl lf bag H) (s : Same H H') : TAt A ks hs cl lf bag H' := (TAt.foot (t := t)).frame H H' a (fun x o e _ => s x o e) fun x o e _ => s x o e
end
structure Tn (t : Adr) (H : Hp) (n : Int) (v : TV) : Prop where
  fm : Fm t H (v.f n)
  ap : Apart v.A
section
variable {t : Adr} {H H' : Hp} {n : Int} {v : TV} {S' : List Addr} {i : Nat} {p : Addr}
theorem Tn.at (F : Tn t H n v) : TAt v.A v.ks v.hs v.cl v.lf v.bag H := F.fm.th 1
theorem Tn.script (F : Tn t H n v) : v.Ta H := F.fm.th 0
theorem Tn.keeper (F : Tn t H n v) (e : v.ks[i]? = some p) : KAt t H p (v.Sk i) v.wt (v.kw i) := Fm.keeper (v := v.f n) F.fm e
theorem Tn.holder (F : Tn t H n v) (e : v.hs[i]? = some p) : HAt t H p (v.Sh i) n v.len (v.hw i) := Fm.holder (v := v.f n) F.fm e
theorem Tn.same (F : Tn t H n v) (s : Same H H') : Tn t H' n v := ⟨Fam.same F.fm s, F.ap⟩
theorem Tn.putK {k' : KW} (F : Tn t H n v) (e : v.ks[i]? = some p) (f : Fr H H' (v.Sk i) S') (h : KAt t H' p S' v.wt k') : Tn t H' n { v with Sk := atS v.Sk i S', kw := atS v.kw i k' } :=
  ⟨Fm.stepK (v := v.f n) F.fm e (fun _ _ => rfl) f h, F.ap⟩
theorem Tn.putH {h' : HW} (F : Tn t H n v) (e : v.hs[i]? = some p) (f : Fr H H' (v.Sh i) S') (h : HAt t H' p S' n v.len h') : Tn t H' n { v with Sh := atS v.Sh i S', hw := atS v.hw i h' } :=
  ⟨Fm.stepH (v := v.f n) F.fm e (fun _ _ => rfl) f h, F.ap⟩
theorem Tn.fxK (F : Tn t H n v) (f : Fr H H' (v.Sk i) S') : Keep t H H' := Fam.fx (i := 2 * i + 2) F.fm (by rw [FS_k]; exact f)
theorem Tn.fxH (F : Tn t H n v) (f : Fr H H' (v.Sh i) S') : Keep t H H' := Fam.fx (i := 2 * i + 1 + 2) F.fm (by rw [FS_h]; exact f)
theorem Tn.putT {cl : List Int} {lf : Int} {bag : List (Addr × Msg)} (F : Tn t H n v) (f : Fr H H' v.A.all v.A.all) (h : TAt v.A v.ks v.hs cl lf bag H') : Tn t H' n { v with cl := cl, lf := lf, bag := bag } :=
  ⟨Fm.put1 (v := v.f n) F.fm f TAt.foot h, F.ap⟩
theorem mem_all {A : TAd} : A.tw ∈ A.all ∧ A.cl ∈ A.all ∧ A.bg ∈ A.all ∧ A.kl ∈ A.all ∧ A.hl ∈ A.all := by simp [TAd.all]
/-- one of the town's own objects changes -/
theorem fr_town {A : TAd} {a : Addr} {o : HO} (ha : a ∈ A.all) : Fr H (upd H a o) A.all A.all := ⟨fun x o' e nx => by rw [upd_ne fun y => nx (by rw [y]; exact ha)]; exact e, fun x hx => .inl hx⟩
theorem Tn.putCl {cl : List Int} (F : Tn t H n v) : Tn t (upd H v.A.cl (.lst (cl.map V.int))) n { v with cl := cl } ∧ Keep t H (upd H v.A.cl (.lst (cl.map V.int))) :=
  ⟨F.putT (fr_town mem_all.2.1) (F.at.putCl t F.ap), Keep.upd F.at.cl nf_lst⟩
/-- a message more -/
theorem Tn.append {pr : Addr} {xs : List V} {m : Msg} (F : Tn t H n v) (hpr : H pr = none) (hm : ∀ H', H' pr = some (.tup xs) → Keep t H H' → MsgAt H' pr m) :
    Tn t (upd (upd H pr (.tup xs)) v.A.bg (.lst ((v.bag.map fun p => V.ref p.1) ++ [.ref pr]))) n { v with bag := v.bag ++ [(pr, m)] } ∧ Keep t H (upd (upd H pr (.tup xs)) v.A.bg (.lst ((v.bag.map fun p => V.ref p.1) ++ [.ref pr]))) := by
  have s := same_upd (o := .tup xs) hpr
  have F1 := F.same s
  have e : (v.bag.map fun p => V.ref p.1) ++ [V.ref pr] = (v.bag ++ [(pr, m)]).map fun p => V.ref p.1 := by rw [List.map_append]; rfl
  rw [e]
  refine ⟨F1.putT (fr_town mem_all.2.2.1) (F1.at.putBg (t := t) F1.ap (fun p hp => ?_) F1.at.bg nf_lst), (Keep.of s).trans (Keep.upd F1.at.bg nf_lst)⟩
  rcases List.mem_append.mp hp with z | z
  · exact F1.at.ms p z
  · rw [List.mem_singleton.mp z]
    exact hm _ upd_same (Keep.of s)
theorem erase_map {α β : Type} {f : α → β} : ∀ (l : List α) (J : Nat), (l.map f).eraseIdx J = (l.eraseIdx J).map f
  | [], _ => rfl
  | x :: l, 0 => rfl
  | x :: l, J + 1 => by
    show f x :: (l.map f).eraseIdx J = f x :: (l.eraseIdx J).map f
    rw [erase_map l J]
/-- a message less -/
theorem Tn.erase {J : Nat} (F : Tn t H n v) : Tn t (upd H v.A.bg (.lst ((v.bag.map fun p => V.ref p.1).eraseIdx J))) n { v with bag := v.bag.eraseIdx J } ∧ Keep t H (upd H v.A.bg (.lst ((v.bag.map fun p => V.ref p.1).eraseIdx J))) := by
  have e : (v.bag.map fun p => V.ref p.1).eraseIdx J = (v.bag.eraseIdx J).map fun p => V.ref p.1 := erase_map _ _
  rw [e]
  exact ⟨F.putT (fr_town mem_all.2.2.1) (F.at.putBg (t := t) F.ap (fun p hp => F.at.ms p (List.mem_of_mem_eraseIdx hp)) F.at.bg nf_lst), Keep.upd F.at.bg nf_lst⟩
/-- a keeper anew -/
theorem Tn.setK {k' : KW} (F : Tn t H n v) (hi : i < v.ks.length) (s : Same H H') (fS : ∀ x, x ∈ S' → H x = none) (h : KAt t H' p S' v.wt k') :
    Tn t (upd H' v.A.kl (.lst ((v.ks.map V.ref).set i (.ref p)))) n { v with ks := v.ks.set i p, Sk := atS v.Sk i S', kw := atS v.kw i k' } ∧ Keep t H (upd H' v.A.kl (.lst ((v.ks.map V.ref).set i (.ref p)))) := by
  rw [← List.map_set]
  have a1 := F.at.same t s
  have F1 := Fm.stepK (v := v.f n) (ks' := v.ks.set i p) F.fm (by rw [List.getElem?_set, if_pos rfl, if_pos hi]) (fun j hj => by rw [List.getElem?_set, if_neg fun y => hj y.symm]; rfl) (⟨fun x o e _ => s x o e, fun x hx => .inr (fS x hx)⟩ : Fr H H' (v.Sk i) S') h
  exact ⟨⟨Fm.put1 (S' := v.A.all) F1 (fr_town mem_all.2.2.2.1) TAt.foot (a1.putKl t F.ap), F.ap⟩, (Keep.of s).trans (Keep.upd a1.kl nf_lst)⟩
/-- a holder anew -/
theorem Tn.setH {h' : HW} (F : Tn t H n v) (hi : i < v.hs.length) (s : Same H H') (fS : ∀ x, x ∈ S' → H x = none) (h : HAt t H' p S' n v.len h') :
    Tn t (upd H' v.A.hl (.lst ((v.hs.map V.ref).set i (.ref p)))) n { v with hs := v.hs.set i p, Sh := atS v.Sh i S', hw := atS v.hw i h' } ∧ Keep t H (upd H' v.A.hl (.lst ((v.hs.map V.ref).set i (.ref p)))) := by
  rw [← List.map_set]
  have a1 := F.at.same t s
  have F1 := Fm.stepH (v := v.f n) (hs' := v.hs.set i p) F.fm (by rw [List.getElem?_set, if_pos rfl, if_pos hi]) (fun j hj => by rw [List.getElem?_set, if_neg fun y => hj y.symm]; rfl) (⟨fun x o e _ => s x o e, fun x hx => .inr (fS x hx)⟩ : Fr H H' (v.Sh i) S') h
  exact ⟨⟨Fm.put1 (S' := v.A.all) F1 (fr_town mem_all.2.2.2.2) TAt.foot (a1.putHl t F.ap), F.ap⟩, (Keep.of s).trans (Keep.upd a1.hl nf_lst)⟩
theorem Tn.putLf {lf : Int} (F : Tn t H n v) : Tn t (upd H v.A.tw (.dK (townD v.A lf))) n { v with lf := lf } ∧ Keep t H (upd H v.A.tw (.dK (townD v.A lf))) :=
  ⟨F.putT (fr_town mem_all.1) (F.at.putLf t F.ap), Keep.upd F.at.tw nf_dK⟩
end
section
variable {t : Adr} {Q : VK} {E : XK} {H : Hp}
theorem out_int {i : Int} (h : Q (.int i) H) : Out t Q E H (.v (.int i)) := h
theorem out_non (h : Q .non H) : Out t Q E H (.v .non) := h
theorem out_pair {a b : Int} (h : ∀ r, H r = some (.tup [.int a, .int b]) → Q (.ref r) H) : Out t Q E H (.pair a b) := h
theorem outk_bl {b : Bool} (h : Q (.bl b) H) : OutK t Q E H (.bl b) := h
theorem outk_non (h : Q .non H) : OutK t Q E H .non := h
end
theorem at_refs {l : List Addr} {i : Nat} (h : i < l.length) : atI (l.map V.ref) (i : Int) = some (.ref l[i]) := by
  refine atI_nat ?_
  rw [List.getElem?_map, List.getElem?_eq_getElem h]
  rfl
section
variable {H H' : Hp} {S : List Addr}
theorem born {p dx C : Addr} (np : H p = none) (nd : H dx = none) (f : ∀ x o, upd (upd H dx (.own p)) p (.ins C dx []) x = some o → x ≠ p → H' x = some o) (fS : ∀ x, x ∈ S → x = p ∨ upd (upd H dx (.own p)) p (.ins C dx []) x = none) : Same H H' ∧ ∀ x, x ∈ S → H x = none := by
  refine ⟨fun x o e => f x o ?_ (ne_of_none e np), fun x hx => ?_⟩
  · rw [upd_ne (ne_of_none e np), upd_ne (ne_of_none e nd)]
    exact e
  · cases e : H x with
    | none => rfl
    | some o =>
      rcases fS x hx with y | y
      · rw [y, np] at e
        cases e
      · rw [upd_ne (ne_of_none e np), upd_ne (ne_of_none e nd), e] at y
        cases y
end
theorem fx_terms {t : Adr} {dx : Addr} {lo hi le ke : Int} : Fx t (.ins t.Terms dx (terms lo hi le ke)) := .inr ⟨dx, lo, hi, le, ke, rfl⟩
def TV.town (v : TV) (Hs : Nat → Hd) : Town := ⟨v.ks.length, v.hs.length, fun k => v.cl.getD k 0, fun x => v.cl.getD (v.ks.length + x) 0, fun k => kp (v.kw k), Hs, v.bag.map (·.2), v.lf⟩
structure Good (T : Tm) (N : Nat) (v : TV) : Prop where
  wt : v.wt = T.wait
  ln : v.len = T.len
  cl : v.cl.length = v.ks.length + v.hs.length
  kn : 1 ≤ v.ks.length ∧ v.ks.length ≤ 5
  hn : 2 ≤ v.hs.length ∧ v.hs.length ≤ 3
  sm : ∀ c, c ∈ v.cl → 0 ≤ c ∧ c ≤ 1000 + 400 * (N : Int)
  mn : ∀ x, x < v.hs.length → (v.hw x).many ≤ N
  bg : v.bag.length ≤ 10 * N
  safe : ∃ g Hs, (∀ x, x < v.hs.length → HRel v.ks.length (v.hw x) (Hs x)) ∧ Safe T (v.town Hs) g
abbrev TV.ck (v : TV) (k : Nat) : Int := v.cl.getD k 0
abbrev TV.ch (v : TV) (x : Nat) : Int := v.cl.getD (v.ks.length + x) 0
theorem kp_at {kw : Nat → KW} {i : Nat} {k' : KW} : (fun j => kp (atS kw i k' j)) = set1 (fun j => kp (kw j)) i (kp k') := by
  funext j
  by_cases e : j = i
  · subst e; rw [atS_same, set1_same]
  · rw [atS_ne e, set1_ne e]
theorem hrel_at {nk nh : Nat} {hw : Nat → HW} {Hs : Nat → Hd} {x : Nat} {h' : HW} {d' : Hd} (r : ∀ y, y < nh → HRel nk (hw y) (Hs y)) (r' : HRel nk h' d') : ∀ y, y < nh → HRel nk (atS hw x h' y) (set1 Hs x d' y) := fun y hy => by
  by_cases e : y = x
  · subst e; rw [atS_same, set1_same]; exact r'
  · rw [atS_ne e, set1_ne e]; exact r y hy
section
variable {T : Tm} {N : Nat} {v : TV} {k x : Nat} {a b : Int} {q r : Addr} {S' : List Addr}
theorem Good.mono {M : Nat} (G : Good T N v) (h : N ≤ M) : Good T M v := ⟨G.wt, G.ln, G.cl, G.kn, G.hn, fun c hc => by have := G.sm c hc; omega, fun x hx => by have := G.mn x hx; omega, by have := G.bg; omega, G.safe⟩
theorem getD_mem {l : List Int} {i : Nat} (h : i < l.length) : l.getD i 0 ∈ l := by
  rw [List.getD_eq_getElem?_getD, List.getElem?_eq_getElem h]
  exact List.getElem_mem h
theorem Good.small {j : Nat} (G : Good T N v) (hj : j < v.cl.length) (hN : N ≤ 10000) : -(2 ^ 62) < v.cl.getD j 0 ∧ v.cl.getD j 0 < 2 ^ 62 := by
  have := G.sm _ (getD_mem hj)
  omega
theorem Good.kc (G : Good T N v) (hk : k < v.ks.length) : ¬ v.ck k < (v.kw k).c := by
  obtain ⟨g, Hs, r, S⟩ := G.safe
  have := S.kc k hk
  have e : (kp (v.kw k)).clock = (v.kw k).c := rfl
  show ¬ v.cl.getD k 0 < _
  have t : (kp (v.kw k)).clock ≤ v.cl.getD k 0 := this
  omega
theorem Good.hc (G : Good T N v) (hx : x < v.hs.length) : ¬ v.ch x < (v.hw x).c := by
  obtain ⟨g, Hs, r, S⟩ := G.safe
  have t : (Hs x).clock ≤ v.cl.getD (v.ks.length + x) 0 := S.hc x hx
  have := (r x hx).ck
  show ¬ v.cl.getD (v.ks.length + x) 0 < _
  omega
theorem Good.m0 (G : Good T N v) (hx : x < v.hs.length) : 0 ≤ (v.hw x).many := by
  obtain ⟨g, Hs, r, S⟩ := G.safe
  have t : 0 ≤ (Hs x).many := S.mn x hx
  rw [(r x hx).mn] at t
  exact t
/-- asked, it says no -/
theorem Good.no (G : Good T N v) (hk : k < v.ks.length) (hx : x < v.hs.length) (hn : nlt (a, b) ((v.hw x).life, (v.hw x).many)) (hb : (due (v.kw k) v.wt 0 (v.ck k) (x : Int) q a b).1 = .bl false) :
    Good T N { v with Sk := atS v.Sk k S', kw := atS v.kw k (due (v.kw k) v.wt 0 (v.ck k) (x : Int) q a b).2 } := by
  obtain ⟨g, Hs, rl, S⟩ := G.safe
  have hn' : nlt (a, b) ((Hs x).life, (Hs x).many) := by rw [(rl x hx).lf, (rl x hx).mn]; exact hn
  obtain ⟨g', S1⟩ := S.asked (k := k) (x := x) hk hx hn'
  obtain ⟨e1, e2⟩ := kp_asked (wt := v.wt) (name := (x : Int)) (a := a) (b := b) (q := q) (G.kc hk)
  have ey : (kp (v.kw k)).says (v.ck k) (x : Int) (a, b) = false := by rw [e1] at hb; injection hb
  refine ⟨G.wt, G.ln, G.cl, G.kn, G.hn, G.sm, G.mn, G.bg, g', Hs, rl, ?_⟩
  have S1 : Safe T { v.town Hs with K := set1 (fun k => kp (v.kw k)) k ((kp (v.kw k)).asked T.wait (v.ck k) (x : Int) (a, b)), bag := if (kp (v.kw k)).says (v.ck k) (x : Int) (a, b) = true then (v.town Hs).bag ++ [Msg.lets k x (a, b)] else (v.town Hs).bag } g' := S1
  rw [ey, if_neg (by decide), ← G.wt, ← e2, ← kp_at] at S1
  exact S1
/-- asked, it says yes: a message more -/
theorem Good.yes (G : Good T N v) (hk : k < v.ks.length) (hx : x < v.hs.length) (hn : nlt (a, b) ((v.hw x).life, (v.hw x).many)) (hb : (due (v.kw k) v.wt 0 (v.ck k) (x : Int) q a b).1 = .bl true) :
    Good T (N + 1) { v with Sk := atS v.Sk k S', kw := atS v.kw k (due (v.kw k) v.wt 0 (v.ck k) (x : Int) q a b).2, bag := v.bag ++ [(r, .lets k x (a, b))] } := by
  obtain ⟨g, Hs, rl, S⟩ := G.safe
  have hn' : nlt (a, b) ((Hs x).life, (Hs x).many) := by rw [(rl x hx).lf, (rl x hx).mn]; exact hn
  obtain ⟨g', S1⟩ := S.asked (k := k) (x := x) hk hx hn'
  obtain ⟨e1, e2⟩ := kp_asked (wt := v.wt) (name := (x : Int)) (a := a) (b := b) (q := q) (G.kc hk)
  have ey : (kp (v.kw k)).says (v.ck k) (x : Int) (a, b) = true := by rw [e1] at hb; injection hb
  refine ⟨G.wt, G.ln, G.cl, G.kn, G.hn, fun c hc => by have := G.sm c hc; omega, fun x hx => by have := G.mn x hx; dsimp only; omega, by have := G.bg; rw [List.length_append, List.length_singleton]; omega, g', Hs, rl, ?_⟩
  have S1 : Safe T { v.town Hs with K := set1 (fun k => kp (v.kw k)) k ((kp (v.kw k)).asked T.wait (v.ck k) (x : Int) (a, b)), bag := if (kp (v.kw k)).says (v.ck k) (x : Int) (a, b) = true then (v.town Hs).bag ++ [Msg.lets k x (a, b)] else (v.town Hs).bag } g' := S1
  rw [ey, if_pos rfl, ← G.wt, ← e2, ← kp_at] at S1
  unfold TV.town
  dsimp only
  rw [List.map_append]
  exact S1
theorem Good.sub {bag' : List (Addr × Msg)} (G : Good T N v) (h : ∀ p, p ∈ bag' → p ∈ v.bag) (hl : bag'.length ≤ v.bag.length) : Good T N { v with bag := bag' } := by
  obtain ⟨g, Hs, rl, S⟩ := G.safe
  refine ⟨G.wt, G.ln, G.cl, G.kn, G.hn, G.sm, G.mn, by have := G.bg; dsimp only; omega, g, Hs, rl, ?_⟩
  exact S.bagSub fun m hm => by
    obtain ⟨p, hp, rfl⟩ := List.mem_map.mp hm
    exact List.mem_map.mpr ⟨p, h p hp, rfl⟩
theorem Good.freed (G : Good T N v) (hm : (r, Msg.free k x (a, b)) ∈ v.bag) :
    k < v.ks.length ∧ x < v.hs.length ∧ Good T N { v with Sk := atS v.Sk k S', kw := atS v.kw k (due (v.kw k) v.wt 1 (v.ck k) (x : Int) q a b).2 } := by
  obtain ⟨g, Hs, rl, S⟩ := G.safe
  obtain ⟨hk, hx, _, hp⟩ := S.bg (.free k x (a, b)) (List.mem_map.mpr ⟨_, hm, rfl⟩)
  obtain ⟨g', S1⟩ := S.freed (k := k) (x := x) hk hx hp
  obtain ⟨e1, e2⟩ := kp_freed (wt := v.wt) (name := (x : Int)) (a := a) (b := b) (q := q) (G.kc hk)
  refine ⟨hk, hx, G.wt, G.ln, G.cl, G.kn, G.hn, G.sm, G.mn, G.bg, g', Hs, rl, ?_⟩
  have S1 : Safe T { v.town Hs with K := set1 (fun k => kp (v.kw k)) k ((kp (v.kw k)).freed (v.ck k) (x : Int) (a, b)) } g' := S1
  rw [← e2, ← kp_at] at S1
  exact S1
theorem Good.asks (G : Good T N v) (hm : (r, Msg.ask k x (a, b)) ∈ v.bag) : k < v.ks.length ∧ x < v.hs.length ∧ nlt (a, b) ((v.hw x).life, (v.hw x).many) := by
  obtain ⟨g, Hs, rl, S⟩ := G.safe
  obtain ⟨hk, hx, hn⟩ := S.bg (.ask k x (a, b)) (List.mem_map.mpr ⟨_, hm, rfl⟩)
  have hx' : x < v.hs.length := hx
  refine ⟨hk, hx, ?_⟩
  rw [← (rl x hx').lf, ← (rl x hx').mn]
  exact hn
theorem Good.hear (G : Good T N v) (hm : (r, Msg.lets k x (a, b)) ∈ v.bag) :
    k < v.ks.length ∧ x < v.hs.length ∧ Good T N { v with Sh := atS v.Sh x S', hw := atS v.hw x (hdue (v.ks.length : Int) v.len (v.hw x) 1 (v.ch x) (k : Int) a b).2 } := by
  obtain ⟨g, Hs, rl, S⟩ := G.safe
  have mo := S.bg (.lets k x (a, b)) (List.mem_map.mpr ⟨_, hm, rfl⟩)
  obtain ⟨hk, hx, _⟩ := id mo
  have hk' : k < v.ks.length := hk
  have hx' : x < v.hs.length := hx
  have S1 := S.hear hx mo
  refine ⟨hk, hx, G.wt, G.ln, G.cl, G.kn, G.hn, G.sm, fun y hy => ?_, G.bg, g, set1 Hs x ((Hs x).hear T.len (v.ch x) k (a, b)), hrel_at rl (by rw [← G.ln]; exact (rl x hx').hear hk' rfl (G.hc hx')), S1⟩
  dsimp only
  by_cases e : y = x
  · subst e
    rw [atS_same, hdue_hear ⟨by omega, by omega⟩ (G.hc hx')]
    have := G.mn y hy
    dsimp only
    split <;> exact this
  · rw [atS_ne e]
    exact G.mn y hy
/-- asked, yes, and heard at once -/
theorem Good.askHear {S2 : List Addr} (G : Good T N v) (hk : k < v.ks.length) (hx : x < v.hs.length) (hn : nlt (a, b) ((v.hw x).life, (v.hw x).many)) (hb : (due (v.kw k) v.wt 0 (v.ck k) (x : Int) q a b).1 = .bl true) :
    Good T N { v with Sk := atS v.Sk k S', kw := atS v.kw k (due (v.kw k) v.wt 0 (v.ck k) (x : Int) q a b).2, Sh := atS v.Sh x S2, hw := atS v.hw x (hdue (v.ks.length : Int) v.len (v.hw x) 1 (v.ch x) (k : Int) a b).2 } := by
  have G1 := G.yes (S' := S') (r := q) hk hx hn hb
  obtain ⟨_, _, G2⟩ := G1.hear (S' := S2) (r := q) (k := k) (x := x) (a := a) (b := b) (List.mem_append_right _ (List.mem_singleton.mpr rfl))
  have G3 := G2.sub (bag' := v.bag) (fun p hp => List.mem_append_left _ hp) (by dsimp only; rw [List.length_append]; omega)
  refine ⟨G3.wt, G3.ln, G3.cl, G3.kn, G3.hn, G.sm, fun y hy => ?_, G.bg, G3.safe⟩
  dsimp only
  by_cases e : y = x
  · subst e
    rw [atS_same, hdue_hear ⟨by omega, by omega⟩ (G.hc hx)]
    have := G.mn y hy
    dsimp only
    split <;> exact this
  · rw [atS_ne e]
    exact G.mn y hy
theorem Good.ticks {cl' : List Int} {m : Nat} (G : Good T N v) (hm : (m : Int) * T.high ≤ 400) (hl : cl'.length = v.cl.length) (h : ∀ j, j < v.cl.length → v.cl.getD j 0 + (m : Int) * T.low ≤ cl'.getD j 0 ∧ cl'.getD j 0 ≤ v.cl.getD j 0 + (m : Int) * T.high) : Good T (N + 1) { v with cl := cl' } := by
  obtain ⟨g, Hs, rl, S⟩ := G.safe
  have h0 : 0 ≤ (m : Int) * T.low := Int.mul_nonneg (by omega) (by have := T.lo; omega)
  have gc := G.cl
  refine ⟨G.wt, G.ln, by dsimp only; omega, G.kn, G.hn, fun c hc => ?_, fun x hx => by have := G.mn x hx; dsimp only; omega, by have := G.bg; dsimp only; omega, g, Hs, rl, ?_⟩
  · dsimp only at hc
    obtain ⟨j, hj, rfl⟩ := List.mem_iff_getElem.mp hc
    have := h j (by omega)
    have e : cl'.getD j 0 = cl'[j] := by rw [List.getD_eq_getElem?_getD, List.getElem?_eq_getElem hj]; rfl
    have := G.sm _ (getD_mem (l := v.cl) (i := j) (by omega))
    omega
  · exact S.ticks m (fun k => cl'.getD k 0) (fun x => cl'.getD (v.ks.length + x) 0) (fun k hk => h k (by have : k < v.ks.length := hk; omega)) fun x hx => h _ (by have : x < v.hs.length := hx; omega)
theorem Good.ask {kk a b : Int} (G : Good T N v) (hx : x < v.hs.length) :
    Good T (N + 1) { v with Sh := atS v.Sh x S', hw := atS v.hw x (hdue (v.ks.length : Int) v.len (v.hw x) 0 (v.ch x) kk a b).2 } := by
  obtain ⟨g, Hs, rl, S⟩ := G.safe
  refine ⟨G.wt, G.ln, G.cl, G.kn, G.hn, fun c hc => by have := G.sm c hc; omega, fun y hy => ?_, by have := G.bg; dsimp only; omega, g, set1 Hs x ((Hs x).ask (v.ch x)), hrel_at rl ((rl x hx).ask (G.hc hx) (fun p hp => (S.ak x hx p hp).2) (G.m0 hx)), S.ask hx⟩
  have := G.mn y hy
  dsimp only
  by_cases e : y = x
  · subst e
    rw [atS_same, hdue_ask (G.hc hx)]
    dsimp only
    omega
  · rw [atS_ne e]
    omega
theorem Good.seen (G : Good T N v) (hx : x < v.hs.length) : Good T N { v with Sh := atS v.Sh x S', hw := atS v.hw x { v.hw x with c := v.ch x } } := by
  obtain ⟨g, Hs, rl, S⟩ := G.safe
  refine ⟨G.wt, G.ln, G.cl, G.kn, G.hn, G.sm, fun y hy => ?_, G.bg, g, set1 Hs x ((Hs x).seen (v.ch x)), hrel_at rl ((rl x hx).seen (G.hc hx)), S.seen hx⟩
  have := G.mn y hy
  dsimp only
  by_cases e : y = x
  · subst e
    rw [atS_same]
    exact this
  · rw [atS_ne e]
    exact this
theorem Good.free {kk a b : Int} (G : Good T N v) (hx : x < v.hs.length) (hm : ¬ (v.hw x).many = 0) :
    Good T N { v with Sh := atS v.Sh x S', hw := atS v.hw x (hdue (v.ks.length : Int) v.len (v.hw x) 4 (v.ch x) kk a b).2 } := by
  obtain ⟨g, Hs, rl, S⟩ := G.safe
  have hf := (rl x hx).fs
  have hc := G.hc hx
  refine ⟨G.wt, G.ln, G.cl, G.kn, G.hn, G.sm, fun y hy => ?_, G.bg, g, set1 Hs x ((Hs x).free (v.hw x).first (v.ch x)), hrel_at rl ((rl x hx).free (G.hc hx) hm rfl), S.free hx (by show (v.hw x).first ≤ v.ch x; omega)⟩
  have := G.mn y hy
  dsimp only
  by_cases e : y = x
  · subst e
    rw [atS_same, hdue_free hc hm]
    exact this
  · rw [atS_ne e]
    exact this
theorem Good.addAsk {M : Nat} {n : Num} (G : Good T N v) (hM : N ≤ M) (hb : v.bag.length + 1 ≤ 10 * M) (hk : k < v.ks.length) (hx : x < v.hs.length) (hn : nlt n ((v.hw x).life, (v.hw x).many)) : Good T M { v with bag := v.bag ++ [(r, .ask k x n)] } := by
  obtain ⟨g, Hs, rl, S⟩ := G.safe
  have G' := G.mono hM
  refine ⟨G.wt, G.ln, G.cl, G.kn, G.hn, G'.sm, G'.mn, by dsimp only; rw [List.length_append]; exact hb, g, Hs, rl, ?_⟩
  have S1 := S.add (m := .ask k x n) ⟨hk, hx, by show nlt n ((Hs x).life, (Hs x).many); rw [(rl x hx).lf, (rl x hx).mn]; exact hn⟩
  unfold TV.town
  dsimp only
  rw [List.map_append]
  exact S1
theorem Good.addFree {M : Nat} {n : Num} (G : Good T N v) (hM : N ≤ M) (hb : v.bag.length + 1 ≤ 10 * M) (hk : k < v.ks.length) (hx : x < v.hs.length) (hn : nlt n ((v.hw x).life, (v.hw x).many)) (ha : ∀ a b, (v.hw x).asks a b = none) : Good T M { v with bag := v.bag ++ [(r, .free k x n)] } := by
  obtain ⟨g, Hs, rl, S⟩ := G.safe
  have G' := G.mono hM
  refine ⟨G.wt, G.ln, G.cl, G.kn, G.hn, G'.sm, G'.mn, by dsimp only; rw [List.length_append]; exact hb, g, Hs, rl, ?_⟩
  have S1 := S.add (m := .free k x n) ⟨hk, hx, by show nlt n ((Hs x).life, (Hs x).many); rw [(rl x hx).lf, (rl x hx).mn]; exact hn, fun p hp => by
    have e := (rl x hx).ak p.1.1 p.1.2
    rw [ha] at e
    have e2 : (Hs x).asks.find? (fun y => decide (y.1 = (p.1.1, p.1.2))) = none := by
      cases e3 : (Hs x).asks.find? (fun y => decide (y.1 = (p.1.1, p.1.2))) with
      | none => rfl
      | some y => rw [e3] at e; cases e
    exact absurd (decide_eq_true rfl) (List.find?_eq_none.mp e2 p hp)⟩
  unfold TV.town
  dsimp only
  rw [List.map_append]
  exact S1
theorem Good.anewK {p : Addr} (G : Good T N v) (hk : k < v.ks.length) : Good T N { v with ks := v.ks.set k p, Sk := atS v.Sk k S', kw := atS v.kw k ⟨v.ck k, v.ck k + v.wt, none⟩ } := by
  obtain ⟨g, Hs, rl, S⟩ := G.safe
  obtain ⟨g', S1⟩ := S.anewK (k := k) hk
  have el : (v.ks.set k p).length = v.ks.length := List.length_set
  refine ⟨G.wt, G.ln, by dsimp only; rw [el]; exact G.cl, by dsimp only; rw [el]; exact G.kn, G.hn, G.sm, G.mn, G.bg, g', Hs, by dsimp only; rw [el]; exact rl, ?_⟩
  have S1 : Safe T { v.town Hs with K := set1 (fun k => kp (v.kw k)) k (Kp.new T.wait (v.ck k)) } g' := S1
  rw [← G.wt, ← kp_new, ← kp_at] at S1
  unfold TV.town
  dsimp only
  rw [el]
  exact S1
theorem Good.anewH {p : Addr} (G : Good T N v) (hx : x < v.hs.length) : Good T N { v with hs := v.hs.set x p, lf := v.lf + 1, Sh := atS v.Sh x S', hw := atS v.hw x ⟨v.ch x, v.ch x, v.lf + 1, 0, fun _ _ => none, List.replicate v.ks.length (v.ch x)⟩ } := by
  obtain ⟨g, Hs, rl, S⟩ := G.safe
  have S1 := S.anewH (x := x) hx
  have el : (v.hs.set x p).length = v.hs.length := List.length_set
  refine ⟨G.wt, G.ln, by dsimp only; rw [el]; exact G.cl, G.kn, by dsimp only; rw [el]; exact G.hn, G.sm, fun y hy => ?_, G.bg, g, set1 Hs x (Hd.new (v.lf + 1) (v.ch x)), by dsimp only; rw [el]; exact hrel_at rl HRel.new, ?_⟩
  · dsimp only at hy ⊢
    rw [el] at hy
    have := G.mn y hy
    by_cases e : y = x
    · subst e
      rw [atS_same]
      dsimp only
      omega
    · rw [atS_ne e]
      exact this
  · unfold TV.town
    dsimp only
    rw [el]
    exact S1
theorem Good.one {y : Nat} (G : Good T N v) (hx : x < v.hs.length) (hy : y < v.hs.length) (h1 : holdsB (v.ks.length : Int) (v.hw x) (v.ch x) = true) (h2 : holdsB (v.ks.length : Int) (v.hw y) (v.ch y) = true) : x = y := by
  obtain ⟨g, Hs, rl, S⟩ := G.safe
  rw [(rl x hx).holds rfl] at h1
  rw [(rl y hy).holds rfl] at h2
  exact S.one hx hy h1 h2
/-- who holds has asked -/
theorem Good.held (G : Good T N v) (hx : x < v.hs.length) (h : holdsB (v.ks.length : Int) (v.hw x) (v.ch x) = true) : ¬ (v.hw x).many = 0 := fun hm => by
  obtain ⟨g, Hs, rl, S⟩ := G.safe
  have e := ((rl x hx).nw hm).2
  have hc := G.hc hx
  have h := of_decide_eq_true h
  have : goodE (v.hw x) (v.ch x) = [] := by
    unfold goodE
    rw [List.filter_eq_nil_iff]
    intro y hy z
    have := e y hy
    have := of_decide_eq_true z
    omega
  rw [this] at h
  have z : ((([] : List Int).length : Nat) : Int) = 0 := rfl
  rw [z] at h
  omega
theorem Good.kl (G : Good T N v) (hk : k < v.ks.length) : k < v.cl.length := by have := G.cl; omega
theorem Good.hl (G : Good T N v) (hx : x < v.hs.length) : v.ks.length + x < v.cl.length := by have := G.cl; omega
theorem Good.sk (G : Good T N v) (hk : k < v.ks.length) (hN : N ≤ 900) : Small (v.cl.getD k 0) := G.small (G.kl hk) (by omega)
theorem Good.sh (G : Good T N v) (hx : x < v.hs.length) (hN : N ≤ 900) : Small (v.cl.getD (v.ks.length + x) 0) := G.small (G.hl hx) (by omega)
theorem Good.few (G : Good T N v) (hx : x < v.hs.length) (hN : N ≤ 900) : (v.hw x).many < 1000 := by have := G.mn x hx; omega
theorem Good.n1 {n : Int} (G : Good T N v) (hn : (v.ks.length : Int) = n) : 1 ≤ n := by have := G.kn; omega
theorem Good.n5 {n : Int} (G : Good T N v) (hn : (v.ks.length : Int) = n) : n ≤ 5 := by have := G.kn; omega
theorem Good.at_ (G : Good T N v) (hk : k < v.ks.length) : Small (k : Int) := by have := G.kn; exact ⟨by omega, by omega⟩
end
inductive P_sp_law_ticks (K : PySem.W.Frag) (t : Adr) (vs : List V) (H : Hp) (Q : VK) (E : XK) : Prop
  | mk (a tp : Addr) (ns : List Int) (k lo hi le ke n : Int) (m N : Nat) (T : Tm) (v : TV) (h0_ : vs = [.ref a, .int k, .ref tp, .ref v.A.cl, .int (m : Int)]) (h1_ : Tn t H n v) (h2_ : Good T N v) (h3_ : (∀ H', v.Ta H' → SqL K H' a (ns.map V.int))) (h4_ : H tp = some (.tup [.int lo, .int hi, .int le, .int ke])) (h5_ : Drawn lo hi le ke) (h6_ : T.low = lo) (h7_ : T.high = hi) (h8_ : m ≤ 61) (h9_ : ∀ H' cl', Tn t H' n { v with cl := cl' } → Good T (N + 1) { v with cl := cl' } → cl'.length = v.cl.length → Keep t H H' → Q .non H') : P_sp_law_ticks K t vs H Q E
def sp_law_ticks (K : PySem.W.Frag) (t : Adr) : Sp := fun vs H Q E => P_sp_law_ticks K t vs H Q E
theorem getD_set_int {l : List Int} {i j : Nat} {x : Int} (h : i < l.length) : (l.set i x).getD j 0 = if j = i then x else l.getD j 0 := by
  rw [List.getD_eq_getElem?_getD, List.getElem?_set, List.getD_eq_getElem?_getD]
  by_cases e : i = j
  · subst e
    rw [if_pos rfl, if_pos h, if_pos rfl]
    rfl
  · rw [if_neg e, if_neg fun y => e y.symm]
theorem at_ints {l : List Int} {i : Nat} (h : i < l.length) : atI (l.map V.int) (i : Int) = some (.int (l.getD i 0)) := by
  refine atI_nat ?_
  rw [List.getElem?_map, List.getElem?_eq_getElem h, List.getD_eq_getElem?_getD, List.getElem?_eq_getElem h]
  rfl
theorem ix_nat {n i : Nat} (h : i < n) : ixN n (i : Int) = some i := by
  unfold ixN
  rw [if_pos (by omega), if_pos (by omega)]
  rfl
section
variable {P : Program} {w : World} {K : PySem.W.Frag} {mg : Str → Option Value} {base : Heap} {t : Adr}
theorem ok_law_ticks (T : Txt K mg t) : FnOk P w K mg base CX0 3 t.f_law_ticks t.d_law_ticks ["_law_script", "_law_k", "_law_terms_here", "_law_clocks", "_law_many"] (sp_law_ticks K t) := by
  refine T.F_law_ticks.ok sc_law_ticks (fun vs H Q E h => ?_) (fun cdv A outer s H vs Q E hr h => ?_)
  · obtain ⟨a, tp, ns, k, lo, hi, le, ke, n, m, N, Tt, v, rfl, _⟩ := h
    rfl
  · obtain ⟨a, tp, ns, k, lo, hi, le, ke, n, m, N, Tt, v, rfl, F, G, sq, htp, dr, tl, th, hm, z⟩ := h
    have dl1 := dr.l1
    have dh1 := dr.h1
    have dh2 := dr.h2
    refine ⟨_, (jss_cons (js_set (i := 5) nc_bin sc_law_ticks.nd rfl lo_law_ticks__law_way (je_op jo_mod (je_call nm__law_mix lo_law_ticks__law_mix (ok_law_mix T) (hr.mono (by decide)) T.m_law_mix T.F_law_mix.kp T.b_law_mix pass0 sx_name (ns_cons sx_const ns_nil) (ja_cons sx_name (je_var (i := 0) nm__law_script lo_law_ticks__law_script rfl) (ja_cons sx_const je_int ja_nil))) je_int))
      (jss_one (js_for PassesOwn.never rfl (ji_range1 lo_law_ticks_range T.z_range sx_call (ja_cons sx_call (je_callB nm_len lo_law_ticks_len jc_len T.z_len bt_len sx_name ns_nil (ja_cons sx_name (je_var (i := 3) nm__law_clocks lo_law_ticks__law_clocks rfl) ja_nil)) ja_nil)) (jg_name (i := 6) sc_law_ticks.nd rfl lo_law_ticks__law_j) (jss_cons (js_set (i := 7) nc_bin sc_law_ticks.nd rfl lo_law_ticks__law_step (je_op jo_add (je_op jo_mul (je_var (i := 4) nm__law_many lo_law_ticks__law_many rfl) (je_ix jx_tup (je_var (i := 2) nm__law_terms_here lo_law_ticks__law_terms_here rfl) je_int (fun _ _ => rfl))) (je_op jo_mod (je_op jo_fdiv (je_call nm__law_mix lo_law_ticks__law_mix (ok_law_mix T) (hr.mono (by decide)) T.m_law_mix T.F_law_mix.kp T.b_law_mix pass0 sx_name (ns_cons sx_bin ns_nil) (ja_cons sx_name (je_var (i := 0) nm__law_script lo_law_ticks__law_script rfl) (ja_cons sx_bin (je_op jo_add (je_var (i := 1) nm__law_k lo_law_ticks__law_k rfl) (je_op jo_mul je_int (je_var (i := 6) nm__law_j lo_law_ticks__law_j rfl))) ja_nil))) je_int) (je_op jo_add (je_op jo_mul (je_var (i := 4) nm__law_many lo_law_ticks__law_many rfl) (je_op jo_sub (je_ix jx_tup (je_var (i := 2) nm__law_terms_here lo_law_ticks__law_terms_here rfl) je_int (fun _ _ => rfl)) (je_ix jx_tup (je_var (i := 2) nm__law_terms_here lo_law_ticks__law_terms_here rfl) je_int (fun _ _ => rfl)))) je_int))))
      (jss_cons (js_if (jt_cmp jo_gt (je_var (i := 5) nm__law_way lo_law_ticks__law_way rfl) je_int (by decide) (by decide)) (jss_one (js_set (i := 7) nc_bin sc_law_ticks.nd rfl lo_law_ticks__law_step (je_op jo_mul (je_var (i := 4) nm__law_many lo_law_ticks__law_many rfl) (je_ix jx_tup (je_var (i := 2) nm__law_terms_here lo_law_ticks__law_terms_here rfl) (je_callTy nm_int lo_law_ticks_int jc_int T.z_int bt_int sx_cmp ns_nil (ja_cons sx_cmp (je_cmp jo_eq (je_cmp jo_lt (je_var (i := 6) nm__law_j lo_law_ticks__law_j rfl) (je_ix jx_tup (je_var (i := 2) nm__law_terms_here lo_law_ticks__law_terms_here rfl) je_int (fun _ _ => rfl)) (by decide) (by decide)) (je_cmp jo_eq (je_var (i := 5) nm__law_way lo_law_ticks__law_way rfl) je_int (by decide) (by decide)) (by decide) (by decide)) ja_nil)) (fun _ _ => rfl))))) jss_nil)
      (jss_one (js_asg nc_bin (je_op jo_add (je_ix jx_list (je_var (i := 3) nm__law_clocks lo_law_ticks__law_clocks rfl) (je_var (i := 6) nm__law_j lo_law_ticks__law_j rfl) (fun _ _ => rfl)) (je_var (i := 7) nm__law_step lo_law_ticks__law_step rfl)) (jg_sub (je_var (i := 3) nm__law_clocks lo_law_ticks__law_clocks rfl) (je_var (i := 6) nm__law_j lo_law_ticks__law_j rfl) jp_list (fun _ => rfl)) rfl rfl)))) (fun _ => rfl)))).h, ?_⟩
    dsimp only [cxOf_K, L2.start, List.map_cons, List.map_nil, List.length_cons, List.length_nil, List.cons_append, List.nil_append, List.replicate]
    refine fix_s (by simp only [List.map_cons, List.map_nil, List.cons_append, List.nil_append, Nat.sub_self, List.replicate, List.append_nil]; exact rfl) ?_
    refine seq_step fun R k1 => ?_
    try dsimp only [Y0,Y1,Y2,Y3,Y4,Y5,Y6,Y7,Y8,Y9,Ya,Yb,Yc,Yd,Ye,Yf,Yg,Yh,Yi,Yj,Yk,Yl,Ym,Yn,Yo,Yp,Yq,Yr,Ys,Yt,Yu,Yv,Yw,Yx,Yy,Yz,Z0,Z1,Z2,Z3,Z4,Z5,Z6,Z7,Z8,Z9,Za,Zb,Zc,Zd,Ze,Zf,Zg,Zh,Zi,Zj,Zk,Zl,Zm,Zn,Zo,Zp,Zq,Zr,Zs,Zt,Zu,Zv,Zw,Zx,Zy,Zz,V0,V1,V2]
    try simp only [V3,V4,V5,V6,V7,V8,V9,Va,Vb,Vc,Vd,Ve,Vf,Vg,Vh,Vi,Vj,V1,V2,Vk,Vl,reduceCtorEq,Vn,Vo,Vp,Vq]
    refine mix_any (sq _ F.script) fun i13 => ?_
    try dsimp only [Y0,Y1,Y2,Y3,Y4,Y5,Y6,Y7,Y8,Y9,Ya,Yb,Yc,Yd,Ye,Yf,Yg,Yh,Yi,Yj,Yk,Yl,Ym,Yn,Yo,Yp,Yq,Yr,Ys,Yt,Yu,Yv,Yw,Yx,Yy,Yz,Z0,Z1,Z2,Z3,Z4,Z5,Z6,Z7,Z8,Z9,Za,Zb,Zc,Zd,Ze,Zf,Zg,Zh,Zi,Zj,Zk,Zl,Zm,Zn,Zo,Zp,Zq,Zr,Zs,Zt,Zu,Zv,Zw,Zx,Zy,Zz,V0,V1,V2]
    try simp only [V3,V4,V5,V6,V7,V8,V9,Va,Vb,Vc,Vd,Ve,Vf,Vg,Vh,Vi,Vj,V1,V2,Vk,Vl,reduceCtorEq,Vn,Vo,Vp,Vq]
    refine ⟨by decide, k1 _ _ ?_⟩
    clear k1 R
    have w0 := Int.emod_nonneg i13 (show (3 : Int) ≠ 0 by decide)
    have w1 := Int.emod_lt_of_pos i13 (show (0 : Int) < 3 by decide)
    generalize i13 % 3 = way at w0 w1 ⊢
    have gl := G.cl
    have gk := G.kn
    have gh := G.hn
    refine for_step fun B kB => ?_
    try dsimp only [iRng1,Y0,Y1,Y2,Y3,Y4,Y5,Y6,Y7,Y8,Y9,Ya,Yb,Yc,Yd,Ye,Yf,Yg,Yh,Yi,Yj,Yk,Yl,Ym,Yn,Yo,Yp,Yq,Yr,Ys,Yt,Yu,Yv,Yw,Yx,Yy,Yz,Z0,Z1,Z2,Z3,Z4,Z5,Z6,Z7,Z8,Z9,Za,Zb,Zc,Zd,Ze,Zf,Zg,Zh,Zi,Zj,Zk,Zl,Zm,Zn,Zo,Zp,Zq,Zr,Zs,Zt,Zu,Zv,Zw,Zx,Zy,Zz,V0,V1,V2]
    try simp only [V3,V4,V5,V6,V7,V8,V9,Va,Vb,Vc,Vd,Ve,Vf,Vg,Vh,Vi,Vj,V1,V2,Vk,Vl,reduceCtorEq,Vn,Vo,Vp,Vq]
    refine rd_lenL (SqL.of F.at.cl) ?_
    rw [List.length_map]
    refine ⟨_, rfl, by omega, by omega, kB _ _ ?_⟩
    clear kB B
    have mlo : (m : Int) * lo ≤ (m : Int) * hi := Int.mul_le_mul_of_nonneg_left dh1 (by omega)
    have mhi : (m : Int) * hi ≤ 61 * 5 := Int.mul_le_mul (by omega) dh2 (by omega) (by omega)
    have mlo0 : 0 ≤ (m : Int) * lo := Int.mul_nonneg (by omega) (by omega)
    have mdf : (m : Int) * (hi - lo) = (m : Int) * hi - (m : Int) * lo := Int.mul_sub _ _ _
    refine for_range (lo := 0) (fun i σ H6 => ∃ (cl' : List Int) (v6 v7 : Option V), σ = [some (.ref a), some (.int k), some (.ref tp), some (.ref v.A.cl), some (.int (m : Int)), some (.int way), v6, v7] ∧ Tn t H6 n { v with cl := cl' } ∧ cl'.length = v.cl.length ∧
      (∀ j, j < i → v.cl.getD j 0 + (m : Int) * lo ≤ cl'.getD j 0 ∧ cl'.getD j 0 ≤ v.cl.getD j 0 + (m : Int) * hi) ∧ (∀ j, i ≤ j → cl'.getD j 0 = v.cl.getD j 0) ∧ Keep t H H6) ?_ ?_ ?_
    · exact ⟨v.cl, _, _, rfl, F, rfl, fun j hj => by omega, fun _ _ => rfl, fun _ _ e _ => e⟩
    · rintro i σ H6 hi6 ⟨cl', v6, v7, rfl, F6, hl6, hb6, he6, kp6⟩
      have htp6 := kp6 _ _ htp fx_tup
      dsimp only [gName]
      -- the clock is set
      have fin : ∀ st : Int, (m : Int) * lo ≤ st → st ≤ (m : Int) * hi → ∀ (R : Hp → Prop), (∀ H7 cl2, Tn t H7 n { v with cl := cl2 } → cl2.length = v.cl.length → (∀ j, j < i + 1 → v.cl.getD j 0 + (m : Int) * lo ≤ cl2.getD j 0 ∧ cl2.getD j 0 ≤ v.cl.getD j 0 + (m : Int) * hi) → (∀ j, i + 1 ≤ j → cl2.getD j 0 = v.cl.getD j 0) → Keep t H H7 → R H7) →
          rIxL K (.ref v.A.cl) (.int (0 + (i : Int))) H6 fun x H7 => ∃ c, x = .int c ∧ rSetL (.ref v.A.cl) (.int (0 + (i : Int))) (.int (c + st)) H7 R := by
        intro st s1 s2 R hR
        have hlt : i < cl'.length := by omega
        have e0 := he6 i (Nat.le_refl _)
        rw [Int.zero_add]
        refine rd_ixL (SqL.of F6.at.cl) (at_ints hlt) ⟨_, rfl, _, _, _, i, rfl, rfl, F6.at.cl, ix_nat (by rw [List.length_map]; exact hlt), ?_⟩
        rw [← List.map_set]
        obtain ⟨F7, k7⟩ := F6.putCl (cl := cl'.set i (cl'.getD i 0 + st))
        refine hR _ (cl'.set i (cl'.getD i 0 + st)) F7 (by rw [List.length_set]; exact hl6) (fun j hj => ?_) (fun j hj => ?_) (kp6.trans k7)
        · rw [getD_set_int hlt]
          by_cases e : j = i
          · subst e
            rw [if_pos rfl, e0]
            omega
          · rw [if_neg e]
            exact hb6 j (by omega)
        · rw [getD_set_int hlt, if_neg (by omega)]
          exact he6 j (by omega)
      refine seq_step fun R k2 => ?_
      try dsimp only [Y0,Y1,Y2,Y3,Y4,Y5,Y6,Y7,Y8,Y9,Ya,Yb,Yc,Yd,Ye,Yf,Yg,Yh,Yi,Yj,Yk,Yl,Ym,Yn,Yo,Yp,Yq,Yr,Ys,Yt,Yu,Yv,Yw,Yx,Yy,Yz,Z0,Z1,Z2,Z3,Z4,Z5,Z6,Z7,Z8,Z9,Za,Zb,Zc,Zd,Ze,Zf,Zg,Zh,Zi,Zj,Zk,Zl,Zm,Zn,Zo,Zp,Zq,Zr,Zs,Zt,Zu,Zv,Zw,Zx,Zy,Zz,V0,V1,V2]
      try simp only [V3,V4,V5,V6,V7,V8,V9,Va,Vb,Vc,Vd,Ve,Vf,Vg,Vh,Vi,Vj,V1,V2,Vk,Vl,reduceCtorEq,Vn,Vo,Vp,Vq]
      refine rd_ixT (SqT.of htp6) (v := .int lo) rfl ⟨lo, rfl, .inl ⟨by omega, by omega⟩, .inl ⟨by decide, by decide⟩, mix_any (sq _ F6.script) fun i2 => ⟨i2, rfl, ⟨by decide, by decide⟩, rd_ixT (SqT.of htp6) (v := .int hi) rfl (rd_ixT (SqT.of htp6) (v := .int lo) rfl ⟨hi, rfl, lo, rfl, .inl ⟨by omega, by omega⟩, by omega, k2 _ _ ?_⟩)⟩⟩
      clear k2 R
      refine seq_step fun R k2 => ?_
      obtain ⟨st, hst⟩ : ∃ st, (m : Int) * lo + i2 / 4 % ((m : Int) * (hi - lo) + 1) = st := ⟨_, rfl⟩
      have st0 := Int.emod_nonneg (i2 / 4) (show (m : Int) * (hi - lo) + 1 ≠ 0 by omega)
      have st1 := Int.emod_lt_of_pos (i2 / 4) (show 0 < (m : Int) * (hi - lo) + 1 by omega)
      rw [hst]
      have s1 : (m : Int) * lo ≤ st := by omega
      have s2 : st ≤ (m : Int) * hi := by omega
      clear hst st0 st1
      have go : ∀ st : Int, (m : Int) * lo ≤ st → st ≤ (m : Int) * hi → R [some (.ref a), some (.int k), some (.ref tp), some (.ref v.A.cl), some (.int (m : Int)), some (.int way), some (.int (0 + (i : Int))), some (.int st)] H6 := by
        intro st s1 s2
        refine k2 _ _ ?_
        try dsimp only [gSub,Y0,Y1,Y2,Y3,Y4,Y5,Y6,Y7,Y8,Y9,Ya,Yb,Yc,Yd,Ye,Yf,Yg,Yh,Yi,Yj,Yk,Yl,Ym,Yn,Yo,Yp,Yq,Yr,Ys,Yt,Yu,Yv,Yw,Yx,Yy,Yz,Z0,Z1,Z2,Z3,Z4,Z5,Z6,Z7,Z8,Z9,Za,Zb,Zc,Zd,Ze,Zf,Zg,Zh,Zi,Zj,Zk,Zl,Zm,Zn,Zo,Zp,Zq,Zr,Zs,Zt,Zu,Zv,Zw,Zx,Zy,Zz,V0,V1,V2]
        try simp only [V3,V4,V5,V6,V7,V8,V9,Va,Vb,Vc,Vd,Ve,Vf,Vg,Vh,Vi,Vj,V1,V2,Vk,Vl,reduceCtorEq,Vn,Vo,Vp,Vq]
        exact fin st s1 s2 _ fun H7 cl2 a1 a2 a3 a4 a5 => ⟨cl2, _, _, ⟨rfl, rfl⟩, a1, a2, a3, a4, a5⟩
      clear k2
      try dsimp only [Y0,Y1,Y2,Y3,Y4,Y5,Y6,Y7,Y8,Y9,Ya,Yb,Yc,Yd,Ye,Yf,Yg,Yh,Yi,Yj,Yk,Yl,Ym,Yn,Yo,Yp,Yq,Yr,Ys,Yt,Yu,Yv,Yw,Yx,Yy,Yz,Z0,Z1,Z2,Z3,Z4,Z5,Z6,Z7,Z8,Z9,Za,Zb,Zc,Zd,Ze,Zf,Zg,Zh,Zi,Zj,Zk,Zl,Zm,Zn,Zo,Zp,Zq,Zr,Zs,Zt,Zu,Zv,Zw,Zx,Zy,Zz,V0,V1,V2]
      try simp only [V3,V4,V5,V6,V7,V8,V9,Va,Vb,Vc,Vd,Ve,Vf,Vg,Vh,Vi,Vj,V1,V2,Vk,Vl,reduceCtorEq,Vn,Vo,Vp,Vq]
      split
      · refine rd_ixT (SqT.of htp6) (v := .int ke) rfl ⟨ke, rfl, rd_intB ?_⟩
        cases decide (decide (0 + (i : Int) < ke) = decide (way = 1)) with
        | true => exact rd_ixT (SqT.of htp6) (v := .int hi) rfl ⟨hi, rfl, .inl ⟨by omega, by omega⟩, go _ mlo (Int.le_refl _)⟩
        | false => exact rd_ixT (SqT.of htp6) (v := .int lo) rfl ⟨lo, rfl, .inl ⟨by omega, by omega⟩, go _ (Int.le_refl _) mlo⟩
      · exact go st s1 s2
    · rintro σ H6 ⟨cl', v6, v7, rfl, F6, hl6, hb6, he6, kp6⟩
      refine z H6 cl' F6 (G.ticks (m := m) (by rw [th]; omega) hl6 fun j hj => ?_) hl6 kp6
      rw [tl, th]
      exact hb6 j hj
end
inductive P_sp_law_to_all (t : Adr) (vs : List V) (H : Hp) (Q : VK) (E : XK) : Prop
  | mk (kind : Str) (mk : Nat → Msg) (x : Nat) (q : Addr) (nu : Num) (n : Int) (N : Nat) (T : Tm) (v : TV) (h0_ : vs = [.ref v.A.tw, .str kind, .int (x : Int), .ref q]) (h1_ : Tn t H n v) (h2_ : Good T N v) (h3_ : N ≤ 1000) (h4_ : H q = some (.tup [.int nu.1, .int nu.2])) (h5_ : (∀ (H' : Hp) (r : Addr) (k : Nat), H' r = some (.tup (msgV kind k x q)) → H' q = some (.tup [.int nu.1, .int nu.2]) → MsgAt H' r (mk k))) (h6_ : (∀ (bag : List (Addr × Msg)) (r : Addr) (k : Nat), k < v.ks.length → bag.length + 1 ≤ 10 * (N + 1) → Good T (N + 1) { v with bag := bag } → Good T (N + 1) { v with bag := bag ++ [(r, mk k)] })) (h7_ : ∀ H' bag', Tn t H' n { v with bag := bag' } → Good T (N + 1) { v with bag := bag' } → Keep t H H' → Q .non H') : P_sp_law_to_all t vs H Q E
def sp_law_to_all (t : Adr) : Sp := fun vs H Q E => P_sp_law_to_all t vs H Q E
section
variable {P : Program} {w : World} {K : PySem.W.Frag} {mg : Str → Option Value} {base : Heap} {t : Adr}
theorem ok_law_to_all (T : Txt K mg t) : FnOk P w K mg base CX0 1 t.f_law_to_all t.d_law_to_all ["_law_town", "_law_kind", "_law_name", "_law_number"] (sp_law_to_all t) := by
  refine T.F_law_to_all.ok sc_law_to_all (fun vs H Q E h => ?_) (fun cdv A outer s H vs Q E hr h => ?_)
  · obtain ⟨kind, mk, x, q, nu, n, N, Tt, v, rfl, _⟩ := h
    rfl
  · obtain ⟨kind, mk, x, q, nu, n, N, Tt, v, rfl, F, G, hN, hq, hmk, add, z⟩ := h
    refine ⟨_, (jss_one (js_for PassesOwn.never rfl (ji_range1 lo_law_to_all_range T.z_range sx_call (ja_cons sx_call (je_callB nm_len lo_law_to_all_len jc_len T.z_len bt_len sx_sub ns_nil (ja_cons sx_sub (je_dget (hu_of hr) (je_var (i := 0) nm__law_town lo_law_to_all__law_town rfl) je_str (fun _ _ => rfl)) ja_nil)) ja_nil)) (jg_name (i := 4) sc_law_to_all.nd rfl lo_law_to_all__law_keeper) (jss_one (js_expr nc_call (je_append bs_sub rfl sx_tuple (je_dget (hu_of hr) (je_var (i := 0) nm__law_town lo_law_to_all__law_town rfl) je_str (fun _ _ => rfl)) (je_tup (ja_cons sx_name (je_var (i := 1) nm__law_kind lo_law_to_all__law_kind rfl) (ja_cons sx_name (je_var (i := 4) nm__law_keeper lo_law_to_all__law_keeper rfl) (ja_cons sx_name (je_var (i := 2) nm__law_name lo_law_to_all__law_name rfl) (ja_cons sx_name (je_var (i := 3) nm__law_number lo_law_to_all__law_number rfl) ja_nil)))))))) (fun _ => rfl))).h, ?_⟩
    dsimp only [cxOf_K, L2.start, List.map_cons, List.map_nil, List.length_cons, List.length_nil, List.cons_append, List.nil_append, List.replicate]
    refine fix_s (by simp only [List.map_cons, List.map_nil, List.cons_append, List.nil_append, Nat.sub_self, List.replicate, List.append_nil]; exact rfl) ?_
    have gk := G.kn
    refine for_step fun B kB => ?_
    try dsimp only [iRng1,Y0,Y1,Y2,Y3,Y4,Y5,Y6,Y7,Y8,Y9,Ya,Yb,Yc,Yd,Ye,Yf,Yg,Yh,Yi,Yj,Yk,Yl,Ym,Yn,Yo,Yp,Yq,Yr,Ys,Yt,Yu,Yv,Yw,Yx,Yy,Yz,Z0,Z1,Z2,Z3,Z4,Z5,Z6,Z7,Z8,Z9,Za,Zb,Zc,Zd,Ze,Zf,Zg,Zh,Zi,Zj,Zk,Zl,Zm,Zn,Zo,Zp,Zq,Zr,Zs,Zt,Zu,Zv,Zw,Zx,Zy,Zz,V0,V1,V2]
    try simp only [V3,V4,V5,V6,V7,V8,V9,Va,Vb,Vc,Vd,Ve,Vf,Vg,Vh,Vi,Vj,V1,V2,Vk,Vl,reduceCtorEq,Vn,Vo,Vp,Vq]
    refine rd_dgetS F.at.tw tw_keepers (rd_lenL (SqL.of F.at.kl) ?_)
    rw [List.length_map]
    refine ⟨_, rfl, by omega, by omega, kB _ _ ?_⟩
    clear kB B
    refine for_range (lo := 0) (fun i σ H6 => ∃ (bag : List (Addr × Msg)) (v4 : Option V), σ = [some (.ref v.A.tw), some (.str kind), some (.int (x : Int)), some (.ref q), v4] ∧ Tn t H6 n { v with bag := bag } ∧ Good Tt (N + 1) { v with bag := bag } ∧ bag.length ≤ 10 * N + i ∧ Keep t H H6) ?_ ?_ ?_
    · exact ⟨v.bag, _, rfl, F, G.mono (by omega), by have := G.bg; omega, fun _ _ e _ => e⟩
    · rintro i σ H6 hi6 ⟨bag, v4, rfl, F6, G6, hl6, kp6⟩
      have hq6 := kp6 _ _ hq fx_tup
      dsimp only [gName]
      have hik : i < v.ks.length := by omega
      try dsimp only [Y0,Y1,Y2,Y3,Y4,Y5,Y6,Y7,Y8,Y9,Ya,Yb,Yc,Yd,Ye,Yf,Yg,Yh,Yi,Yj,Yk,Yl,Ym,Yn,Yo,Yp,Yq,Yr,Ys,Yt,Yu,Yv,Yw,Yx,Yy,Yz,Z0,Z1,Z2,Z3,Z4,Z5,Z6,Z7,Z8,Z9,Za,Zb,Zc,Zd,Ze,Zf,Zg,Zh,Zi,Zj,Zk,Zl,Zm,Zn,Zo,Zp,Zq,Zr,Zs,Zt,Zu,Zv,Zw,Zx,Zy,Zz,V0,V1,V2]
      try simp only [V3,V4,V5,V6,V7,V8,V9,Va,Vb,Vc,Vd,Ve,Vf,Vg,Vh,Vi,Vj,V1,V2,Vk,Vl,reduceCtorEq,Vn,Vo,Vp,Vq]
      refine rd_dgetS F6.at.tw tw_bag ⟨ty_list F6.at.bg, by decide, fun pr hpr => ?_⟩
      rw [Int.zero_add]
      obtain ⟨F7, k7⟩ := F6.append (xs := msgV kind i x q) (m := mk i) hpr (fun H' e kp => hmk H' pr i e (kp _ _ hq6 fx_tup))
      refine ⟨_, _, _, rfl, rfl, same_upd hpr _ _ F6.at.bg, ?_, bag ++ [(pr, mk i)], F7, add bag pr i hik (by omega) G6, by rw [List.length_append, List.length_singleton]; omega, kp6.trans k7⟩
      have := sizeLine_eq
      rw [List.length_map]
      show bag.length < sizeLine
      omega
    · rintro σ H6 ⟨bag, v4, rfl, F6, G6, hl6, kp6⟩
      exact z H6 bag F6 G6 kp6
end
theorem filter_one {p : Nat → Bool} : ∀ {n : Nat}, (∀ x y, x < n → y < n → p x = true → p y = true → x = y) → ((List.range n).filter p).length ≤ 1
  | 0, _ => Nat.zero_le _
  | n + 1, h => by
    rw [List.range_succ, List.filter_append, List.length_append]
    have ih := filter_one (p := p) (n := n) fun x y hx hy => h x y (by omega) (by omega)
    by_cases e : p n = true
    · have : (List.range n).filter p = [] := by
        rw [List.filter_eq_nil_iff]
        intro x hx hp
        have := h x n (by have := List.mem_range.mp hx; omega) (by omega) hp e
        have := List.mem_range.mp hx
        omega
      rw [this, List.filter_cons_of_pos e]
      exact Nat.le_refl _
    · rw [List.filter_cons_of_neg e]
      exact ih
theorem filter_succ {p : Nat → Bool} {i : Nat} : ((List.range (i + 1)).filter p).length = ((List.range i).filter p).length + (if p i = true then 1 else 0) := by
  rw [List.range_succ, List.filter_append, List.length_append]
  cases e : p i <;> simp [e]
/-- what until tells lies ahead -/
theorem until_ahead {n : Int} {h : HW} {clock : Int} (hb : holdsB n h clock = true) (h1 : 1 ≤ n) : clock < (srt (goodE h clock)).getD ((goodE h clock).length - (n / 2).toNat - 1) 0 := by
  have hb := of_decide_eq_true hb
  have pm : (srt (goodE h clock)).Perm (goodE h clock) := List.mergeSort_perm _ _
  have hl : (goodE h clock).length - (n / 2).toNat - 1 < (srt (goodE h clock)).length := by rw [pm.length_eq]; omega
  rw [List.getD_eq_getElem?_getD, List.getElem?_eq_getElem hl]
  exact of_decide_eq_true (List.mem_filter.mp (pm.mem_iff.mp (List.getElem_mem hl))).2
def SeenOf (v : TV) (hw : Nat → HW) : Prop := ∀ x, (hw x).ends = (v.hw x).ends ∧ (hw x).many = (v.hw x).many ∧ (hw x).asks = (v.hw x).asks ∧ (hw x).life = (v.hw x).life
inductive P_sp_law_one (t : Adr) (vs : List V) (H : Hp) (Q : VK) (E : XK) : Prop
  | mk (n : Int) (N : Nat) (T : Tm) (v : TV) (h0_ : vs = [.ref v.A.tw]) (h1_ : Tn t H n v) (h2_ : Good T N v) (h3_ : (v.ks.length : Int) = n) (h4_ : N ≤ 900) (h5_ : Small v.len) (h6_ : ∀ H' Sh' hw', Tn t H' n { v with Sh := Sh', hw := hw' } → Good T N { v with Sh := Sh', hw := hw' } → SeenOf v hw' → Keep t H H' → Q (.bl true) H') : P_sp_law_one t vs H Q E
def sp_law_one (t : Adr) : Sp := fun vs H Q E => P_sp_law_one t vs H Q E
section
variable {P : Program} {w : World} {K : PySem.W.Frag} {mg : Str → Option Value} {base : Heap} {t : Adr}
theorem ok_law_one (T : Txt K mg t) : FnOk P w K mg base CX0 4 t.f_law_one t.d_law_one ["_law_town"] (sp_law_one t) := by
  refine T.F_law_one.ok sc_law_one (fun vs H Q E h => ?_) (fun cdv A outer s H vs Q E hr h => ?_)
  · obtain ⟨n, N, Tt, v, rfl, _⟩ := h
    rfl
  · obtain ⟨n, N, Tt, v, rfl, F, G, hn, hN, sl, z⟩ := h
    refine ⟨_, (jss_cons (js_set (i := 1) nc_call sc_law_one.nd rfl lo_law_one__law_many (je_callB nm_len lo_law_one_len jc_len T.z_len bt_len sx_sub ns_nil (ja_cons sx_sub (je_dget (hu_of hr) (je_var (i := 0) nm__law_town lo_law_one__law_town rfl) je_str (fun _ _ => rfl)) ja_nil)))
      (jss_cons (js_set (i := 2) nc_const sc_law_one.nd rfl lo_law_one__law_hold je_int)
      (jss_cons (js_for PassesOwn.never rfl (ji_range1 lo_law_one_range T.z_range sx_call (ja_cons sx_call (je_callB nm_len lo_law_one_len jc_len T.z_len bt_len sx_sub ns_nil (ja_cons sx_sub (je_dget (hu_of hr) (je_var (i := 0) nm__law_town lo_law_one__law_town rfl) je_str (fun _ _ => rfl)) ja_nil)) ja_nil)) (jg_name (i := 3) sc_law_one.nd rfl lo_law_one__law_name) (jss_cons (js_set (i := 4) nc_sub sc_law_one.nd rfl lo_law_one__law_clock (je_ix jx_list (je_dget (hu_of hr) (je_var (i := 0) nm__law_town lo_law_one__law_town rfl) je_str (fun _ _ => rfl)) (je_op jo_add (je_var (i := 1) nm__law_many lo_law_one__law_many rfl) (je_var (i := 3) nm__law_name lo_law_one__law_name rfl)) (fun _ _ => rfl)))
      (jss_cons (js_set (i := 5) nc_call sc_law_one.nd rfl lo_law_one__law_holds (je_meth bs_sub rfl (by decide) (je_ix jx_list (je_dget (hu_of hr) (je_var (i := 0) nm__law_town lo_law_one__law_town rfl) je_str (fun _ _ => rfl)) (je_var (i := 3) nm__law_name lo_law_one__law_name rfl) (fun _ _ => rfl)) T.cl_Holder T.h_Holder_holds (ok_Holder_holds T) (hr.mono (by decide)) T.b_Holder_holds passX sx_name ns_nil (ja_cons sx_name (je_var (i := 4) nm__law_clock lo_law_one__law_clock rfl) ja_nil)))
      (jss_cons (js_set (i := 6) nc_call sc_law_one.nd rfl lo_law_one__law_until (je_meth bs_sub rfl (by decide) (je_ix jx_list (je_dget (hu_of hr) (je_var (i := 0) nm__law_town lo_law_one__law_town rfl) je_str (fun _ _ => rfl)) (je_var (i := 3) nm__law_name lo_law_one__law_name rfl) (fun _ _ => rfl)) T.cl_Holder T.h_Holder_until (ok_Holder_until T) (hr.mono (by decide)) T.b_Holder_until passX sx_name ns_nil (ja_cons sx_name (je_var (i := 4) nm__law_clock lo_law_one__law_clock rfl) ja_nil)))
      (jss_cons (js_if (jt_bool (jw_or (jt_cmp jo_ne (je_var (i := 5) nm__law_holds lo_law_one__law_holds rfl) (je_notN (je_var (i := 6) nm__law_until lo_law_one__law_until rfl)) (by decide) (by decide)) (jw_or1 (jt_bool (jw_and (jt_notN (je_var (i := 6) nm__law_until lo_law_one__law_until rfl)) (jw_and1 (jt_cmp jo_le (je_var (i := 6) nm__law_until lo_law_one__law_until rfl) (je_var (i := 4) nm__law_clock lo_law_one__law_clock rfl) (by decide) (by decide)))))))) (jss_one (js_ret je_bl)) jss_nil)
      (jss_one (js_set (i := 2) nc_bin sc_law_one.nd rfl lo_law_one__law_hold (je_op jo_add (je_var (i := 2) nm__law_hold lo_law_one__law_hold rfl) (je_callTy nm_int lo_law_one_int jc_int T.z_int bt_int sx_name ns_nil (ja_cons sx_name (je_var (i := 5) nm__law_holds lo_law_one__law_holds rfl) ja_nil))))))))) (fun _ => rfl))
      (jss_one (js_ret (je_cmp jo_lt (je_var (i := 2) nm__law_hold lo_law_one__law_hold rfl) je_int (by decide) (by decide))))))).h, ?_⟩
    dsimp only [cxOf_K, L2.start, List.map_cons, List.map_nil, List.length_cons, List.length_nil, List.cons_append, List.nil_append, List.replicate]
    refine fix_s (by simp only [List.map_cons, List.map_nil, List.cons_append, List.nil_append, Nat.sub_self, List.replicate, List.append_nil]; exact rfl) ?_
    have gk := G.kn
    have gh := G.hn
    have gc := G.cl
    generalize hZ : tFor _ _ _ = Z
    refine seq_step fun R k => ?_
    try dsimp only [Y0,Y1,Y2,Y3,Y4,Y5,Y6,Y7,Y8,Y9,Ya,Yb,Yc,Yd,Ye,Yf,Yg,Yh,Yi,Yj,Yk,Yl,Ym,Yn,Yo,Yp,Yq,Yr,Ys,Yt,Yu,Yv,Yw,Yx,Yy,Yz,Z0,Z1,Z2,Z3,Z4,Z5,Z6,Z7,Z8,Z9,Za,Zb,Zc,Zd,Ze,Zf,Zg,Zh,Zi,Zj,Zk,Zl,Zm,Zn,Zo,Zp,Zq,Zr,Zs,Zt,Zu,Zv,Zw,Zx,Zy,Zz,V0,V1,V2]
    try simp only [V3,V4,V5,V6,V7,V8,V9,Va,Vb,Vc,Vd,Ve,Vf,Vg,Vh,Vi,Vj,V1,V2,Vk,Vl,reduceCtorEq,Vn,Vo,Vp,Vq]
    refine rd_dgetS F.at.tw tw_keepers (rd_lenL (SqL.of F.at.kl) ?_)
    rw [List.length_map]
    refine k _ _ ?_
    clear k R
    refine seq_step fun R k => ?_
    try dsimp only [Y0,Y1,Y2,Y3,Y4,Y5,Y6,Y7,Y8,Y9,Ya,Yb,Yc,Yd,Ye,Yf,Yg,Yh,Yi,Yj,Yk,Yl,Ym,Yn,Yo,Yp,Yq,Yr,Ys,Yt,Yu,Yv,Yw,Yx,Yy,Yz,Z0,Z1,Z2,Z3,Z4,Z5,Z6,Z7,Z8,Z9,Za,Zb,Zc,Zd,Ze,Zf,Zg,Zh,Zi,Zj,Zk,Zl,Zm,Zn,Zo,Zp,Zq,Zr,Zs,Zt,Zu,Zv,Zw,Zx,Zy,Zz,V0,V1,V2]
    try simp only [V3,V4,V5,V6,V7,V8,V9,Va,Vb,Vc,Vd,Ve,Vf,Vg,Vh,Vi,Vj,V1,V2,Vk,Vl,reduceCtorEq,Vn,Vo,Vp,Vq]
    refine k _ _ ?_
    clear k R
    refine seq_step fun R k => ?_
    subst hZ
    refine for_step fun B kB => ?_
    try dsimp only [iRng1,Y0,Y1,Y2,Y3,Y4,Y5,Y6,Y7,Y8,Y9,Ya,Yb,Yc,Yd,Ye,Yf,Yg,Yh,Yi,Yj,Yk,Yl,Ym,Yn,Yo,Yp,Yq,Yr,Ys,Yt,Yu,Yv,Yw,Yx,Yy,Yz,Z0,Z1,Z2,Z3,Z4,Z5,Z6,Z7,Z8,Z9,Za,Zb,Zc,Zd,Ze,Zf,Zg,Zh,Zi,Zj,Zk,Zl,Zm,Zn,Zo,Zp,Zq,Zr,Zs,Zt,Zu,Zv,Zw,Zx,Zy,Zz,V0,V1,V2]
    try simp only [V3,V4,V5,V6,V7,V8,V9,Va,Vb,Vc,Vd,Ve,Vf,Vg,Vh,Vi,Vj,V1,V2,Vk,Vl,reduceCtorEq,Vn,Vo,Vp,Vq]
    refine rd_dgetS F.at.tw tw_holders (rd_lenL (SqL.of F.at.hl) ?_)
    rw [List.length_map]
    refine ⟨_, rfl, by omega, by omega, kB _ _ ?_⟩
    clear kB B
    refine for_range (lo := 0) (fun i σ H6 => ∃ (Sh' : Nat → List Addr) (hw' : Nat → HW) (v3 v4 v5 v6 : Option V), σ = [some (.ref v.A.tw), some (.int (v.ks.length : Int)), some (.int (((List.range i).filter fun x => holdsB n (v.hw x) (v.ch x)).length : Int)), v3, v4, v5, v6] ∧ Tn t H6 n { v with Sh := Sh', hw := hw' } ∧ Good Tt N { v with Sh := Sh', hw := hw' } ∧
      SeenOf v hw' ∧ Keep t H H6) ?_ ?_ ?_
    · exact ⟨v.Sh, v.hw, _, _, _, _, rfl, F, G, fun _ => ⟨rfl, rfl, rfl, rfl⟩, fun _ _ e _ => e⟩
    · rintro i σ H6 hi6 ⟨Sh', hw', v3, v4, v5, v6, rfl, F6, G6, se6, kp6⟩
      clear k
      dsimp only [gName]
      have hih : i < v.hs.length := by omega
      have ehs : v.hs[i]? = some v.hs[i] := List.getElem?_eq_getElem hih
      have ix : atI (v.hs.map V.ref) (i : Int) = some (.ref v.hs[i]) := by
        refine atI_nat ?_
        rw [List.getElem?_map, ehs]
        rfl
      rw [Int.zero_add]
      refine seq_step fun R k => ?_
      try dsimp only [Y0,Y1,Y2,Y3,Y4,Y5,Y6,Y7,Y8,Y9,Ya,Yb,Yc,Yd,Ye,Yf,Yg,Yh,Yi,Yj,Yk,Yl,Ym,Yn,Yo,Yp,Yq,Yr,Ys,Yt,Yu,Yv,Yw,Yx,Yy,Yz,Z0,Z1,Z2,Z3,Z4,Z5,Z6,Z7,Z8,Z9,Za,Zb,Zc,Zd,Ze,Zf,Zg,Zh,Zi,Zj,Zk,Zl,Zm,Zn,Zo,Zp,Zq,Zr,Zs,Zt,Zu,Zv,Zw,Zx,Zy,Zz,V0,V1,V2]
      try simp only [V3,V4,V5,V6,V7,V8,V9,Va,Vb,Vc,Vd,Ve,Vf,Vg,Vh,Vi,Vj,V1,V2,Vk,Vl,reduceCtorEq,Vn,Vo,Vp,Vq]
      refine rd_dgetS F6.at.tw tw_clocks ?_
      have e1 : (v.ks.length : Int) + (i : Int) = ((v.ks.length + i : Nat) : Int) := by omega
      rw [e1]
      refine rd_ixL (SqL.of F6.at.cl) (at_ints (G.hl hih)) (k _ _ ?_)
      clear k R
      refine seq_step fun R k => ?_
      have sm : Small (v.cl.getD (v.ks.length + i) 0) := G.sh hih hN
      have nb : ¬ v.ch i < (hw' i).c := G6.hc (x := i) hih
      have hmn : (hw' i).many ≤ N := G6.mn i hih
      try dsimp only [Y0,Y1,Y2,Y3,Y4,Y5,Y6,Y7,Y8,Y9,Ya,Yb,Yc,Yd,Ye,Yf,Yg,Yh,Yi,Yj,Yk,Yl,Ym,Yn,Yo,Yp,Yq,Yr,Ys,Yt,Yu,Yv,Yw,Yx,Yy,Yz,Z0,Z1,Z2,Z3,Z4,Z5,Z6,Z7,Z8,Z9,Za,Zb,Zc,Zd,Ze,Zf,Zg,Zh,Zi,Zj,Zk,Zl,Zm,Zn,Zo,Zp,Zq,Zr,Zs,Zt,Zu,Zv,Zw,Zx,Zy,Zz,V0,V1,V2]
      try simp only [V3,V4,V5,V6,V7,V8,V9,Va,Vb,Vc,Vd,Ve,Vf,Vg,Vh,Vi,Vj,V1,V2,Vk,Vl,reduceCtorEq,Vn,Vo,Vp,Vq]
      refine rd_dgetS F6.at.tw tw_holders (rd_ixL (SqL.of F6.at.hl) ix ?_)
      have hA := F6.holder (i := i) ehs
      obtain ⟨dx, fs, hp, _, _, l3, l4, _⟩ := hA.meth
      refine rd_meth hp l3 ⟨v.hs[i], Sh' i, n, v.len, hw' i, v.ch i, 0, v.A.tw, 0, 0, rfl, hA, G.n1 hn, G.n5 hn, G6.few (x := i) hih hN, sm, ⟨by decide, by decide⟩, sl, (fun e => absurd e (by decide)), fun H7 S7 f7 hk7 => ?_⟩
      rw [hdue_holds nb] at hk7 ⊢
      refine k _ _ ?_
      clear k R
      refine seq_step fun R k => ?_
      have F7 := F6.putH ehs f7 hk7
      have k7 := F6.fxH f7
      have G7 := G6.seen (S' := S7) (x := i) hih
      have eb : holdsB n (hw' i) (v.ch i) = holdsB n (v.hw i) (v.ch i) := by unfold holdsB goodE; rw [(se6 i).1]
      rw [eb]
      try dsimp only [Y0,Y1,Y2,Y3,Y4,Y5,Y6,Y7,Y8,Y9,Ya,Yb,Yc,Yd,Ye,Yf,Yg,Yh,Yi,Yj,Yk,Yl,Ym,Yn,Yo,Yp,Yq,Yr,Ys,Yt,Yu,Yv,Yw,Yx,Yy,Yz,Z0,Z1,Z2,Z3,Z4,Z5,Z6,Z7,Z8,Z9,Za,Zb,Zc,Zd,Ze,Zf,Zg,Zh,Zi,Zj,Zk,Zl,Zm,Zn,Zo,Zp,Zq,Zr,Zs,Zt,Zu,Zv,Zw,Zx,Zy,Zz,V0,V1,V2]
      try simp only [V3,V4,V5,V6,V7,V8,V9,Va,Vb,Vc,Vd,Ve,Vf,Vg,Vh,Vi,Vj,V1,V2,Vk,Vl,reduceCtorEq,Vn,Vo,Vp,Vq]
      refine rd_dgetS F7.at.tw tw_holders (rd_ixL (SqL.of F7.at.hl) ix ?_)
      have hA7 := F7.holder (i := i) ehs
      dsimp only at hA7
      rw [atS_same, atS_same] at hA7
      obtain ⟨dx, fs, hp, _, _, l3, l4, _⟩ := hA7.meth
      refine rd_meth hp l4 ⟨v.hs[i], S7, n, v.len, _, v.ch i, 0, v.A.tw, 0, 0, rfl, hA7, G.n1 hn, G.n5 hn, (G6.few (x := i) hih hN : (hw' i).many < 1000), sm, ⟨by decide, by decide⟩, sl, (fun e => absurd e (by decide)), fun H8 S8 f8 hk8 => ?_⟩
      rw [hdue_until (Int.lt_irrefl _)] at hk8 ⊢
      have F8 := F7.putH ehs (by dsimp only; rw [atS_same]; exact f8) hk8
      have k8 : Keep t H7 H8 := F7.fxH (i := i) (by dsimp only; rw [atS_same]; exact f8)
      have e8 : holdsB n ⟨v.ch i, (hw' i).first, (hw' i).life, (hw' i).many, (hw' i).asks, (hw' i).ends⟩ (v.ch i) = holdsB n (v.hw i) (v.ch i) := by unfold holdsB goodE; rw [← (se6 i).1]
      have ah := until_ahead (n := n) (h := ⟨v.ch i, (hw' i).first, (hw' i).life, (hw' i).many, (hw' i).asks, (hw' i).ends⟩) (clock := v.ch i)
      rw [e8] at ah
      have G8 : Good Tt N { v with Sh := atS (atS Sh' i S7) i S8, hw := atS (atS hw' i ⟨v.ch i, (hw' i).first, (hw' i).life, (hw' i).many, (hw' i).asks, (hw' i).ends⟩) i ⟨v.ch i, (hw' i).first, (hw' i).life, (hw' i).many, (hw' i).asks, (hw' i).ends⟩ } := by
        have g := G7.seen (S' := S8) (x := i) hih
        dsimp only at g
        rw [atS_same] at g
        exact g
      have se8 : SeenOf v (atS (atS hw' i ⟨v.ch i, (hw' i).first, (hw' i).life, (hw' i).many, (hw' i).asks, (hw' i).ends⟩) i ⟨v.ch i, (hw' i).first, (hw' i).life, (hw' i).many, (hw' i).asks, (hw' i).ends⟩) := fun x => by
        by_cases e : x = i
        · subst e
          rw [atS_same]
          exact se6 x
        · rw [atS_ne e, atS_ne e]
          exact se6 x
      have F8 : Tn t H8 n { v with Sh := atS (atS Sh' i S7) i S8, hw := atS (atS hw' i ⟨v.ch i, (hw' i).first, (hw' i).life, (hw' i).many, (hw' i).asks, (hw' i).ends⟩) i ⟨v.ch i, (hw' i).first, (hw' i).life, (hw' i).many, (hw' i).asks, (hw' i).ends⟩ } := F8
      have kp8 := (kp6.trans k7).trans k8
      clear F7 G7 hA hA7 f7 f8 hk7 hk8 F6 G6 se6 kp6 k7 k8
      have ec := filter_succ (p := fun x => holdsB n (v.hw x) (v.ch x)) (i := i)
      rw [e8]
      cases e : holdsB n (v.hw i) (v.ch i) with
      | true =>
        rw [e] at ec
        have ah := ah e (by omega)
        rw [if_pos rfl]
        refine k _ _ ?_
        clear k R
        refine seq_step fun R k => ?_
        try dsimp only [Y0,Y1,Y2,Y3,Y4,Y5,Y6,Y7,Y8,Y9,Ya,Yb,Yc,Yd,Ye,Yf,Yg,Yh,Yi,Yj,Yk,Yl,Ym,Yn,Yo,Yp,Yq,Yr,Ys,Yt,Yu,Yv,Yw,Yx,Yy,Yz,Z0,Z1,Z2,Z3,Z4,Z5,Z6,Z7,Z8,Z9,Za,Zb,Zc,Zd,Ze,Zf,Zg,Zh,Zi,Zj,Zk,Zl,Zm,Zn,Zo,Zp,Zq,Zr,Zs,Zt,Zu,Zv,Zw,Zx,Zy,Zz,V0,V1,V2]
        try simp only [V3,V4,V5,V6,V7,V8,V9,Va,Vb,Vc,Vd,Ve,Vf,Vg,Vh,Vi,Vj,V1,V2,Vk,Vl,reduceCtorEq,Vn,Vo,Vp,Vq]
        rw [if_neg (Int.not_le.mpr ah)]
        refine k _ _ ?_
        clear k R
        try dsimp only [Y0,Y1,Y2,Y3,Y4,Y5,Y6,Y7,Y8,Y9,Ya,Yb,Yc,Yd,Ye,Yf,Yg,Yh,Yi,Yj,Yk,Yl,Ym,Yn,Yo,Yp,Yq,Yr,Ys,Yt,Yu,Yv,Yw,Yx,Yy,Yz,Z0,Z1,Z2,Z3,Z4,Z5,Z6,Z7,Z8,Z9,Za,Zb,Zc,Zd,Ze,Zf,Zg,Zh,Zi,Zj,Zk,Zl,Zm,Zn,Zo,Zp,Zq,Zr,Zs,Zt,Zu,Zv,Zw,Zx,Zy,Zz,V0,V1,V2]
        try simp only [V3,V4,V5,V6,V7,V8,V9,Va,Vb,Vc,Vd,Ve,Vf,Vg,Vh,Vi,Vj,V1,V2,Vk,Vl,reduceCtorEq,Vn,Vo,Vp,Vq]
        refine rd_intB ⟨1, rfl, _, _, _, _, _, _, ⟨?_, rfl, rfl, rfl, rfl⟩, F8, G8, se8, kp8⟩
        rw [ec, if_pos rfl]
        omega
      | false =>
        rw [e] at ec
        rw [if_neg (by decide)]
        refine k _ _ ?_
        clear k R
        refine seq_step fun R k => ?_
        try dsimp only [Y0,Y1,Y2,Y3,Y4,Y5,Y6,Y7,Y8,Y9,Ya,Yb,Yc,Yd,Ye,Yf,Yg,Yh,Yi,Yj,Yk,Yl,Ym,Yn,Yo,Yp,Yq,Yr,Ys,Yt,Yu,Yv,Yw,Yx,Yy,Yz,Z0,Z1,Z2,Z3,Z4,Z5,Z6,Z7,Z8,Z9,Za,Zb,Zc,Zd,Ze,Zf,Zg,Zh,Zi,Zj,Zk,Zl,Zm,Zn,Zo,Zp,Zq,Zr,Zs,Zt,Zu,Zv,Zw,Zx,Zy,Zz,V0,V1,V2]
        try simp only [V3,V4,V5,V6,V7,V8,V9,Va,Vb,Vc,Vd,Ve,Vf,Vg,Vh,Vi,Vj,V1,V2,Vk,Vl,reduceCtorEq,Vn,Vo,Vp,Vq]
        refine k _ _ ?_
        clear k R
        try dsimp only [Y0,Y1,Y2,Y3,Y4,Y5,Y6,Y7,Y8,Y9,Ya,Yb,Yc,Yd,Ye,Yf,Yg,Yh,Yi,Yj,Yk,Yl,Ym,Yn,Yo,Yp,Yq,Yr,Ys,Yt,Yu,Yv,Yw,Yx,Yy,Yz,Z0,Z1,Z2,Z3,Z4,Z5,Z6,Z7,Z8,Z9,Za,Zb,Zc,Zd,Ze,Zf,Zg,Zh,Zi,Zj,Zk,Zl,Zm,Zn,Zo,Zp,Zq,Zr,Zs,Zt,Zu,Zv,Zw,Zx,Zy,Zz,V0,V1,V2]
        try simp only [V3,V4,V5,V6,V7,V8,V9,Va,Vb,Vc,Vd,Ve,Vf,Vg,Vh,Vi,Vj,V1,V2,Vk,Vl,reduceCtorEq,Vn,Vo,Vp,Vq]
        refine rd_intB ⟨0, rfl, _, _, _, _, _, _, ⟨?_, rfl, rfl, rfl, rfl⟩, F8, G8, se8, kp8⟩
        rw [ec, if_neg (by decide)]
        omega
    · rintro σ H6 ⟨Sh', hw', v3, v4, v5, v6, rfl, F6, G6, se6, kp6⟩
      refine k _ _ ?_
      try dsimp only [Y0,Y1,Y2,Y3,Y4,Y5,Y6,Y7,Y8,Y9,Ya,Yb,Yc,Yd,Ye,Yf,Yg,Yh,Yi,Yj,Yk,Yl,Ym,Yn,Yo,Yp,Yq,Yr,Ys,Yt,Yu,Yv,Yw,Yx,Yy,Yz,Z0,Z1,Z2,Z3,Z4,Z5,Z6,Z7,Z8,Z9,Za,Zb,Zc,Zd,Ze,Zf,Zg,Zh,Zi,Zj,Zk,Zl,Zm,Zn,Zo,Zp,Zq,Zr,Zs,Zt,Zu,Zv,Zw,Zx,Zy,Zz,V0,V1,V2]
      try simp only [V3,V4,V5,V6,V7,V8,V9,Va,Vb,Vc,Vd,Ve,Vf,Vg,Vh,Vi,Vj,V1,V2,Vk,Vl,reduceCtorEq,Vn,Vo,Vp,Vq]
      have h1 : ((List.range v.hs.length).filter fun x => holdsB n (v.hw x) (v.ch x)).length ≤ 1 := filter_one fun x y hx hy e1 e2 => G.one hx hy (by rw [hn]; exact e1) (by rw [hn]; exact e2)
      have h2 : decide (((((List.range v.hs.length).filter fun x => holdsB n (v.hw x) (v.ch x)).length : Nat) : Int) < 2) = true := decide_eq_true (by omega)
      rw [Int.toNat_natCast, h2]
      exact z H6 Sh' hw' F6 G6 se6 kp6
end
/-- what stays while the town goes on -/
structure Like (v v' : TV) : Prop where
  A : v'.A = v.A
  Ta : v'.Ta = v.Ta
  ln : v'.len = v.len
  ks : v'.ks.length = v.ks.length
  hs : v'.hs.length = v.hs.length
  wt : v'.wt = v.wt
theorem MsgAt.tup {H : Hp} {r : Addr} {m : Msg} (h : MsgAt H r m) : ∃ (kind : Str) (k x : Nat) (q : Addr) (a b : Int), H r = some (.tup (msgV kind k x q)) ∧ H q = some (.tup [.int a, .int b]) := by
  cases m with
  | ask k x n => exact let ⟨q, e1, e2⟩ := h; ⟨_, k, x, q, n.1, n.2, e1, e2⟩
  | free k x n => exact let ⟨q, e1, e2⟩ := h; ⟨_, k, x, q, n.1, n.2, e1, e2⟩
  | lets k x n => exact let ⟨q, e1, e2⟩ := h; ⟨_, k, x, q, n.1, n.2, e1, e2⟩
theorem MsgAt.kinds {H : Hp} {r : Addr} {m : Msg} (h : MsgAt H r m) : ∃ (kind : Str) (k x : Nat) (q : Addr) (a b : Int), H r = some (.tup (msgV kind k x q)) ∧ H q = some (.tup [.int a, .int b]) ∧ (kind = "ask" ∧ m = .ask k x (a, b) ∨ kind = "free" ∧ m = .free k x (a, b) ∨ kind = "let" ∧ m = .lets k x (a, b)) := by
  cases m with
  | ask k x n => exact let ⟨q, e1, e2⟩ := h; ⟨_, k, x, q, n.1, n.2, e1, e2, .inl ⟨rfl, rfl⟩⟩
  | free k x n => exact let ⟨q, e1, e2⟩ := h; ⟨_, k, x, q, n.1, n.2, e1, e2, .inr (.inl ⟨rfl, rfl⟩)⟩
  | lets k x n => exact let ⟨q, e1, e2⟩ := h; ⟨_, k, x, q, n.1, n.2, e1, e2, .inr (.inr ⟨rfl, rfl⟩)⟩
/-- two tuples of flat things -/
theorem flat_deq {H : Hp} {n : Nat} {a b : Addr} {xs ys : List V} (ha : H a = some (.tup xs)) (hb : H b = some (.tup ys)) (h : ∀ (j : Nat), ∃ e, ∀ x y, xs[j]? = some x → ys[j]? = some y → DEq H n x y e) : ∃ e, DEq H (n + 1) (.ref a) (.ref b) e ∧ (a = b → e = true) := by
  by_cases ne : a = b
  · subst ne
    exact ⟨true, .same, fun _ => rfl⟩
  · obtain ⟨e, he⟩ := Classical.axiomOfChoice h
    exact ⟨_, .tup ne ha hb e he, fun y => absurd y ne⟩
theorem msg_deq {H : Hp} {r1 r2 : Addr} {m1 m2 : Msg} (h1 : MsgAt H r1 m1) (h2 : MsgAt H r2 m2) : ∃ e, DEq H 8 (.ref r1) (.ref r2) e ∧ (r1 = r2 → e = true) := by
  obtain ⟨kd1, k1, x1, q1, a1, b1, e1, f1⟩ := h1.tup
  obtain ⟨kd2, k2, x2, q2, a2, b2, e2, f2⟩ := h2.tup
  refine flat_deq (n := 7) e1 e2 fun j => ?_
  match j with
  | 0 => exact ⟨_, fun x y hx hy => by cases hx; cases hy; exact .sc rfl rfl⟩
  | 1 => exact ⟨_, fun x y hx hy => by cases hx; cases hy; exact .sc rfl rfl⟩
  | 2 => exact ⟨_, fun x y hx hy => by cases hx; cases hy; exact .sc rfl rfl⟩
  | 3 =>
    obtain ⟨e, he, _⟩ := flat_deq (n := 6) f1 f2 fun j => by
      match j with
      | 0 => exact ⟨_, fun x y hx hy => by cases hx; cases hy; exact .sc rfl rfl⟩
      | 1 => exact ⟨_, fun x y hx hy => by cases hx; cases hy; exact .sc rfl rfl⟩
      | j + 2 => exact ⟨true, fun x y hx hy => by cases hx⟩
    exact ⟨e, fun x y hx hy => by cases hx; cases hy; exact he⟩
  | j + 4 => exact ⟨true, fun x y hx hy => by cases hx⟩
theorem first_true {p : Nat → Bool} : ∀ (n : Nat), p n = true → ∃ J, J ≤ n ∧ p J = true ∧ ∀ m, m < J → p m = false
  | 0, h => ⟨0, Nat.le_refl _, h, fun m hm => absurd hm (Nat.not_lt_zero _)⟩
  | n + 1, h => by
    by_cases q : ∃ i, i ≤ n ∧ p i = true
    · obtain ⟨i, hi, pi⟩ := q
      obtain ⟨J, h1, h2, h3⟩ := first_true i pi
      exact ⟨J, by omega, h2, h3⟩
    · refine ⟨n + 1, Nat.le_refl _, h, fun m hm => ?_⟩
      cases e : p m with
      | false => rfl
      | true => exact absurd ⟨m, by omega, e⟩ q
termination_by n => n
/-- the bag is looked through for a message of its own -/
theorem bag_find {H : Hp} {bag : List (Addr × Msg)} {r : Addr} {m : Msg} (ms : ∀ p, p ∈ bag → MsgAt H p.1 p.2) (hm : (r, m) ∈ bag) : ∃ (eq : Nat → Bool) (J : Nat), (∀ (j : Nat) (z : V), (bag.map fun p => V.ref p.1)[j]? = some z → DEq H 8 z (.ref r) (eq j)) ∧ J < (bag.map fun p => V.ref p.1).length ∧ eq J = true ∧ ∀ m, m < J → eq m = false := by
  have h : ∀ j : Nat, ∃ e, ∀ z, (bag.map fun p => V.ref p.1)[j]? = some z → DEq H 8 z (.ref r) e ∧ (z = .ref r → e = true) := fun j => by
    rw [List.getElem?_map]
    cases e : bag[j]? with
    | none => exact ⟨true, fun z hz => by cases hz⟩
    | some p =>
      obtain ⟨b, h1, h2⟩ := msg_deq (ms p (List.mem_of_getElem? e)) (ms _ hm)
      exact ⟨b, fun z hz => by cases hz; exact ⟨h1, fun y => h2 (by injection y)⟩⟩
  obtain ⟨eq, he⟩ := Classical.axiomOfChoice h
  obtain ⟨i, hi, ei⟩ := List.mem_iff_getElem.mp hm
  have e0 : (bag.map fun p => V.ref p.1)[i]? = some (.ref r) := by rw [List.getElem?_map, List.getElem?_eq_getElem hi, ei]; rfl
  obtain ⟨J, h1, h2, h3⟩ := first_true (p := eq) i ((he i _ e0).2 rfl)
  exact ⟨eq, J, fun j z hz => (he j z hz).1, by rw [List.length_map]; omega, h2, h3⟩
inductive P_sp_law_come (t : Adr) (vs : List V) (H : Hp) (Q : VK) (E : XK) : Prop
  | mk (r : Addr) (m : Msg) (keep : Bool) (n : Int) (N : Nat) (T : Tm) (v : TV) (h0_ : vs = [.ref r, .ref v.A.tw, .bl keep]) (h1_ : (r, m) ∈ v.bag) (h2_ : Tn t H n v) (h3_ : Good T N v) (h4_ : (v.ks.length : Int) = n) (h5_ : N ≤ 900) (h6_ : Small v.len) (h7_ : ∀ H' v', Tn t H' n v' → Good T (N + 1) v' → Like v v' → Keep t H H' → Q .non H') : P_sp_law_come t vs H Q E
def sp_law_come (t : Adr) : Sp := fun vs H Q E => P_sp_law_come t vs H Q E
section
variable {P : Program} {w : World} {K : PySem.W.Frag} {mg : Str → Option Value} {base : Heap} {t : Adr}
theorem ok_law_come (T : Txt K mg t) : FnOk P w K mg base CX0 3 t.f_law_come t.d_law_come ["_law_message", "_law_town", "_law_keep"] (sp_law_come t) := by
  refine T.F_law_come.ok sc_law_come (fun vs H Q E h => ?_) (fun cdv A outer s H vs Q E hr h => ?_)
  · obtain ⟨r, m, keep, n, N, Tt, v, rfl, _⟩ := h
    rfl
  · obtain ⟨r, m, keep, n, N, Tt, v, rfl, hm, F, G, hn, hN, sl, z⟩ := h
    refine ⟨_, (jss_cons (js_asg nc_name (je_var (i := 0) nm__law_message lo_law_come__law_message rfl) (jg_tup rfl (jgs_cons (jg_name (i := 3) sc_law_come.nd rfl lo_law_come__law_kind) (jgs_cons (jg_name (i := 4) sc_law_come.nd rfl lo_law_come__law_keeper) (jgs_cons (jg_name (i := 5) sc_law_come.nd rfl lo_law_come__law_name) (jgs_cons (jg_name (i := 6) sc_law_come.nd rfl lo_law_come__law_number) jgs_nil rfl) rfl) rfl) rfl) rfl rfl) rfl rfl)
      (jss_cons (js_set (i := 7) nc_sub sc_law_come.nd rfl lo_law_come__law_clocks (je_dget (hu_of hr) (je_var (i := 1) nm__law_town lo_law_come__law_town rfl) je_str (fun _ _ => rfl)))
      (jss_cons (js_if (jt_cmp jo_eq (je_var (i := 3) nm__law_kind lo_law_come__law_kind rfl) je_str (by decide) (by decide)) (jss_one (js_if (jt_val pl_call (je_meth bs_sub rfl (by decide) (je_ix jx_list (je_dget (hu_of hr) (je_var (i := 1) nm__law_town lo_law_come__law_town rfl) je_str (fun _ _ => rfl)) (je_var (i := 4) nm__law_keeper lo_law_come__law_keeper rfl) (fun _ _ => rfl)) T.cl_Keeper T.h_Keeper_asked (ok_Keeper_asked T) (hr.mono (by decide)) T.b_Keeper_asked passX sx_sub (ns_cons sx_name (ns_cons sx_name ns_nil)) (ja_cons sx_sub (je_ix jx_list (je_var (i := 7) nm__law_clocks lo_law_come__law_clocks rfl) (je_var (i := 4) nm__law_keeper lo_law_come__law_keeper rfl) (fun _ _ => rfl)) (ja_cons sx_name (je_var (i := 5) nm__law_name lo_law_come__law_name rfl) (ja_cons sx_name (je_var (i := 6) nm__law_number lo_law_come__law_number rfl) ja_nil))))) (jss_one (js_expr nc_call (je_append bs_sub rfl sx_tuple (je_dget (hu_of hr) (je_var (i := 1) nm__law_town lo_law_come__law_town rfl) je_str (fun _ _ => rfl)) (je_tup (ja_cons sx_const je_str (ja_cons sx_name (je_var (i := 4) nm__law_keeper lo_law_come__law_keeper rfl) (ja_cons sx_name (je_var (i := 5) nm__law_name lo_law_come__law_name rfl) (ja_cons sx_name (je_var (i := 6) nm__law_number lo_law_come__law_number rfl) ja_nil)))))))) jss_nil)) (jss_one (js_if (jt_cmp jo_eq (je_var (i := 3) nm__law_kind lo_law_come__law_kind rfl) je_str (by decide) (by decide)) (jss_one (js_expr nc_call (je_meth bs_sub rfl (by decide) (je_ix jx_list (je_dget (hu_of hr) (je_var (i := 1) nm__law_town lo_law_come__law_town rfl) je_str (fun _ _ => rfl)) (je_var (i := 4) nm__law_keeper lo_law_come__law_keeper rfl) (fun _ _ => rfl)) T.cl_Keeper T.h_Keeper_freed (ok_Keeper_freed T) (hr.mono (by decide)) T.b_Keeper_freed passX sx_sub (ns_cons sx_name (ns_cons sx_name ns_nil)) (ja_cons sx_sub (je_ix jx_list (je_var (i := 7) nm__law_clocks lo_law_come__law_clocks rfl) (je_var (i := 4) nm__law_keeper lo_law_come__law_keeper rfl) (fun _ _ => rfl)) (ja_cons sx_name (je_var (i := 5) nm__law_name lo_law_come__law_name rfl) (ja_cons sx_name (je_var (i := 6) nm__law_number lo_law_come__law_number rfl) ja_nil)))))) (jss_one (js_expr nc_call (je_meth bs_sub rfl (by decide) (je_ix jx_list (je_dget (hu_of hr) (je_var (i := 1) nm__law_town lo_law_come__law_town rfl) je_str (fun _ _ => rfl)) (je_var (i := 5) nm__law_name lo_law_come__law_name rfl) (fun _ _ => rfl)) T.cl_Holder T.h_Holder_hear (ok_Holder_hear T) (hr.mono (by decide)) T.b_Holder_hear passX sx_sub (ns_cons sx_name (ns_cons sx_name ns_nil)) (ja_cons sx_sub (je_ix jx_list (je_var (i := 7) nm__law_clocks lo_law_come__law_clocks rfl) (je_op jo_add (je_callB nm_len lo_law_come_len jc_len T.z_len bt_len sx_sub ns_nil (ja_cons sx_sub (je_dget (hu_of hr) (je_var (i := 1) nm__law_town lo_law_come__law_town rfl) je_str (fun _ _ => rfl)) ja_nil)) (je_var (i := 5) nm__law_name lo_law_come__law_name rfl)) (fun _ _ => rfl)) (ja_cons sx_name (je_var (i := 4) nm__law_keeper lo_law_come__law_keeper rfl) (ja_cons sx_name (je_var (i := 6) nm__law_number lo_law_come__law_number rfl) ja_nil)))))))))
      (jss_one (js_if (jt_not (jt_val pl_name (je_var (i := 2) nm__law_keep lo_law_come__law_keep rfl))) (jss_one (js_expr nc_call (je_remove (hu9_of hr) bs_sub rfl sx_name (je_dget (hu_of hr) (je_var (i := 1) nm__law_town lo_law_come__law_town rfl) je_str (fun _ _ => rfl)) (je_var (i := 0) nm__law_message lo_law_come__law_message rfl)))) jss_nil))))).h, ?_⟩
    dsimp only [cxOf_K, L2.start, List.map_cons, List.map_nil, List.length_cons, List.length_nil, List.cons_append, List.nil_append, List.replicate]
    refine fix_s (by simp only [List.map_cons, List.map_nil, List.cons_append, List.nil_append, Nat.sub_self, List.replicate, List.append_nil]; exact rfl) ?_
    have gk := G.kn
    have gh := G.hn
    have gc := G.cl
    obtain ⟨kind, k, x, q, a, b, er, eq, kinds⟩ := (F.at.ms _ hm).kinds
    refine seq_step fun R k1 => ?_
    try dsimp only [gTup, gCons, gNil,Y0,Y1,Y2,Y3,Y4,Y5,Y6,Y7,Y8,Y9,Ya,Yb,Yc,Yd,Ye,Yf,Yg,Yh,Yi,Yj,Yk,Yl,Ym,Yn,Yo,Yp,Yq,Yr,Ys,Yt,Yu,Yv,Yw,Yx,Yy,Yz,Z0,Z1,Z2,Z3,Z4,Z5,Z6,Z7,Z8,Z9,Za,Zb,Zc,Zd,Ze,Zf,Zg,Zh,Zi,Zj,Zk,Zl,Zm,Zn,Zo,Zp,Zq,Zr,Zs,Zt,Zu,Zv,Zw,Zx,Zy,Zz,V0,V1,V2]
    try simp only [V3,V4,V5,V6,V7,V8,V9,Va,Vb,Vc,Vd,Ve,Vf,Vg,Vh,Vi,Vj,V1,V2,Vk,Vl,reduceCtorEq,Vn,Vo,Vp,Vq]
    refine ⟨_, SqT.of er, rfl, _, _, rfl, _, _, rfl, _, _, rfl, _, _, rfl, rfl, k1 _ _ ?_⟩
    clear k1 R
    refine seq_step fun R k1 => ?_
    try dsimp only [Y0,Y1,Y2,Y3,Y4,Y5,Y6,Y7,Y8,Y9,Ya,Yb,Yc,Yd,Ye,Yf,Yg,Yh,Yi,Yj,Yk,Yl,Ym,Yn,Yo,Yp,Yq,Yr,Ys,Yt,Yu,Yv,Yw,Yx,Yy,Yz,Z0,Z1,Z2,Z3,Z4,Z5,Z6,Z7,Z8,Z9,Za,Zb,Zc,Zd,Ze,Zf,Zg,Zh,Zi,Zj,Zk,Zl,Zm,Zn,Zo,Zp,Zq,Zr,Zs,Zt,Zu,Zv,Zw,Zx,Zy,Zz,V0,V1,V2]
    try simp only [V3,V4,V5,V6,V7,V8,V9,Va,Vb,Vc,Vd,Ve,Vf,Vg,Vh,Vi,Vj,V1,V2,Vk,Vl,reduceCtorEq,Vn,Vo,Vp,Vq]
    refine rd_dgetS F.at.tw tw_clocks (k1 _ _ ?_)
    clear k1 R
    refine seq_step fun R k1 => ?_
    -- the message is taken out, or not
    have fin : ∀ (H6 : Hp) (v6 : TV), Tn t H6 n v6 → Good Tt (N + 1) v6 → Like v v6 → Keep t H H6 → (r, m) ∈ v6.bag → R [some (.ref r), some (.ref v.A.tw), some (.bl keep), some (.str kind), some (.int (k : Int)), some (.int (x : Int)), some (.ref q), some (.ref v.A.cl)] H6 := by
      intro H6 v6 F6 G6 L6 k6 hm6
      refine k1 _ _ ?_
      try dsimp only [Y0,Y1,Y2,Y3,Y4,Y5,Y6,Y7,Y8,Y9,Ya,Yb,Yc,Yd,Ye,Yf,Yg,Yh,Yi,Yj,Yk,Yl,Ym,Yn,Yo,Yp,Yq,Yr,Ys,Yt,Yu,Yv,Yw,Yx,Yy,Yz,Z0,Z1,Z2,Z3,Z4,Z5,Z6,Z7,Z8,Z9,Za,Zb,Zc,Zd,Ze,Zf,Zg,Zh,Zi,Zj,Zk,Zl,Zm,Zn,Zo,Zp,Zq,Zr,Zs,Zt,Zu,Zv,Zw,Zx,Zy,Zz,V0,V1,V2]
      try simp only [V3,V4,V5,V6,V7,V8,V9,Va,Vb,Vc,Vd,Ve,Vf,Vg,Vh,Vi,Vj,V1,V2,Vk,Vl,reduceCtorEq,Vn,Vo,Vp,Vq]
      have etw := F6.at.tw
      rw [L6.A] at etw
      have ebg := F6.at.bg
      rw [L6.A] at ebg
      split
      · obtain ⟨eq, J, h1, h2, h3, h4⟩ := bag_find F6.at.ms hm6
        refine rd_dgetS etw tw_bag ⟨ty_list ebg, _, _, _, eq, J, rfl, rfl, ebg, h1, h2, h3, h4, ?_⟩
        obtain ⟨F7, k7⟩ := F6.erase (J := J)
        have e := z _ _ F7 (G6.sub (fun p hp => List.mem_of_mem_eraseIdx hp) (List.length_eraseIdx_le _ _)) ⟨L6.A, L6.Ta, L6.ln, L6.ks, L6.hs, L6.wt⟩ (k6.trans k7)
        rw [L6.A] at e
        exact e
      · exact z _ _ F6 G6 L6 k6
    clear k1
    rcases kinds with ⟨rfl, rfl⟩ | ⟨rfl, rfl⟩ | ⟨rfl, rfl⟩
    · obtain ⟨hk, hx, hnl⟩ := G.asks hm
      have eks : v.ks[k]? = some v.ks[k] := List.getElem?_eq_getElem hk
      try dsimp only [Y0,Y1,Y2,Y3,Y4,Y5,Y6,Y7,Y8,Y9,Ya,Yb,Yc,Yd,Ye,Yf,Yg,Yh,Yi,Yj,Yk,Yl,Ym,Yn,Yo,Yp,Yq,Yr,Ys,Yt,Yu,Yv,Yw,Yx,Yy,Yz,Z0,Z1,Z2,Z3,Z4,Z5,Z6,Z7,Z8,Z9,Za,Zb,Zc,Zd,Ze,Zf,Zg,Zh,Zi,Zj,Zk,Zl,Zm,Zn,Zo,Zp,Zq,Zr,Zs,Zt,Zu,Zv,Zw,Zx,Zy,Zz,V0,V1,V2]
      try simp only [V3,V4,V5,V6,V7,V8,V9,Va,Vb,Vc,Vd,Ve,Vf,Vg,Vh,Vi,Vj,V1,V2,Vk,Vl,reduceCtorEq,Vn,Vo,Vp,Vq]
      refine rd_dgetS F.at.tw tw_keepers (rd_ixL (SqL.of F.at.kl) (at_refs hk) ?_)
      have hA := F.keeper eks
      obtain ⟨dx, fs, hp, m1, _⟩ := hA.meth
      refine rd_meth hp m1 (rd_ixL (SqL.of F.at.cl) (at_ints (G.kl hk)) ⟨v.ks[k], v.Sk k, v.wt, v.kw k, v.ck k, (x : Int), q, a, b, rfl, hA, G.sk hk hN, (fun _ => eq), fun H7 S7 f7 hk7 => ?_⟩)
      have F7 := F.putK eks f7 hk7
      have k7 := F.fxK f7
      have ec := (kp_asked (wt := v.wt) (name := (x : Int)) (a := a) (b := b) (q := q) (G.kc hk)).1
      generalize (kp (v.kw k)).says (v.ck k) (x : Int) (a, b) = c at ec
      rw [ec]
      refine outk_bl ⟨c, rfl, ?_⟩
      cases c with
      | false =>
        rw [if_neg (by decide)]
        exact fin H7 _ F7 ((G.no hk hx hnl ec).mono (by omega)) ⟨rfl, rfl, rfl, rfl, rfl, rfl⟩ k7 hm
      | true =>
        rw [if_pos rfl]
        refine rd_dgetS F7.at.tw tw_bag ⟨ty_list F7.at.bg, by decide, fun pr hpr => ?_⟩
        obtain ⟨F8, k8⟩ := F7.append (xs := msgV "let" k x q) (m := .lets k x (a, b)) hpr (fun H' e kp => ⟨q, e, kp _ _ (k7 _ _ eq fx_tup) fx_tup⟩)
        refine ⟨_, _, _, rfl, rfl, same_upd hpr _ _ F7.at.bg, ?_, fin _ _ F8 (G.yes (r := pr) hk hx hnl ec) ⟨rfl, rfl, rfl, rfl, rfl, rfl⟩ (k7.trans k8) (List.mem_append_left _ hm)⟩
        have := sizeLine_eq
        have := G.bg
        rw [List.length_map]
        show v.bag.length < sizeLine
        omega
    · obtain ⟨hk, hx, _⟩ := G.freed (S' := []) (q := q) hm
      have eks : v.ks[k]? = some v.ks[k] := List.getElem?_eq_getElem hk
      try dsimp only [Y0,Y1,Y2,Y3,Y4,Y5,Y6,Y7,Y8,Y9,Ya,Yb,Yc,Yd,Ye,Yf,Yg,Yh,Yi,Yj,Yk,Yl,Ym,Yn,Yo,Yp,Yq,Yr,Ys,Yt,Yu,Yv,Yw,Yx,Yy,Yz,Z0,Z1,Z2,Z3,Z4,Z5,Z6,Z7,Z8,Z9,Za,Zb,Zc,Zd,Ze,Zf,Zg,Zh,Zi,Zj,Zk,Zl,Zm,Zn,Zo,Zp,Zq,Zr,Zs,Zt,Zu,Zv,Zw,Zx,Zy,Zz,V0,V1,V2]
      try simp only [V3,V4,V5,V6,V7,V8,V9,Va,Vb,Vc,Vd,Ve,Vf,Vg,Vh,Vi,Vj,V1,V2,Vk,Vl,reduceCtorEq,Vn,Vo,Vp,Vq]
      rw [if_neg (by decide)]
      refine rd_dgetS F.at.tw tw_keepers (rd_ixL (SqL.of F.at.kl) (at_refs hk) ?_)
      have hA := F.keeper eks
      obtain ⟨dx, fs, hp, _, m2, _⟩ := hA.meth
      refine rd_meth hp m2 (rd_ixL (SqL.of F.at.cl) (at_ints (G.kl hk)) ⟨v.ks[k], v.Sk k, v.wt, v.kw k, v.ck k, (x : Int), q, a, b, rfl, hA, G.sk hk hN, (fun _ => eq), fun H7 S7 f7 hk7 => ?_⟩)
      have F7 := F.putK eks f7 hk7
      have k7 := F.fxK f7
      rw [(kp_freed (wt := v.wt) (name := (x : Int)) (a := a) (b := b) (q := q) (G.kc hk)).1]
      exact outk_non (fin H7 _ F7 ((G.freed hm).2.2.mono (by omega)) ⟨rfl, rfl, rfl, rfl, rfl, rfl⟩ k7 hm)
    · obtain ⟨hk, hx, _⟩ := G.hear (S' := []) hm
      have ehs : v.hs[x]? = some v.hs[x] := List.getElem?_eq_getElem hx
      try dsimp only [Y0,Y1,Y2,Y3,Y4,Y5,Y6,Y7,Y8,Y9,Ya,Yb,Yc,Yd,Ye,Yf,Yg,Yh,Yi,Yj,Yk,Yl,Ym,Yn,Yo,Yp,Yq,Yr,Ys,Yt,Yu,Yv,Yw,Yx,Yy,Yz,Z0,Z1,Z2,Z3,Z4,Z5,Z6,Z7,Z8,Z9,Za,Zb,Zc,Zd,Ze,Zf,Zg,Zh,Zi,Zj,Zk,Zl,Zm,Zn,Zo,Zp,Zq,Zr,Zs,Zt,Zu,Zv,Zw,Zx,Zy,Zz,V0,V1,V2]
      try simp only [V3,V4,V5,V6,V7,V8,V9,Va,Vb,Vc,Vd,Ve,Vf,Vg,Vh,Vi,Vj,V1,V2,Vk,Vl,reduceCtorEq,Vn,Vo,Vp,Vq]
      rw [if_neg (by decide), if_neg (by decide)]
      refine rd_dgetS F.at.tw tw_holders (rd_ixL (SqL.of F.at.hl) (at_refs hx) ?_)
      have hA := F.holder ehs
      obtain ⟨dx, fs, hp, _, l2, _⟩ := hA.meth
      refine rd_meth hp l2 (rd_dgetS F.at.tw tw_keepers (rd_lenL (SqL.of F.at.kl) ⟨(v.ks.length : Int), by rw [List.length_map], ?_⟩))
      rw [show (v.ks.length : Int) + (x : Int) = ((v.ks.length + x : Nat) : Int) by omega]
      have hmn := G.mn x hx
      subst hn
      refine rd_ixL (SqL.of F.at.cl) (at_ints (G.hl hx)) ⟨v.hs[x], v.Sh x, _, v.len, v.hw x, v.ch x, (k : Int), q, a, b, rfl, hA, G.n1 rfl, G.n5 rfl, G.few hx hN, G.sh hx hN, G.at_ hk, sl, (fun _ => eq), fun H7 S7 f7 hk7 => ?_⟩
      have F7 := F.putH ehs f7 hk7
      have k7 := F.fxH f7
      have e1 : (hdue (v.ks.length : Int) v.len (v.hw x) 1 (v.ch x) (k : Int) a b).1 = .v .non := by rw [hdue_hear ⟨by omega, by omega⟩ (G.hc hx)]
      rw [e1]
      exact out_non (fin H7 _ F7 ((G.hear hm).2.2.mono (by omega)) ⟨rfl, rfl, rfl, rfl, rfl, rfl⟩ k7 hm)
end
inductive P_sp_law_anew (t : Adr) (vs : List V) (H : Hp) (Q : VK) (E : XK) : Prop
  | mk (tm dt : Addr) (lo hi le ke num n : Int) (N : Nat) (T : Tm) (v : TV) (h0_ : vs = [.ref v.A.tw, .ref tm, .int num]) (h1_ : Tn t H n v) (h2_ : Good T N v) (h3_ : H tm = some (.ins t.Terms dt (terms lo hi le ke))) (h4_ : good lo hi le ke) (h5_ : waitOf lo hi le = v.wt) (h6_ : le = v.len) (h7_ : ke = n) (h8_ : (v.ks.length : Int) = n) (h9_ : N ≤ 900) (h10_ : ∀ H' v', Tn t H' n v' → Good T N v' → Like v v' → Keep t H H' → Q .non H') : P_sp_law_anew t vs H Q E
def sp_law_anew (t : Adr) : Sp := fun vs H Q E => P_sp_law_anew t vs H Q E
section
variable {P : Program} {w : World} {K : PySem.W.Frag} {mg : Str → Option Value} {base : Heap} {t : Adr}
theorem ok_law_anew (T : Txt K mg t) : FnOk P w K mg base CX0 5 t.f_law_anew t.d_law_anew ["_law_town", "_law_made", "_law_number"] (sp_law_anew t) := by
  refine T.F_law_anew.ok sc_law_anew (fun vs H Q E h => ?_) (fun cdv A outer s H vs Q E hr h => ?_)
  · obtain ⟨tm, dt, lo, hi, le, ke, num, n, N, Tt, v, rfl, _⟩ := h
    rfl
  · obtain ⟨tm, dt, lo, hi, le, ke, num, n, N, Tt, v, rfl, F, G, htm, gd, ew, el, en, hn, hN, z⟩ := h
    refine ⟨_, (jss_cons (js_set (i := 3) nc_call sc_law_anew.nd rfl lo_law_anew__law_many (je_callB nm_len lo_law_anew_len jc_len T.z_len bt_len sx_sub ns_nil (ja_cons sx_sub (je_dget (hu_of hr) (je_var (i := 0) nm__law_town lo_law_anew__law_town rfl) je_str (fun _ _ => rfl)) ja_nil)))
      (jss_cons (js_set (i := 4) nc_bin sc_law_anew.nd rfl lo_law_anew__law_at (je_op jo_mod (je_var (i := 2) nm__law_number lo_law_anew__law_number rfl) (je_callB nm_len lo_law_anew_len jc_len T.z_len bt_len sx_sub ns_nil (ja_cons sx_sub (je_dget (hu_of hr) (je_var (i := 0) nm__law_town lo_law_anew__law_town rfl) je_str (fun _ _ => rfl)) ja_nil))))
      (jss_one (js_if (jt_cmp jo_lt (je_var (i := 4) nm__law_at lo_law_anew__law_at rfl) (je_var (i := 3) nm__law_many lo_law_anew__law_many rfl) (by decide) (by decide)) (jss_one (js_asg nc_call (je_make nm_Keeper lo_law_anew_Keeper T.k_Keeper (ok_Keeper_init T) (hr.mono (by decide)) T.m_Keeper T.b_Keeper_init pass0 sx_name (ns_cons sx_sub ns_nil) (ja_cons sx_name (je_var (i := 1) nm__law_made lo_law_anew__law_made rfl) (ja_cons sx_sub (je_ix jx_list (je_dget (hu_of hr) (je_var (i := 0) nm__law_town lo_law_anew__law_town rfl) je_str (fun _ _ => rfl)) (je_var (i := 4) nm__law_at lo_law_anew__law_at rfl) (fun _ _ => rfl)) ja_nil))) (jg_sub (je_dget (hu_of hr) (je_var (i := 0) nm__law_town lo_law_anew__law_town rfl) je_str (fun _ _ => rfl)) (je_var (i := 4) nm__law_at lo_law_anew__law_at rfl) jp_list (fun _ => rfl)) rfl rfl)) (jss_cons (js_dput nc_bin (hu_of hr) (je_var (i := 0) nm__law_town lo_law_anew__law_town rfl) je_str (je_op jo_add (je_dget (hu_of hr) (je_var (i := 0) nm__law_town lo_law_anew__law_town rfl) je_str (fun _ _ => rfl)) je_int))
      (jss_one (js_asg nc_call (je_make nm_Holder lo_law_anew_Holder T.k_Holder (ok_Holder_init T) (hr.mono (by decide)) T.m_Holder T.b_Holder_init pass0 sx_name (ns_cons sx_bin (ns_cons sx_sub (ns_cons sx_sub ns_nil))) (ja_cons sx_name (je_var (i := 1) nm__law_made lo_law_anew__law_made rfl) (ja_cons sx_bin (je_op jo_sub (je_var (i := 4) nm__law_at lo_law_anew__law_at rfl) (je_var (i := 3) nm__law_many lo_law_anew__law_many rfl)) (ja_cons sx_sub (je_dget (hu_of hr) (je_var (i := 0) nm__law_town lo_law_anew__law_town rfl) je_str (fun _ _ => rfl)) (ja_cons sx_sub (je_ix jx_list (je_dget (hu_of hr) (je_var (i := 0) nm__law_town lo_law_anew__law_town rfl) je_str (fun _ _ => rfl)) (je_var (i := 4) nm__law_at lo_law_anew__law_at rfl) (fun _ _ => rfl)) ja_nil))))) (jg_sub (je_dget (hu_of hr) (je_var (i := 0) nm__law_town lo_law_anew__law_town rfl) je_str (fun _ _ => rfl)) (je_op jo_sub (je_var (i := 4) nm__law_at lo_law_anew__law_at rfl) (je_var (i := 3) nm__law_many lo_law_anew__law_many rfl)) jp_list (fun _ => rfl)) rfl rfl))))))).h, ?_⟩
    dsimp only [cxOf_K, L2.start, List.map_cons, List.map_nil, List.length_cons, List.length_nil, List.cons_append, List.nil_append, List.replicate]
    refine fix_s (by simp only [List.map_cons, List.map_nil, List.cons_append, List.nil_append, Nat.sub_self, List.replicate, List.append_nil]; exact rfl) ?_
    have gk := G.kn
    have gh := G.hn
    have gc := G.cl
    refine seq_step fun R k => ?_
    try dsimp only [Y0,Y1,Y2,Y3,Y4,Y5,Y6,Y7,Y8,Y9,Ya,Yb,Yc,Yd,Ye,Yf,Yg,Yh,Yi,Yj,Yk,Yl,Ym,Yn,Yo,Yp,Yq,Yr,Ys,Yt,Yu,Yv,Yw,Yx,Yy,Yz,Z0,Z1,Z2,Z3,Z4,Z5,Z6,Z7,Z8,Z9,Za,Zb,Zc,Zd,Ze,Zf,Zg,Zh,Zi,Zj,Zk,Zl,Zm,Zn,Zo,Zp,Zq,Zr,Zs,Zt,Zu,Zv,Zw,Zx,Zy,Zz,V0,V1,V2]
    try simp only [V3,V4,V5,V6,V7,V8,V9,Va,Vb,Vc,Vd,Ve,Vf,Vg,Vh,Vi,Vj,V1,V2,Vk,Vl,reduceCtorEq,Vn,Vo,Vp,Vq]
    refine rd_dgetS F.at.tw tw_keepers (rd_lenL (SqL.of F.at.kl) ?_)
    rw [List.length_map]
    refine k _ _ ?_
    clear k R
    refine seq_step fun R k => ?_
    try dsimp only [Y0,Y1,Y2,Y3,Y4,Y5,Y6,Y7,Y8,Y9,Ya,Yb,Yc,Yd,Ye,Yf,Yg,Yh,Yi,Yj,Yk,Yl,Ym,Yn,Yo,Yp,Yq,Yr,Ys,Yt,Yu,Yv,Yw,Yx,Yy,Yz,Z0,Z1,Z2,Z3,Z4,Z5,Z6,Z7,Z8,Z9,Za,Zb,Zc,Zd,Ze,Zf,Zg,Zh,Zi,Zj,Zk,Zl,Zm,Zn,Zo,Zp,Zq,Zr,Zs,Zt,Zu,Zv,Zw,Zx,Zy,Zz,V0,V1,V2]
    try simp only [V3,V4,V5,V6,V7,V8,V9,Va,Vb,Vc,Vd,Ve,Vf,Vg,Vh,Vi,Vj,V1,V2,Vk,Vl,reduceCtorEq,Vn,Vo,Vp,Vq]
    refine rd_dgetS F.at.tw tw_clocks (rd_lenL (SqL.of F.at.cl) ?_)
    rw [List.length_map]
    try dsimp only [Y0,Y1,Y2,Y3,Y4,Y5,Y6,Y7,Y8,Y9,Ya,Yb,Yc,Yd,Ye,Yf,Yg,Yh,Yi,Yj,Yk,Yl,Ym,Yn,Yo,Yp,Yq,Yr,Ys,Yt,Yu,Yv,Yw,Yx,Yy,Yz,Z0,Z1,Z2,Z3,Z4,Z5,Z6,Z7,Z8,Z9,Za,Zb,Zc,Zd,Ze,Zf,Zg,Zh,Zi,Zj,Zk,Zl,Zm,Zn,Zo,Zp,Zq,Zr,Zs,Zt,Zu,Zv,Zw,Zx,Zy,Zz,V0,V1,V2]
    try simp only [V3,V4,V5,V6,V7,V8,V9,Va,Vb,Vc,Vd,Ve,Vf,Vg,Vh,Vi,Vj,V1,V2,Vk,Vl,reduceCtorEq,Vn,Vo,Vp,Vq]
    refine ⟨by omega, k _ _ ?_⟩
    clear k R
    obtain ⟨at_, hat⟩ : ∃ j : Nat, num % (v.cl.length : Int) = (j : Int) := ⟨_, (Int.toNat_of_nonneg (Int.emod_nonneg _ (by omega))).symm⟩
    have hal : at_ < v.cl.length := by have := Int.emod_lt_of_pos num (show (0 : Int) < (v.cl.length : Int) by omega); omega
    rw [hat]
    have sm : Small (v.cl.getD at_ 0) := G.small hal (by omega)
    try dsimp only [Y0,Y1,Y2,Y3,Y4,Y5,Y6,Y7,Y8,Y9,Ya,Yb,Yc,Yd,Ye,Yf,Yg,Yh,Yi,Yj,Yk,Yl,Ym,Yn,Yo,Yp,Yq,Yr,Ys,Yt,Yu,Yv,Yw,Yx,Yy,Yz,Z0,Z1,Z2,Z3,Z4,Z5,Z6,Z7,Z8,Z9,Za,Zb,Zc,Zd,Ze,Zf,Zg,Zh,Zi,Zj,Zk,Zl,Zm,Zn,Zo,Zp,Zq,Zr,Zs,Zt,Zu,Zv,Zw,Zx,Zy,Zz,V0,V1,V2]
    try simp only [V3,V4,V5,V6,V7,V8,V9,Va,Vb,Vc,Vd,Ve,Vf,Vg,Vh,Vi,Vj,V1,V2,Vk,Vl,reduceCtorEq,Vn,Vo,Vp,Vq]
    split
    · rename_i h1
      have hk : at_ < v.ks.length := by omega
      refine rd_dgetS F.at.tw tw_clocks (rd_ixL (SqL.of F.at.cl) (at_ints hal) fun kp dk nkp ndk _ => ⟨kp, dk, tm, dt, lo, hi, le, ke, v.ck at_, rfl, upd_same, ?_, gd, sm, fun H5 S f5 fS hkk => ⟨rfl, ?_⟩⟩)
      · rw [upd_ne (ne_of_none htm nkp), upd_ne (ne_of_none htm ndk)]
        exact htm
      obtain ⟨s5, g5⟩ := born nkp ndk f5 fS
      have a5 := F.at.same t s5
      try dsimp only [gSub,Y0,Y1,Y2,Y3,Y4,Y5,Y6,Y7,Y8,Y9,Ya,Yb,Yc,Yd,Ye,Yf,Yg,Yh,Yi,Yj,Yk,Yl,Ym,Yn,Yo,Yp,Yq,Yr,Ys,Yt,Yu,Yv,Yw,Yx,Yy,Yz,Z0,Z1,Z2,Z3,Z4,Z5,Z6,Z7,Z8,Z9,Za,Zb,Zc,Zd,Ze,Zf,Zg,Zh,Zi,Zj,Zk,Zl,Zm,Zn,Zo,Zp,Zq,Zr,Zs,Zt,Zu,Zv,Zw,Zx,Zy,Zz,V0,V1,V2]
      try simp only [V3,V4,V5,V6,V7,V8,V9,Va,Vb,Vc,Vd,Ve,Vf,Vg,Vh,Vi,Vj,V1,V2,Vk,Vl,reduceCtorEq,Vn,Vo,Vp,Vq]
      refine rd_dgetS a5.tw tw_keepers ⟨v.A.kl, _, (at_ : Int), at_, rfl, rfl, a5.kl, ix_nat (by rw [List.length_map]; exact hk), ?_⟩
      rw [ew] at hkk
      obtain ⟨F6, k6⟩ := F.setK hk s5 g5 hkk
      exact z _ _ F6 (G.anewK hk) ⟨rfl, rfl, rfl, List.length_set, rfl, rfl⟩ k6
    · rename_i h1
      obtain ⟨x, rfl⟩ : ∃ x : Nat, at_ = v.ks.length + x := ⟨at_ - v.ks.length, by omega⟩
      have hx : x < v.hs.length := by omega
      refine seq_step fun R k => ?_
      try dsimp only [Y0,Y1,Y2,Y3,Y4,Y5,Y6,Y7,Y8,Y9,Ya,Yb,Yc,Yd,Ye,Yf,Yg,Yh,Yi,Yj,Yk,Yl,Ym,Yn,Yo,Yp,Yq,Yr,Ys,Yt,Yu,Yv,Yw,Yx,Yy,Yz,Z0,Z1,Z2,Z3,Z4,Z5,Z6,Z7,Z8,Z9,Za,Zb,Zc,Zd,Ze,Zf,Zg,Zh,Zi,Zj,Zk,Zl,Zm,Zn,Zo,Zp,Zq,Zr,Zs,Zt,Zu,Zv,Zw,Zx,Zy,Zz,V0,V1,V2]
      try simp only [V3,V4,V5,V6,V7,V8,V9,Va,Vb,Vc,Vd,Ve,Vf,Vg,Vh,Vi,Vj,V1,V2,Vk,Vl,reduceCtorEq,Vn,Vo,Vp,Vq]
      refine rd_dgetS F.at.tw tw_life ⟨v.lf, rfl, rd_dputS F.at.tw tw_small (k _ _ ?_)⟩
      clear k R
      rw [tw_put]
      obtain ⟨F1, k1⟩ := F.putLf (lf := v.lf + 1)
      have htm1 := k1 _ _ htm fx_terms
      generalize upd H v.A.tw (.dK (townD v.A (v.lf + 1))) = H1 at F1 k1 htm1 ⊢
      try dsimp only [Y0,Y1,Y2,Y3,Y4,Y5,Y6,Y7,Y8,Y9,Ya,Yb,Yc,Yd,Ye,Yf,Yg,Yh,Yi,Yj,Yk,Yl,Ym,Yn,Yo,Yp,Yq,Yr,Ys,Yt,Yu,Yv,Yw,Yx,Yy,Yz,Z0,Z1,Z2,Z3,Z4,Z5,Z6,Z7,Z8,Z9,Za,Zb,Zc,Zd,Ze,Zf,Zg,Zh,Zi,Zj,Zk,Zl,Zm,Zn,Zo,Zp,Zq,Zr,Zs,Zt,Zu,Zv,Zw,Zx,Zy,Zz,V0,V1,V2]
      try simp only [V3,V4,V5,V6,V7,V8,V9,Va,Vb,Vc,Vd,Ve,Vf,Vg,Vh,Vi,Vj,V1,V2,Vk,Vl,reduceCtorEq,Vn,Vo,Vp,Vq]
      have e1 : ((v.ks.length + x : Nat) : Int) - (v.ks.length : Int) = (x : Int) := by omega
      refine rd_dgetS F1.at.tw tw_life (rd_dgetS F1.at.tw tw_clocks (rd_ixL (SqL.of F1.at.cl) (at_ints hal) fun hp dk nkp ndk _ => ⟨hp, dk, tm, dt, lo, hi, le, ke, _, v.lf + 1, v.ch x, rfl, upd_same, ?_, gd, sm, fun H5 S f5 fS hkk => ⟨rfl, ?_⟩⟩))
      · rw [upd_ne (ne_of_none htm1 nkp), upd_ne (ne_of_none htm1 ndk)]
        exact htm1
      obtain ⟨s5, g5⟩ := born nkp ndk f5 fS
      have a5 := F1.at.same t s5
      try dsimp only [gSub,Y0,Y1,Y2,Y3,Y4,Y5,Y6,Y7,Y8,Y9,Ya,Yb,Yc,Yd,Ye,Yf,Yg,Yh,Yi,Yj,Yk,Yl,Ym,Yn,Yo,Yp,Yq,Yr,Ys,Yt,Yu,Yv,Yw,Yx,Yy,Yz,Z0,Z1,Z2,Z3,Z4,Z5,Z6,Z7,Z8,Z9,Za,Zb,Zc,Zd,Ze,Zf,Zg,Zh,Zi,Zj,Zk,Zl,Zm,Zn,Zo,Zp,Zq,Zr,Zs,Zt,Zu,Zv,Zw,Zx,Zy,Zz,V0,V1,V2]
      try simp only [V3,V4,V5,V6,V7,V8,V9,Va,Vb,Vc,Vd,Ve,Vf,Vg,Vh,Vi,Vj,V1,V2,Vk,Vl,reduceCtorEq,Vn,Vo,Vp,Vq]
      refine rd_dgetS a5.tw tw_holders ⟨v.A.hl, _, _, x, rfl, rfl, a5.hl, (by rw [e1]; exact ix_nat (by rw [List.length_map]; exact hx)), ?_⟩
      rw [el, en, show n.toNat = v.ks.length from hn ▸ Int.toNat_natCast _] at hkk
      obtain ⟨F6, k6⟩ := F1.setH hx s5 g5 hkk
      exact z _ _ F6 (G.anewH hx) ⟨rfl, rfl, rfl, rfl, List.length_set, rfl⟩ (k1.trans k6)
end
structure Ctx (K : PySem.W.Frag) (t : Adr) (H : Hp) (a tp tm dt : Addr) (ns : List Int) (lo hi le ke n : Int) (T : Tm) (v : TV) : Prop where
  sq : ∀ H', v.Ta H' → SqL K H' a (ns.map V.int)
  tp : H tp = some (.tup [.int lo, .int hi, .int le, .int ke])
  dr : Drawn lo hi le ke
  tl : T.low = lo
  th : T.high = hi
  tm : H tm = some (.ins t.Terms dt (terms lo hi le ke))
  ew : waitOf lo hi le = v.wt
  el : le = v.len
  en : ke = n
  hn : (v.ks.length : Int) = n
theorem Like.refl {v : TV} : Like v v := ⟨rfl, rfl, rfl, rfl, rfl, rfl⟩
theorem Like.trans {u v w : TV} (a : Like u v) (b : Like v w) : Like u w := ⟨b.A.trans a.A, b.Ta.trans a.Ta, b.ln.trans a.ln, b.ks.trans a.ks, b.hs.trans a.hs, b.wt.trans a.wt⟩
theorem Ctx.next {K : PySem.W.Frag} {t : Adr} {H H' : Hp} {a tp tm dt : Addr} {ns : List Int} {lo hi le ke n : Int} {T : Tm} {v v' : TV} (c : Ctx K t H a tp tm dt ns lo hi le ke n T v) (k : Keep t H H') (l : Like v v') : Ctx K t H' a tp tm dt ns lo hi le ke n T v' :=
  ⟨by rw [l.Ta]; exact c.sq, k _ _ c.tp fx_tup, c.dr, c.tl, c.th, k _ _ c.tm fx_terms, by rw [l.wt]; exact c.ew, by rw [l.ln]; exact c.el, c.en, by rw [l.ks]; exact c.hn⟩
theorem Ctx.small {K : PySem.W.Frag} {t : Adr} {H : Hp} {a tp tm dt : Addr} {ns : List Int} {lo hi le ke n : Int} {T : Tm} {v : TV} (c : Ctx K t H a tp tm dt ns lo hi le ke n T v) : Small v.len := by
  have e := c.el
  obtain ⟨dl1, dl2, dh1, dh2, de1, de2, dk1, dk2⟩ := c.dr
  rw [← e]
  exact ⟨by omega, by omega⟩
theorem menu61 {mv x : Int} {l : List Int} (h : mv ∈ l ++ [x]) (d : ∀ y, y ∈ l → 0 ≤ y ∧ y ≤ 61) (hx : 0 ≤ x ∧ x ≤ 61) : ∃ m : Nat, mv = (m : Int) ∧ m ≤ 61 := by
  have h : 0 ≤ mv ∧ mv ≤ 61 := (List.mem_append.mp h).elim (d _) fun z => List.mem_singleton.mp z ▸ hx
  exact ⟨mv.toNat, (Int.toNat_of_nonneg h.1).symm, Int.toNat_le.mpr h.2⟩
theorem wait_bounds {lo hi le ke : Int} (dr : Drawn lo hi le ke) : 1 ≤ waitOf lo hi le ∧ waitOf lo hi le ≤ 60 := by
  obtain ⟨dl1, dl2, dh1, dh2, de1, de2, dk1, dk2⟩ := id dr
  unfold waitOf
  have e1 := Int.mul_ediv_add_emod (le + lo - 1) lo
  have e2 := Int.emod_nonneg (le + lo - 1) (show lo ≠ 0 by omega)
  have e3 := Int.emod_lt_of_pos (le + lo - 1) (show 0 < lo by omega)
  have n1 : 1 ≤ (le + lo - 1) / lo := (Int.le_ediv_iff_mul_le (by omega)).mpr (by omega)
  have n2 : (le + lo - 1) / lo ≤ 12 := by
    have : (le + lo - 1) / lo < 13 := (Int.ediv_lt_iff_lt_mul (by omega)).mpr (by omega)
    omega
  generalize (le + lo - 1) / lo = n at n1 n2 ⊢
  have m1 : 1 * 1 ≤ n * hi := Int.mul_le_mul n1 (by omega) (by omega) (by omega)
  have m2 : n * hi ≤ 12 * 5 := Int.mul_le_mul n2 dh2 (by omega) (by omega)
  omega
/-- how the scene's loops stand -/
inductive InvS (t : Adr) (n : Int) (T : Tm) (v : TV) (H0 : Hp) (a tp tm pt : Addr) (N i : Nat) (σ : St) (H : Hp) : Prop
  | mk (v6 : TV) (w5 w6 w7 : Option V) (e : σ = [some (.ref a), some (.ref v.A.tw), some (.ref tp), some (.ref tm), some (.int (v.ks.length : Int)), w5, w6, w7]) (F : Tn t H n v6) (G : Good T (N + 2 * i) v6) (L : Like v v6) (k : Keep t H0 H) (hp : H pt = some (.tup [.int 0, .int 1])) : InvS t n T v H0 a tp tm pt N i σ H
inductive InvA (t : Adr) (n : Int) (T : Tm) (v : TV) (H0 : Hp) (a tp tm q : Addr) (M i : Nat) (l m : Int) (j : Nat) (σ : St) (H : Hp) : Prop
  | mk (v8 : TV) (w7 : Option V) (e : σ = [some (.ref a), some (.ref v.A.tw), some (.ref tp), some (.ref tm), some (.int (v.ks.length : Int)), some (.int (i : Int)), some (.ref q), w7]) (F : Tn t H n v8) (G : Good T M v8) (L : Like v v8) (k : Keep t H0 H) (hl : (v8.hw i).life = l) (hm : (v8.hw i).many = m) : InvA t n T v H0 a tp tm q M i l m j σ H
inductive InvN (t : Adr) (n : Int) (T : Tm) (v : TV) (H0 : Hp) (a tp tm q : Addr) (M i j : Nat) (σ : St) (H : Hp) : Prop
  | mk (v8 : TV) (w7 : Option V) (e : σ = [some (.ref a), some (.ref v.A.tw), some (.ref tp), some (.ref tm), some (.int (v.ks.length : Int)), some (.int (i : Int)), some (.ref q), w7]) (F : Tn t H n v8) (G : Good T M v8) (L : Like v v8) (k : Keep t H0 H) : InvN t n T v H0 a tp tm q M i j σ H
inductive P_sp_law_scene (K : PySem.W.Frag) (t : Adr) (vs : List V) (H : Hp) (Q : VK) (E : XK) : Prop
  | mk (a tp tm dt : Addr) (ns : List Int) (lo hi le ke n : Int) (N : Nat) (T : Tm) (v : TV) (h0_ : vs = [.ref a, .ref v.A.tw, .ref tp, .ref tm]) (h1_ : Tn t H n v) (h2_ : Good T N v) (h3_ : Ctx K t H a tp tm dt ns lo hi le ke n T v) (h4_ : N ≤ 800) (h5_ : ∀ H' v', Tn t H' n v' → Good T (N + 4) v' → Like v v' → Keep t H H' → Q (.bl true) H') : P_sp_law_scene K t vs H Q E
def sp_law_scene (K : PySem.W.Frag) (t : Adr) : Sp := fun vs H Q E => P_sp_law_scene K t vs H Q E
section
variable {P : Program} {w : World} {K : PySem.W.Frag} {mg : Str → Option Value} {base : Heap} {t : Adr}
theorem ok_law_scene (T : Txt K mg t) : FnOk P w K mg base CX0 5 t.f_law_scene t.d_law_scene ["_law_script", "_law_town", "_law_terms_here", "_law_made"] (sp_law_scene K t) := by
  refine T.F_law_scene.ok sc_law_scene (fun vs H Q E h => ?_) (fun cdv A outer s H vs Q E hr h => ?_)
  · obtain ⟨a, tp, tm, dt, ns, lo, hi, le, ke, n, N, Tt, v, rfl, _⟩ := h
    rfl
  · obtain ⟨a, tp, tm, dt, ns, lo, hi, le, ke, n, N, Tt, v, rfl, F, G, C, hN, z⟩ := h
    refine ⟨_, (jss_cons (js_set (i := 4) nc_call sc_law_scene.nd rfl lo_law_scene__law_many (je_callB nm_len lo_law_scene_len jc_len T.z_len bt_len sx_sub ns_nil (ja_cons sx_sub (je_dget (hu_of hr) (je_var (i := 1) nm__law_town lo_law_scene__law_town rfl) je_str (fun _ _ => rfl)) ja_nil)))
      (jss_cons (js_for PassesOwn.never rfl (ji_tup (je_tup (ja_cons sx_const je_int (ja_cons sx_const je_int ja_nil)))) (jg_name (i := 5) sc_law_scene.nd rfl lo_law_scene__law_name) (jss_cons (js_set (i := 6) nc_call sc_law_scene.nd rfl lo_law_scene__law_number (je_meth bs_sub rfl (by decide) (je_ix jx_list (je_dget (hu_of hr) (je_var (i := 1) nm__law_town lo_law_scene__law_town rfl) je_str (fun _ _ => rfl)) (je_var (i := 5) nm__law_name lo_law_scene__law_name rfl) (fun _ _ => rfl)) T.cl_Holder T.h_Holder_ask (ok_Holder_ask T) (hr.mono (by decide)) T.b_Holder_ask passX sx_sub ns_nil (ja_cons sx_sub (je_ix jx_list (je_dget (hu_of hr) (je_var (i := 1) nm__law_town lo_law_scene__law_town rfl) je_str (fun _ _ => rfl)) (je_op jo_add (je_var (i := 4) nm__law_many lo_law_scene__law_many rfl) (je_var (i := 5) nm__law_name lo_law_scene__law_name rfl)) (fun _ _ => rfl)) ja_nil)))
      (jss_cons (js_for PassesOwn.never rfl (ji_range1 lo_law_scene_range T.z_range sx_name (ja_cons sx_name (je_var (i := 4) nm__law_many lo_law_scene__law_many rfl) ja_nil)) (jg_name (i := 7) sc_law_scene.nd rfl lo_law_scene__law_keeper) (jss_one (js_if (jt_val pl_call (je_meth bs_sub rfl (by decide) (je_ix jx_list (je_dget (hu_of hr) (je_var (i := 1) nm__law_town lo_law_scene__law_town rfl) je_str (fun _ _ => rfl)) (je_var (i := 7) nm__law_keeper lo_law_scene__law_keeper rfl) (fun _ _ => rfl)) T.cl_Keeper T.h_Keeper_asked (ok_Keeper_asked T) (hr.mono (by decide)) T.b_Keeper_asked passX sx_sub (ns_cons sx_name (ns_cons sx_name ns_nil)) (ja_cons sx_sub (je_ix jx_list (je_dget (hu_of hr) (je_var (i := 1) nm__law_town lo_law_scene__law_town rfl) je_str (fun _ _ => rfl)) (je_var (i := 7) nm__law_keeper lo_law_scene__law_keeper rfl) (fun _ _ => rfl)) (ja_cons sx_name (je_var (i := 5) nm__law_name lo_law_scene__law_name rfl) (ja_cons sx_name (je_var (i := 6) nm__law_number lo_law_scene__law_number rfl) ja_nil))))) (jss_one (js_expr nc_call (je_meth bs_sub rfl (by decide) (je_ix jx_list (je_dget (hu_of hr) (je_var (i := 1) nm__law_town lo_law_scene__law_town rfl) je_str (fun _ _ => rfl)) (je_var (i := 5) nm__law_name lo_law_scene__law_name rfl) (fun _ _ => rfl)) T.cl_Holder T.h_Holder_hear (ok_Holder_hear T) (hr.mono (by decide)) T.b_Holder_hear passX sx_sub (ns_cons sx_name (ns_cons sx_name ns_nil)) (ja_cons sx_sub (je_ix jx_list (je_dget (hu_of hr) (je_var (i := 1) nm__law_town lo_law_scene__law_town rfl) je_str (fun _ _ => rfl)) (je_op jo_add (je_var (i := 4) nm__law_many lo_law_scene__law_many rfl) (je_var (i := 5) nm__law_name lo_law_scene__law_name rfl)) (fun _ _ => rfl)) (ja_cons sx_name (je_var (i := 7) nm__law_keeper lo_law_scene__law_keeper rfl) (ja_cons sx_name (je_var (i := 6) nm__law_number lo_law_scene__law_number rfl) ja_nil)))))) jss_nil)) (fun _ => rfl))
      (jss_cons (js_if (jt_not (jt_val pl_call (je_call nm__law_one lo_law_scene__law_one (ok_law_one T) (hr.mono (by decide)) T.m_law_one T.F_law_one.kp T.b_law_one pass0 sx_name ns_nil (ja_cons sx_name (je_var (i := 1) nm__law_town lo_law_scene__law_town rfl) ja_nil)))) (jss_one (js_ret je_bl)) jss_nil)
      (jss_cons (js_expr nc_call (je_call nm__law_ticks lo_law_scene__law_ticks (ok_law_ticks T) (hr.mono (by decide)) T.m_law_ticks T.F_law_ticks.kp T.b_law_ticks pass0 sx_name (ns_cons sx_bin (ns_cons sx_name (ns_cons sx_sub (ns_cons sx_sub ns_nil)))) (ja_cons sx_name (je_var (i := 0) nm__law_script lo_law_scene__law_script rfl) (ja_cons sx_bin (je_op jo_add je_int (je_var (i := 5) nm__law_name lo_law_scene__law_name rfl)) (ja_cons sx_name (je_var (i := 2) nm__law_terms_here lo_law_scene__law_terms_here rfl) (ja_cons sx_sub (je_dget (hu_of hr) (je_var (i := 1) nm__law_town lo_law_scene__law_town rfl) je_str (fun _ _ => rfl)) (ja_cons sx_sub (je_ix jx_list (je_lst (ja_cons sx_const je_int (ja_cons sx_const je_int (ja_cons sx_const je_int (ja_cons sx_bin (je_op jo_fdiv (je_call nm__law_wait lo_law_scene__law_wait (ok_law_wait T) (hr.mono (by decide)) T.m_law_wait T.F_law_wait.kp T.b_law_wait pass0 sx_name ns_nil (ja_cons sx_name (je_var (i := 2) nm__law_terms_here lo_law_scene__law_terms_here rfl) ja_nil)) je_int) ja_nil))))) (je_op jo_mod (je_call nm__law_mix lo_law_scene__law_mix (ok_law_mix T) (hr.mono (by decide)) T.m_law_mix T.F_law_mix.kp T.b_law_mix pass0 sx_name (ns_cons sx_const ns_nil) (ja_cons sx_name (je_var (i := 0) nm__law_script lo_law_scene__law_script rfl) (ja_cons sx_const je_int ja_nil))) je_int) (fun _ _ => rfl)) ja_nil)))))))
      (jss_one (js_for PassesOwn.never rfl (ji_range1 lo_law_scene_range T.z_range sx_bin (ja_cons sx_bin (je_op jo_mul (je_var (i := 4) nm__law_many lo_law_scene__law_many rfl) (je_callTy nm_int lo_law_scene_int jc_int T.z_int bt_int sx_cmp ns_nil (ja_cons sx_cmp (je_cmp jo_eq (je_op jo_mod (je_call nm__law_mix lo_law_scene__law_mix (ok_law_mix T) (hr.mono (by decide)) T.m_law_mix T.F_law_mix.kp T.b_law_mix pass0 sx_name (ns_cons sx_const ns_nil) (ja_cons sx_name (je_var (i := 0) nm__law_script lo_law_scene__law_script rfl) (ja_cons sx_const je_int ja_nil))) je_int) je_int (by decide) (by decide)) ja_nil))) ja_nil)) (jg_name (i := 7) sc_law_scene.nd rfl lo_law_scene__law_keeper) (jss_one (js_asg nc_call (je_make nm_Keeper lo_law_scene_Keeper T.k_Keeper (ok_Keeper_init T) (hr.mono (by decide)) T.m_Keeper T.b_Keeper_init pass0 sx_name (ns_cons sx_sub ns_nil) (ja_cons sx_name (je_var (i := 3) nm__law_made lo_law_scene__law_made rfl) (ja_cons sx_sub (je_ix jx_list (je_dget (hu_of hr) (je_var (i := 1) nm__law_town lo_law_scene__law_town rfl) je_str (fun _ _ => rfl)) (je_var (i := 7) nm__law_keeper lo_law_scene__law_keeper rfl) (fun _ _ => rfl)) ja_nil))) (jg_sub (je_dget (hu_of hr) (je_var (i := 1) nm__law_town lo_law_scene__law_town rfl) je_str (fun _ _ => rfl)) (je_var (i := 7) nm__law_keeper lo_law_scene__law_keeper rfl) jp_list (fun _ => rfl)) rfl rfl)) (fun _ => rfl))))))) (fun _ => rfl))
      (jss_one (js_ret (je_call nm__law_one lo_law_scene__law_one (ok_law_one T) (hr.mono (by decide)) T.m_law_one T.F_law_one.kp T.b_law_one pass0 sx_name ns_nil (ja_cons sx_name (je_var (i := 1) nm__law_town lo_law_scene__law_town rfl) ja_nil)))))).h, ?_⟩
    dsimp only [cxOf_K, L2.start, List.map_cons, List.map_nil, List.length_cons, List.length_nil, List.cons_append, List.nil_append, List.replicate]
    refine fix_s (by simp only [List.map_cons, List.map_nil, List.cons_append, List.nil_append, Nat.sub_self, List.replicate, List.append_nil]; exact rfl) ?_
    have gk := G.kn
    have hn := C.hn
    refine seq_step fun R k => ?_
    try dsimp only [Y0,Y1,Y2,Y3,Y4,Y5,Y6,Y7,Y8,Y9,Ya,Yb,Yc,Yd,Ye,Yf,Yg,Yh,Yi,Yj,Yk,Yl,Ym,Yn,Yo,Yp,Yq,Yr,Ys,Yt,Yu,Yv,Yw,Yx,Yy,Yz,Z0,Z1,Z2,Z3,Z4,Z5,Z6,Z7,Z8,Z9,Za,Zb,Zc,Zd,Ze,Zf,Zg,Zh,Zi,Zj,Zk,Zl,Zm,Zn,Zo,Zp,Zq,Zr,Zs,Zt,Zu,Zv,Zw,Zx,Zy,Zz,V0,V1,V2]
    try simp only [V3,V4,V5,V6,V7,V8,V9,Va,Vb,Vc,Vd,Ve,Vf,Vg,Vh,Vi,Vj,V1,V2,Vk,Vl,reduceCtorEq,Vn,Vo,Vp,Vq]
    refine rd_dgetS F.at.tw tw_keepers (rd_lenL (SqL.of F.at.kl) ?_)
    rw [List.length_map]
    refine k _ _ ?_
    clear k R
    refine seq_step fun R k => ?_
    refine for_step fun B kB => ?_
    try dsimp only [iTup,Y0,Y1,Y2,Y3,Y4,Y5,Y6,Y7,Y8,Y9,Ya,Yb,Yc,Yd,Ye,Yf,Yg,Yh,Yi,Yj,Yk,Yl,Ym,Yn,Yo,Yp,Yq,Yr,Ys,Yt,Yu,Yv,Yw,Yx,Yy,Yz,Z0,Z1,Z2,Z3,Z4,Z5,Z6,Z7,Z8,Z9,Za,Zb,Zc,Zd,Ze,Zf,Zg,Zh,Zi,Zj,Zk,Zl,Zm,Zn,Zo,Zp,Zq,Zr,Zs,Zt,Zu,Zv,Zw,Zx,Zy,Zz,V0,V1,V2]
    try simp only [V3,V4,V5,V6,V7,V8,V9,Va,Vb,Vc,Vd,Ve,Vf,Vg,Vh,Vi,Vj,V1,V2,Vk,Vl,reduceCtorEq,Vn,Vo,Vp,Vq]
    refine ⟨by decide, fun pt hpt => ⟨⟨_, SqT.of upd_same⟩, kB _ _ ?_⟩⟩
    clear kB B
    have s0 := same_upd (o := .tup [.int 0, .int 1]) hpt
    refine for_tup (xs := [.int 0, .int 1]) (InvS t n Tt v H a tp tm pt N) ?_ ?_ ?_ ?_
    · exact ⟨v, _, _, _, rfl, F.same s0, G, Like.refl, Keep.of s0, upd_same⟩
    · rintro i σ H6 _ ⟨v6, w5, w6, w7, rfl, _, _, _, _, hpt6⟩
      exact SqT.of hpt6
    · rintro i xv σ H6 hxv ⟨v6, w5, w6, w7, rfl, F6, G6, L6, k6, hpt6⟩
      clear k
      have hi2 : i < 2 := (List.getElem?_eq_some_iff.mp hxv).1
      obtain rfl : xv = .int (i : Int) := by
        rcases (show i = 0 ∨ i = 1 by omega) with rfl | rfl
        · cases hxv; rfl
        · cases hxv; rfl
      clear hxv
      have C6 := C.next k6 L6
      have sl := C6.small
      have gh := G6.hn
      have gk6 := G6.kn
      have gc := G6.cl
      have hn6 := C6.hn
      have hx : i < v6.hs.length := by omega
      have ehs : v6.hs[i]? = some v6.hs[i] := List.getElem?_eq_getElem hx
      have a6 : TAt v.A v6.ks v6.hs v6.cl v6.lf v6.bag H6 := by rw [← L6.A]; exact F6.at
      have hN8 : N + 2 * i ≤ 900 := by omega
      have sx := G6.sh hx hN8
      have m9 := G6.few hx hN8
      have mx := G6.mn i hx
      have m0 := G6.m0 hx
      dsimp only [gName]
      refine seq_step fun R2 k2 => ?_
      try dsimp only [Y0,Y1,Y2,Y3,Y4,Y5,Y6,Y7,Y8,Y9,Ya,Yb,Yc,Yd,Ye,Yf,Yg,Yh,Yi,Yj,Yk,Yl,Ym,Yn,Yo,Yp,Yq,Yr,Ys,Yt,Yu,Yv,Yw,Yx,Yy,Yz,Z0,Z1,Z2,Z3,Z4,Z5,Z6,Z7,Z8,Z9,Za,Zb,Zc,Zd,Ze,Zf,Zg,Zh,Zi,Zj,Zk,Zl,Zm,Zn,Zo,Zp,Zq,Zr,Zs,Zt,Zu,Zv,Zw,Zx,Zy,Zz,V0,V1,V2]
      try simp only [V3,V4,V5,V6,V7,V8,V9,Va,Vb,Vc,Vd,Ve,Vf,Vg,Vh,Vi,Vj,V1,V2,Vk,Vl,reduceCtorEq,Vn,Vo,Vp,Vq]
      refine rd_dgetS a6.tw tw_holders (rd_ixL (SqL.of a6.hl) (at_refs hx) ?_)
      have hA := F6.holder ehs
      obtain ⟨dx, fs, hp, l1, _⟩ := hA.meth
      refine rd_meth hp l1 (rd_dgetS a6.tw tw_clocks ?_)
      rw [show (v.ks.length : Int) + (i : Int) = ((v6.ks.length + i : Nat) : Int) by rw [L6.ks]; omega]
      refine rd_ixL (SqL.of a6.cl) (at_ints (G6.hl hx)) ⟨v6.hs[i], v6.Sh i, n, v6.len, v6.hw i, v6.ch i, 0, pt, 0, 0, rfl, hA, G6.n1 hn6, G6.n5 hn6, m9, sx, ⟨by decide, by decide⟩, sl, (fun e => absurd e (by decide)), fun H7 S7 f7 hk7 => ?_⟩
      have F7 := F6.putH ehs f7 hk7
      have k67 := F6.fxH f7
      have G7 := G6.ask (S' := S7) (kk := 0) (a := 0) (b := 0) hx
      rw [hn6] at G7
      have e1 : (hdue n v6.len (v6.hw i) 0 (v6.ch i) 0 0 0).1 = .pair (v6.hw i).life (v6.hw i).many := by rw [hdue_ask (G6.hc hx)]
      have e2 : (hdue n v6.len (v6.hw i) 0 (v6.ch i) 0 0 0).2.life = (v6.hw i).life ∧ (hdue n v6.len (v6.hw i) 0 (v6.ch i) 0 0 0).2.many = (v6.hw i).many + 1 := by rw [hdue_ask (G6.hc hx)]; exact ⟨rfl, rfl⟩
      rw [e1]
      refine out_pair fun q hq => k2 _ _ ?_
      clear k2 R2
      refine seq_step fun R2 k2 => ?_
      have hkp7 : Keep t H H7 := k6.trans k67
      have hpt7 := k67 _ _ hpt6 fx_tup
      obtain ⟨v7, F7, G7, L7, hl7, hm7⟩ : ∃ v7 : TV, Tn t H7 n v7 ∧ Good Tt (N + 2 * i + 1) v7 ∧ Like v v7 ∧ (v7.hw i).life = (v6.hw i).life ∧ (v7.hw i).many = (v6.hw i).many + 1 :=
        ⟨_, F7, G7, ⟨L6.A, L6.Ta, L6.ln, L6.ks, L6.hs, L6.wt⟩, by dsimp only; rw [atS_same]; exact e2.1, by dsimp only; rw [atS_same]; exact e2.2⟩
      generalize (v6.hw i).life = l at hl7 hq
      generalize (v6.hw i).many = m at hm7 hq m0 mx
      clear F6 G6 L6 C6 k6 hpt6 sl gh gk6 gc hn6 hx ehs a6 sx hA hp l1 f7 hk7 k67 e1 e2
      refine for_step fun B kB => ?_
      try dsimp only [iRng1,Y0,Y1,Y2,Y3,Y4,Y5,Y6,Y7,Y8,Y9,Ya,Yb,Yc,Yd,Ye,Yf,Yg,Yh,Yi,Yj,Yk,Yl,Ym,Yn,Yo,Yp,Yq,Yr,Ys,Yt,Yu,Yv,Yw,Yx,Yy,Yz,Z0,Z1,Z2,Z3,Z4,Z5,Z6,Z7,Z8,Z9,Za,Zb,Zc,Zd,Ze,Zf,Zg,Zh,Zi,Zj,Zk,Zl,Zm,Zn,Zo,Zp,Zq,Zr,Zs,Zt,Zu,Zv,Zw,Zx,Zy,Zz,V0,V1,V2]
      try simp only [V3,V4,V5,V6,V7,V8,V9,Va,Vb,Vc,Vd,Ve,Vf,Vg,Vh,Vi,Vj,V1,V2,Vk,Vl,reduceCtorEq,Vn,Vo,Vp,Vq]
      refine ⟨by omega, by omega, kB _ _ ?_⟩
      clear kB B
      refine for_range (lo := 0) (InvA t n Tt v H7 a tp tm q (N + 2 * i + 1) i l (m + 1)) ?_ ?_ ?_
      · exact ⟨v7, _, rfl, F7, G7, L7, fun _ _ e _ => e, hl7, hm7⟩
      · rintro j σ H8 hj ⟨v8, w7, rfl, F8, G8, L8, k78, hl8, hm8⟩
        clear F7 G7 L7 hl7 hm7 k2
        have C8 := C.next (hkp7.trans k78) L8
        have sl := C8.small
        have gh := G8.hn
        have gk8 := G8.kn
        have gc := G8.cl
        have hn8 := C8.hn
        have hk : j < v8.ks.length := by rw [L8.ks]; omega
        have hx : i < v8.hs.length := by omega
        have eks : v8.ks[j]? = some v8.ks[j] := List.getElem?_eq_getElem hk
        have ehs : v8.hs[i]? = some v8.hs[i] := List.getElem?_eq_getElem hx
        have a8 : TAt v.A v8.ks v8.hs v8.cl v8.lf v8.bag H8 := by rw [← L8.A]; exact F8.at
        have hq8 := k78 _ _ hq fx_tup
        have hN9 : N + 2 * i + 1 ≤ 900 := by omega
        have hnl : nlt (l, m) ((v8.hw i).life, (v8.hw i).many) := by rw [hl8, hm8]; unfold nlt; dsimp only; omega
        dsimp only [gName]
        rw [Int.zero_add]
        try dsimp only [Y0,Y1,Y2,Y3,Y4,Y5,Y6,Y7,Y8,Y9,Ya,Yb,Yc,Yd,Ye,Yf,Yg,Yh,Yi,Yj,Yk,Yl,Ym,Yn,Yo,Yp,Yq,Yr,Ys,Yt,Yu,Yv,Yw,Yx,Yy,Yz,Z0,Z1,Z2,Z3,Z4,Z5,Z6,Z7,Z8,Z9,Za,Zb,Zc,Zd,Ze,Zf,Zg,Zh,Zi,Zj,Zk,Zl,Zm,Zn,Zo,Zp,Zq,Zr,Zs,Zt,Zu,Zv,Zw,Zx,Zy,Zz,V0,V1,V2]
        try simp only [V3,V4,V5,V6,V7,V8,V9,Va,Vb,Vc,Vd,Ve,Vf,Vg,Vh,Vi,Vj,V1,V2,Vk,Vl,reduceCtorEq,Vn,Vo,Vp,Vq]
        refine rd_dgetS a8.tw tw_keepers (rd_ixL (SqL.of a8.kl) (at_refs hk) ?_)
        have hA := F8.keeper eks
        obtain ⟨dx, fs, hp, m1, _⟩ := hA.meth
        refine rd_meth hp m1 (rd_dgetS a8.tw tw_clocks (rd_ixL (SqL.of a8.cl) (at_ints (G8.kl hk)) ⟨v8.ks[j], v8.Sk j, v8.wt, v8.kw j, v8.ck j, (i : Int), q, l, m, rfl, hA, G8.sk hk hN9, (fun _ => hq8), fun H9 S9 f9 hk9 => ?_⟩))
        have F9 := F8.putK eks f9 hk9
        have k9 := F8.fxK f9
        have ec := (kp_asked (wt := v8.wt) (name := (i : Int)) (a := l) (b := m) (q := q) (G8.kc hk)).1
        generalize (kp (v8.kw j)).says (v8.ck j) (i : Int) (l, m) = c at ec
        rw [ec]
        refine outk_bl ⟨c, rfl, ?_⟩
        cases c with
        | false =>
          rw [if_neg (by decide)]
          exact ⟨_, _, rfl, F9, G8.no hk hx hnl ec, ⟨L8.A, L8.Ta, L8.ln, L8.ks, L8.hs, L8.wt⟩, k78.trans k9, hl8, hm8⟩
        | true =>
          rw [if_pos rfl]
          have a9 : TAt v.A v8.ks v8.hs v8.cl v8.lf v8.bag H9 := by rw [← L8.A]; exact F9.at
          refine rd_dgetS a9.tw tw_holders (rd_ixL (SqL.of a9.hl) (at_refs hx) ?_)
          have hB := F9.holder ehs
          obtain ⟨dx, fs, hp, _, l2, _⟩ := hB.meth
          refine rd_meth hp l2 (rd_dgetS a9.tw tw_clocks ?_)
          rw [show (v.ks.length : Int) + (i : Int) = ((v8.ks.length + i : Nat) : Int) by rw [L8.ks]; omega]
          refine rd_ixL (SqL.of a9.cl) (at_ints (G8.hl hx)) ⟨v8.hs[i], v8.Sh i, n, v8.len, v8.hw i, v8.ch i, (j : Int), q, l, m, rfl, hB, G8.n1 hn8, G8.n5 hn8, G8.few hx hN9, G8.sh hx hN9, G8.at_ hk, sl, (fun _ => k9 _ _ hq8 fx_tup), fun HA SA fA hkA => ?_⟩
          have FA := F9.putH ehs fA hkA
          have kA := F9.fxH (i := i) fA
          have GA := G8.askHear (S' := S9) (S2 := SA) hk hx hnl ec
          rw [hn8] at GA
          have eh : (hdue n v8.len (v8.hw i) 1 (v8.ch i) (j : Int) l m).1 = .v .non := by rw [hdue_hear ⟨by omega, by omega⟩ (G8.hc hx)]
          have el : (hdue n v8.len (v8.hw i) 1 (v8.ch i) (j : Int) l m).2.life = (v8.hw i).life ∧ (hdue n v8.len (v8.hw i) 1 (v8.ch i) (j : Int) l m).2.many = (v8.hw i).many := by
            rw [hdue_hear ⟨by omega, by omega⟩ (G8.hc hx)]
            dsimp only
            split <;> exact ⟨rfl, rfl⟩
          rw [eh]
          refine out_non ⟨_, _, rfl, FA, GA, ⟨L8.A, L8.Ta, L8.ln, L8.ks, L8.hs, L8.wt⟩, (k78.trans k9).trans kA, ?_, ?_⟩
          · dsimp only
            rw [atS_same, el.1]
            exact hl8
          · dsimp only
            rw [atS_same, el.2]
            exact hm8
      · rintro σ H8 ⟨v8, w7, rfl, F8, G8, L8, k78, hl8, hm8⟩
        refine k2 _ _ ?_
        clear k2 R2
        refine seq_step fun R2 k2 => ?_
        try dsimp only [Y0,Y1,Y2,Y3,Y4,Y5,Y6,Y7,Y8,Y9,Ya,Yb,Yc,Yd,Ye,Yf,Yg,Yh,Yi,Yj,Yk,Yl,Ym,Yn,Yo,Yp,Yq,Yr,Ys,Yt,Yu,Yv,Yw,Yx,Yy,Yz,Z0,Z1,Z2,Z3,Z4,Z5,Z6,Z7,Z8,Z9,Za,Zb,Zc,Zd,Ze,Zf,Zg,Zh,Zi,Zj,Zk,Zl,Zm,Zn,Zo,Zp,Zq,Zr,Zs,Zt,Zu,Zv,Zw,Zx,Zy,Zz,V0,V1,V2]
        try simp only [V3,V4,V5,V6,V7,V8,V9,Va,Vb,Vc,Vd,Ve,Vf,Vg,Vh,Vi,Vj,V1,V2,Vk,Vl,reduceCtorEq,Vn,Vo,Vp,Vq]
        have C8 := C.next (hkp7.trans k78) L8
        refine ⟨n, N + 2 * i + 1, Tt, v8, by rw [L8.A], F8, G8, C8.hn, by omega, C8.small, fun H9 Sh9 hw9 F9 G9 _ k89 => ⟨true, rfl, ?_⟩⟩
        rw [if_neg (by decide)]
        refine k2 _ _ ?_
        clear k2 R2
        refine seq_step fun R2 k2 => ?_
        have hpt9 := (k78.trans k89) _ _ hpt7 fx_tup
        have k9 : Keep t H H9 := (hkp7.trans k78).trans k89
        obtain ⟨v9, F9, G9, L9⟩ : ∃ v9 : TV, Tn t H9 n v9 ∧ Good Tt (N + 2 * i + 1) v9 ∧ Like v v9 := ⟨_, F9, G9, ⟨L8.A, L8.Ta, L8.ln, L8.ks, L8.hs, L8.wt⟩⟩
        have C9 := C.next k9 L9
        clear F7 G7 L7 hl7 hm7 F8 G8 L8 k78 hl8 hm8 C8 k89 hpt7 hkp7 hq
        have a9 : TAt v.A v9.ks v9.hs v9.cl v9.lf v9.bag H9 := by rw [← L9.A]; exact F9.at
        have wb := wait_bounds C9.dr
        try dsimp only [Y0,Y1,Y2,Y3,Y4,Y5,Y6,Y7,Y8,Y9,Ya,Yb,Yc,Yd,Ye,Yf,Yg,Yh,Yi,Yj,Yk,Yl,Ym,Yn,Yo,Yp,Yq,Yr,Ys,Yt,Yu,Yv,Yw,Yx,Yy,Yz,Z0,Z1,Z2,Z3,Z4,Z5,Z6,Z7,Z8,Z9,Za,Zb,Zc,Zd,Ze,Zf,Zg,Zh,Zi,Zj,Zk,Zl,Zm,Zn,Zo,Zp,Zq,Zr,Zs,Zt,Zu,Zv,Zw,Zx,Zy,Zz,V0,V1,V2]
        try simp only [V3,V4,V5,V6,V7,V8,V9,Va,Vb,Vc,Vd,Ve,Vf,Vg,Vh,Vi,Vj,V1,V2,Vk,Vl,reduceCtorEq,Vn,Vo,Vp,Vq]
        refine rd_dgetS a9.tw tw_clocks ⟨tp, lo, hi, le, ke, rfl, C9.tp, C9.dr, waitOf lo hi le, rfl, ⟨by decide, by decide⟩, by decide, fun pm hpm => ?_⟩
        have sA := same_upd (o := .lst [.int 0, .int 1, .int 2, .int (waitOf lo hi le / 2)]) hpm
        have FA := F9.same sA
        refine mix_any (C9.sq _ FA.script) fun i72 => ⟨i72, rfl, by decide, menu [0, 1, 2, waitOf lo hi le / 2] upd_same (by decide) (by rfl) fun mv hmv => ?_⟩
        obtain ⟨mm, rfl, hmb⟩ : ∃ mm : Nat, mv = (mm : Int) ∧ mm ≤ 61 := by
          exact menu61 (l := [0, 1, 2]) hmv (by decide) ⟨Int.ediv_nonneg (Int.le_trans (by decide) wb.1) (by decide), Int.le_trans (Int.ediv_le_self _ (Int.le_trans (by decide) wb.1)) (Int.le_trans wb.2 (by decide))⟩
        refine ⟨a, tp, ns, 70 + (i : Int), lo, hi, le, ke, n, mm, N + 2 * i + 1, Tt, v9, by rw [L9.A], FA, G9, C9.sq, sA _ _ C9.tp, C9.dr, C9.tl, C9.th, hmb, fun HB cl' FB GB hcl kB => k2 _ _ ?_⟩
        clear k2 R2
        have hkB : Keep t H HB := (k9.trans (Keep.of sA)).trans kB
        have hptB := kB _ _ (sA _ _ hpt9) fx_tup
        obtain ⟨vB, FB, GB, LB⟩ : ∃ vB : TV, Tn t HB n vB ∧ Good Tt (N + 2 * (i + 1)) vB ∧ Like v vB := ⟨_, FB, GB, ⟨L9.A, L9.Ta, L9.ln, L9.ks, L9.hs, L9.wt⟩⟩
        have CB := C.next hkB LB
        clear F9 G9 L9 C9 k9 a9 FA sA hpm hmv kB hpt9 hcl
        refine for_step fun B kB => ?_
        try dsimp only [iRng1,Y0,Y1,Y2,Y3,Y4,Y5,Y6,Y7,Y8,Y9,Ya,Yb,Yc,Yd,Ye,Yf,Yg,Yh,Yi,Yj,Yk,Yl,Ym,Yn,Yo,Yp,Yq,Yr,Ys,Yt,Yu,Yv,Yw,Yx,Yy,Yz,Z0,Z1,Z2,Z3,Z4,Z5,Z6,Z7,Z8,Z9,Za,Zb,Zc,Zd,Ze,Zf,Zg,Zh,Zi,Zj,Zk,Zl,Zm,Zn,Zo,Zp,Zq,Zr,Zs,Zt,Zu,Zv,Zw,Zx,Zy,Zz,V0,V1,V2]
        try simp only [V3,V4,V5,V6,V7,V8,V9,Va,Vb,Vc,Vd,Ve,Vf,Vg,Vh,Vi,Vj,V1,V2,Vk,Vl,reduceCtorEq,Vn,Vo,Vp,Vq]
        refine mix_any (CB.sq _ FB.script) fun i73 => ⟨i73, rfl, by decide, rd_intB ?_⟩
        have he : ∃ e : Int, (if decide (i73 % 2 = 0) = true then (1 : Int) else 0) = e ∧ (e = 0 ∨ e = 1) := by
          cases decide (i73 % 2 = 0)
          · exact ⟨0, rfl, .inl rfl⟩
          · exact ⟨1, rfl, .inr rfl⟩
        obtain ⟨e, ee, he⟩ := he
        rw [ee]
        have hmul : 0 ≤ (v.ks.length : Int) * e ∧ (v.ks.length : Int) * e ≤ (v.ks.length : Int) := by
          rcases he with rfl | rfl
          · rw [Int.mul_zero]; omega
          · rw [Int.mul_one]; omega
        refine ⟨e, rfl, .inl ⟨by omega, by omega⟩, by omega, by omega, kB _ _ ?_⟩
        clear kB B
        obtain ⟨cn, hcn, hcl⟩ : ∃ cn : Nat, ((v.ks.length : Int) * e).toNat = cn ∧ cn ≤ v.ks.length := ⟨_, rfl, by omega⟩
        rw [hcn]
        refine for_range (lo := 0) (InvN t n Tt v HB a tp tm q (N + 2 * (i + 1)) i) ?_ ?_ ?_
        · exact ⟨vB, _, rfl, FB, GB, LB, fun _ _ e _ => e⟩
        · rintro j σ H8 hj ⟨v8, w7, rfl, F8, G8, L8, k8⟩
          clear FB GB LB
          have C8 := C.next (hkB.trans k8) L8
          have gk8 := G8.kn
          have gc := G8.cl
          have hk : j < v8.ks.length := by rw [L8.ks]; omega
          have a8 : TAt v.A v8.ks v8.hs v8.cl v8.lf v8.bag H8 := by rw [← L8.A]; exact F8.at
          dsimp only [gName]
          rw [Int.zero_add]
          try dsimp only [Y0,Y1,Y2,Y3,Y4,Y5,Y6,Y7,Y8,Y9,Ya,Yb,Yc,Yd,Ye,Yf,Yg,Yh,Yi,Yj,Yk,Yl,Ym,Yn,Yo,Yp,Yq,Yr,Ys,Yt,Yu,Yv,Yw,Yx,Yy,Yz,Z0,Z1,Z2,Z3,Z4,Z5,Z6,Z7,Z8,Z9,Za,Zb,Zc,Zd,Ze,Zf,Zg,Zh,Zi,Zj,Zk,Zl,Zm,Zn,Zo,Zp,Zq,Zr,Zs,Zt,Zu,Zv,Zw,Zx,Zy,Zz,V0,V1,V2]
          try simp only [V3,V4,V5,V6,V7,V8,V9,Va,Vb,Vc,Vd,Ve,Vf,Vg,Vh,Vi,Vj,V1,V2,Vk,Vl,reduceCtorEq,Vn,Vo,Vp,Vq]
          refine rd_dgetS a8.tw tw_clocks (rd_ixL (SqL.of a8.cl) (at_ints (G8.kl hk)) fun kp dk nkp ndk _ => ⟨kp, dk, tm, dt, lo, hi, le, ke, v8.ck j, rfl, upd_same, ?_, C8.dr.good, G8.sk hk (by omega), fun H5 S f5 fS hkk => ⟨rfl, ?_⟩⟩)
          · rw [upd_ne (ne_of_none C8.tm nkp), upd_ne (ne_of_none C8.tm ndk)]
            exact C8.tm
          obtain ⟨s5, g5⟩ := born nkp ndk f5 fS
          have a5 := a8.same t s5
          try dsimp only [gSub,Y0,Y1,Y2,Y3,Y4,Y5,Y6,Y7,Y8,Y9,Ya,Yb,Yc,Yd,Ye,Yf,Yg,Yh,Yi,Yj,Yk,Yl,Ym,Yn,Yo,Yp,Yq,Yr,Ys,Yt,Yu,Yv,Yw,Yx,Yy,Yz,Z0,Z1,Z2,Z3,Z4,Z5,Z6,Z7,Z8,Z9,Za,Zb,Zc,Zd,Ze,Zf,Zg,Zh,Zi,Zj,Zk,Zl,Zm,Zn,Zo,Zp,Zq,Zr,Zs,Zt,Zu,Zv,Zw,Zx,Zy,Zz,V0,V1,V2]
          try simp only [V3,V4,V5,V6,V7,V8,V9,Va,Vb,Vc,Vd,Ve,Vf,Vg,Vh,Vi,Vj,V1,V2,Vk,Vl,reduceCtorEq,Vn,Vo,Vp,Vq]
          refine rd_dgetS a5.tw tw_keepers ⟨v.A.kl, _, (j : Int), j, rfl, rfl, a5.kl, ix_nat (by rw [List.length_map]; exact hk), ?_⟩
          rw [C8.ew] at hkk
          obtain ⟨F6, k6⟩ := F8.setK hk s5 g5 hkk
          rw [← L8.A]
          exact ⟨_, some (.int (j : Int)), by rw [L8.A], F6, G8.anewK hk, ⟨L8.A, L8.Ta, L8.ln, List.length_set.trans L8.ks, L8.hs, L8.wt⟩, k8.trans k6⟩
        · rintro σ H8 ⟨v8, w7, rfl, F8, G8, L8, k8⟩
          exact ⟨v8, _, _, _, rfl, F8, G8, L8, hkB.trans k8, k8 _ _ hptB fx_tup⟩
    · rintro σ H6 ⟨v6, w5, w6, w7, rfl, F6, G6, L6, k6, hpt6⟩
      refine k _ _ ?_
      clear k R
      try dsimp only [Y0,Y1,Y2,Y3,Y4,Y5,Y6,Y7,Y8,Y9,Ya,Yb,Yc,Yd,Ye,Yf,Yg,Yh,Yi,Yj,Yk,Yl,Ym,Yn,Yo,Yp,Yq,Yr,Ys,Yt,Yu,Yv,Yw,Yx,Yy,Yz,Z0,Z1,Z2,Z3,Z4,Z5,Z6,Z7,Z8,Z9,Za,Zb,Zc,Zd,Ze,Zf,Zg,Zh,Zi,Zj,Zk,Zl,Zm,Zn,Zo,Zp,Zq,Zr,Zs,Zt,Zu,Zv,Zw,Zx,Zy,Zz,V0,V1,V2]
      try simp only [V3,V4,V5,V6,V7,V8,V9,Va,Vb,Vc,Vd,Ve,Vf,Vg,Vh,Vi,Vj,V1,V2,Vk,Vl,reduceCtorEq,Vn,Vo,Vp,Vq]
      have C6 := C.next k6 L6
      exact ⟨n, N + 4, Tt, v6, by rw [L6.A], F6, G6, C6.hn, by omega, C6.small, fun H9 Sh9 hw9 F9 G9 _ k9 => z _ _ F9 G9 ⟨L6.A, L6.Ta, L6.ln, L6.ks, L6.hs, L6.wt⟩ (k6.trans k9)⟩
end
def Own (ps : List (Addr × HO)) (H : Hp) : Prop := ∀ p, p ∈ ps → H p.1 = some p.2
section
variable {t : Adr} {H H' : Hp} {ps ps' : List (Addr × HO)} {v : Fv} {S : List Addr} {kp : Addr}
theorem Own.foot (nf : ∀ p, p ∈ ps → ¬ Fx t p.2) : Foot t (ps.map (·.1)) (Own ps) :=
  ⟨fun H h x hx => by
    obtain ⟨p, hp, rfl⟩ := List.mem_map.mp hx
    exact ⟨_, h p hp, nf p hp⟩, fun H H' h f _ p hp => f _ _ (h p hp) (List.mem_map.mpr ⟨p, hp, rfl⟩)⟩
theorem Fm.none {Sa : List Addr} {Ta : Hp → Prop} {wt n len : Int} {kw : Nat → KW} {hw : Nat → HW} (ft : Foot t Sa Ta) (h : Ta H) (s : Same H H') (fr : ∀ p, p ∈ ps → H p.1 = none) (o : Own ps H') (nf : ∀ p, p ∈ ps → ¬ Fx t p.2) :
    Fm t H' ⟨Sa, Ta, ps.map (·.1), Own ps, wt, n, len, [], [], fun _ => [], fun _ => [], kw, hw⟩ := by
  have F1 := (Fam.solo ft h).step (i := 1) (H' := H') (S' := ps.map (·.1)) (Th' := Own ps) (by
    rw [atS_ne (by omega)]
    exact fr_new s fun x hx => by
      obtain ⟨p, hp, rfl⟩ := List.mem_map.mp hx
      exact fr p hp) (Own.foot nf) o
  refine F1.as (fun j => ?_) fun j => ?_
  · rcases j with _ | _ | j
    · rw [atS_ne (by omega), atS_same]; rfl
    · rw [atS_same]; rfl
    · rw [atS_ne (by omega), atS_ne (by omega)]
      show [] = if j % 2 = 0 then [] else []
      split <;> rfl
  · rcases j with _ | _ | j
    · rw [atS_ne (by omega), atS_same]; rfl
    · rw [atS_same]; rfl
    · rw [atS_ne (by omega), atS_ne (by omega)]
      show (fun _ => True) = if j % 2 = 0 then KTh t [] wt (fun _ => []) kw (j / 2) else HTh t [] n len (fun _ => []) hw (j / 2)
      split
      · funext H
        exact propext ⟨fun _ p e => (by cases e), fun _ => trivial⟩
      · funext H
        exact propext ⟨fun _ p e => (by cases e), fun _ => trivial⟩
theorem atS_self {α : Type} {f : Nat → α} {i : Nat} : atS f i (f i) = f := by
  funext j
  by_cases e : j = i
  · subst e; rw [atS_same]
  · rw [atS_ne e]
theorem app_at {l : List Addr} {p : Addr} : (l ++ [p])[l.length]? = some p := by simp
theorem app_ne {l : List Addr} {p : Addr} (j : Nat) (h : j ≠ l.length) : (l ++ [p])[j]? = l[j]? := by
  by_cases lj : j < l.length
  · exact List.getElem?_append_left lj
  · rw [List.getElem?_eq_none (l := l ++ [p]) (by rw [List.length_append, List.length_singleton]; omega), List.getElem?_eq_none (by omega)]
theorem Fm.addK (F : Fm t H v) (s : Same H H') (fS : ∀ x, x ∈ S → H x = Option.none) (hk : KAt t H' kp S v.wt (v.kw v.ks.length)) : Fm t H' { v with ks := v.ks ++ [kp], Sk := atS v.Sk v.ks.length S } := by
  have F1 := Fm.stepK F (ks' := v.ks ++ [kp]) (i := v.ks.length) app_at app_ne (⟨fun x o e _ => s x o e, fun x hx => .inr (fS x hx)⟩ : Fr H H' (v.Sk v.ks.length) S) hk
  rw [atS_self] at F1
  exact F1
theorem Fm.addH (F : Fm t H v) (s : Same H H') (fS : ∀ x, x ∈ S → H x = Option.none) (hk : HAt t H' kp S v.n v.len (v.hw v.hs.length)) : Fm t H' { v with hs := v.hs ++ [kp], Sh := atS v.Sh v.hs.length S } := by
  have F1 := Fm.stepH F (hs' := v.hs ++ [kp]) (i := v.hs.length) app_at app_ne (⟨fun x o e _ => s x o e, fun x hx => .inr (fS x hx)⟩ : Fr H H' (v.Sh v.hs.length) S) hk
  rw [atS_self] at F1
  exact F1
theorem Fm.reown (F : Fm t H v) (h1 : v.S1 = ps.map (·.1)) (f : Fr H H' (ps.map (·.1)) (ps'.map (·.1))) (o : Own ps' H') (nf : ∀ p, p ∈ ps' → ¬ Fx t p.2) : Fm t H' { v with S1 := ps'.map (·.1), T1 := Own ps' } :=
  Fm.put1 F (by rw [h1]; exact f) (Own.foot nf) o
end
/-- terms as the mathematics has them -/
theorem tm_of {lo hi le ke : Int} (dr : Drawn lo hi le ke) : ∃ T : Tm, T.low = lo ∧ T.high = hi ∧ T.len = le ∧ T.wait = waitOf lo hi le := by
  obtain ⟨dl1, dl2, dh1, dh2, de1, de2, dk1, dk2⟩ := id dr
  have n1 : 0 ≤ (le + lo - 1) / lo := Int.ediv_nonneg (by omega) (by omega)
  have e1 := Int.mul_ediv_add_emod (le + lo - 1) lo
  have e3 := Int.emod_lt_of_pos (le + lo - 1) (show 0 < lo by omega)
  obtain ⟨k, hk⟩ : ∃ k : Nat, (le + lo - 1) / lo = (k : Int) := ⟨_, (Int.toNat_of_nonneg n1).symm⟩
  refine ⟨⟨lo, hi, le, k, dl1, dh1, ?_⟩, rfl, rfl, rfl, ?_⟩
  · rw [hk, Int.mul_comm] at e1
    omega
  · show (k : Int) * hi = (le + lo - 1) / lo * hi
    rw [hk]
/-- the town at its start is safe -/
theorem good_start {T : Tm} {v : TV} {ke : Int} (hw : v.wt = T.wait) (hl : v.len = T.len) (hc : v.cl.length = v.ks.length + v.hs.length) (hk : 1 ≤ v.ks.length ∧ v.ks.length ≤ 5) (hh : 2 ≤ v.hs.length ∧ v.hs.length ≤ 3) (hs : ∀ c, c ∈ v.cl → 0 ≤ c ∧ c < 1000) (hn : (v.ks.length : Int) = ke)
    (e1 : v.kw = fun j => ⟨v.cl.getD j 0, v.cl.getD j 0 + v.wt, none⟩) (e2 : v.hw = fun x => ⟨v.cl.getD (v.ks.length + x) 0, v.cl.getD (v.ks.length + x) 0, 0, 0, fun _ _ => none, List.replicate ke.toNat (v.cl.getD (v.ks.length + x) 0)⟩) (eb : v.bag = []) (el : v.lf = 0) : Good T 0 v := by
  refine ⟨hw, hl, hc, hk, hh, fun c h => by have := hs c h; omega, fun x hx => ?_, by rw [eb]; exact Nat.le_refl 0, fun _ => none, fun x => Hd.new 0 (v.cl.getD (v.ks.length + x) 0), fun x hx => ?_, ?_⟩
  · rw [e2]
    exact Int.le_refl 0
  · rw [e2, show ke.toNat = v.ks.length by omega]
    exact HRel.new
  · have S := Safe.start T v.ks.length v.hs.length (fun k => v.cl.getD k 0) (fun x => v.cl.getD (v.ks.length + x) 0) (fun k => v.cl.getD k 0) (fun x => v.cl.getD (v.ks.length + x) 0) (fun _ _ => Int.le_refl _) (fun _ _ => Int.le_refl _)
    unfold TV.town
    rw [e1, eb, el, hw]
    exact S
section
variable {t : Adr} {H H' : Hp} {a b c d e : Addr} {oa ob oc od oe : HO}
theorem own4 (h1 : H a = some oa) (h2 : H b = some ob) (h3 : H c = some oc) (h4 : H d = some od) : Own [(a, oa), (b, ob), (c, oc), (d, od)] H := fun p hp => by
  simp only [List.mem_cons, List.not_mem_nil, or_false] at hp
  rcases hp with rfl | rfl | rfl | rfl <;> assumption
theorem own5 (h1 : H a = some oa) (h2 : H b = some ob) (h3 : H c = some oc) (h4 : H d = some od) (h5 : H e = some oe) : Own [(a, oa), (b, ob), (c, oc), (d, od), (e, oe)] H := fun p hp => by
  simp only [List.mem_cons, List.not_mem_nil, or_false] at hp
  rcases hp with rfl | rfl | rfl | rfl | rfl <;> assumption
theorem nf4 (h1 : ¬ Fx t oa) (h2 : ¬ Fx t ob) (h3 : ¬ Fx t oc) (h4 : ¬ Fx t od) : ∀ p, p ∈ [(a, oa), (b, ob), (c, oc), (d, od)] → ¬ Fx t p.2 := fun p hp => by
  simp only [List.mem_cons, List.not_mem_nil, or_false] at hp
  rcases hp with rfl | rfl | rfl | rfl <;> assumption
theorem nf5 (h1 : ¬ Fx t oa) (h2 : ¬ Fx t ob) (h3 : ¬ Fx t oc) (h4 : ¬ Fx t od) (h5 : ¬ Fx t oe) : ∀ p, p ∈ [(a, oa), (b, ob), (c, oc), (d, od), (e, oe)] → ¬ Fx t p.2 := fun p hp => by
  simp only [List.mem_cons, List.not_mem_nil, or_false] at hp
  rcases hp with rfl | rfl | rfl | rfl | rfl <;> assumption
theorem none_of {x : Addr} (s : Same H H') (h : H' x = none) : H x = none := by
  cases e : H x with
  | none => rfl
  | some o => rw [s _ _ e] at h; cases h
theorem fr_upd {S : List Addr} {x : Addr} {o : HO} (h : x ∈ S) : Fr H (upd H x o) S S := ⟨fun y o' e ny => by rw [upd_ne fun z => ny (by rw [z]; exact h)]; exact e, fun y hy => .inl hy⟩
theorem same_trans {H'' : Hp} (s : Same H H') (s' : Same H' H'') : Same H H'' := fun x o e => s' _ _ (s _ _ e)
theorem same_late {x : Addr} {o : HO} (s : Same H H') (h : H x = none) : Same H (upd H' x o) := fun y o' e => by
  rw [upd_ne (ne_of_none e h)]
  exact s _ _ e
end
/-- an if, branch by branch -/
theorem tif_gen {c : TT} {A B : TS} {D : Ends} {σ : St} {H : Hp} (h : ∀ (FA FB : Hp → Prop), (∀ H1, A D σ H1 → FA H1) → (∀ H1, B D σ H1 → FB H1) → c σ H fun b H1 => if b = true then FA H1 else FB H1) : tIfS c A B D σ H := h _ _ (fun _ x => x) fun _ x => x
def tD3 (cl bg : Addr) : List (Key × V) := [(Sum.inr "clocks", .ref cl), (Sum.inr "bag", .ref bg), (Sum.inr "life", .int 0)]
def tD4 (cl bg kl : Addr) : List (Key × V) := [(Sum.inr "clocks", .ref cl), (Sum.inr "bag", .ref bg), (Sum.inr "life", .int 0), (Sum.inr "keepers", .ref kl)]
def tD5 (cl bg kl hl : Addr) : List (Key × V) := [(Sum.inr "clocks", .ref cl), (Sum.inr "bag", .ref bg), (Sum.inr "life", .int 0), (Sum.inr "keepers", .ref kl), (Sum.inr "holders", .ref hl)]
def kw0 (cs : List Int) (wt : Int) : Nat → KW := fun j => ⟨cs.getD j 0, cs.getD j 0 + wt, none⟩
def hw0 (cs : List Int) (nk : Nat) (ke : Int) : Nat → HW := fun x => ⟨cs.getD (nk + x) 0, cs.getD (nk + x) 0, 0, 0, fun _ _ => none, List.replicate ke.toNat (cs.getD (nk + x) 0)⟩
/-- how the law's loop stands -/
inductive InvL (t : Adr) (ke : Int) (T : Tm) (v : TV) (H0 : Hp) (a tp tm : Addr) (nh : Int) (i : Nat) (σ : St) (H : Hp) : Prop
  | mk (v6 : TV) (w6 w7 w8 w9 w10 w11 : Option V) (e : σ = [some (.ref a), some (.ref tp), some (.ref tm), some (.int nh), some (.ref v.A.cl), some (.ref v.A.tw), w6, w7, w8, w9, w10, w11]) (F : Tn t H ke v6) (G : Good T (5 + 2 * i) v6) (L : Like v v6) (k : Keep t H0 H) : InvL t ke T v H0 a tp tm nh i σ H
def sp_law (K : PySem.W.Frag) : Sp := fun vs H Q _ => ∃ (a : Addr) (ns : List Int), vs = [.ref a] ∧ SqL K H a (ns.map V.int) ∧ ns.length ≤ 63 ∧ ∀ H', Q (.bl true) H'
section
variable {P : Program} {w : World} {K : PySem.W.Frag} {mg : Str → Option Value} {base : Heap} {t : Adr}
theorem ok_law (T : Txt K mg t) : FnOk P w K mg base CX0 6 t.f_law t.d_law ["_law_script"] (sp_law K) := by
  refine T.F_law.ok sc_law (fun vs H Q E h => ?_) (fun cdv A outer s H vs Q E hr h => ?_)
  · obtain ⟨a, ns, rfl, _⟩ := h
    rfl
  · obtain ⟨a, ns, rfl, hS, hlen, q⟩ := h
    clear hlen
    refine ⟨_, (jss_cons (js_setc (i := 1) (nc_call _ _ _) sc_law.nd rfl lo_law__law_terms_here rfl (je_call nm__law_terms lo_law__law_terms (ok_law_terms T) (hr.mono (by decide)) T.m_law_terms T.F_law_terms.kp T.b_law_terms pass0 sx_name (ns_cons sx_const ns_nil) (ja_cons sx_name (je_cvar (i := 0) nm__law_script lo_law__law_script rfl) (ja_cons sx_const je_int ja_nil))))
      (jss_cons (js_setc (i := 2) (nc_call _ _ _) sc_law.nd rfl lo_law__law_made rfl (je_make nm_Terms lo_law_Terms T.k_Terms (ok_Terms_init T) (hr.mono (by decide)) T.m_Terms T.b_Terms_init passX sx_sub (ns_cons sx_sub (ns_cons sx_sub (ns_cons sx_sub ns_nil))) (ja_cons sx_sub (je_ix jx_tup (je_cvar (i := 1) nm__law_terms_here lo_law__law_terms_here rfl) je_int (fun _ _ => rfl)) (ja_cons sx_sub (je_ix jx_tup (je_cvar (i := 1) nm__law_terms_here lo_law__law_terms_here rfl) je_int (fun _ _ => rfl)) (ja_cons sx_sub (je_ix jx_tup (je_cvar (i := 1) nm__law_terms_here lo_law__law_terms_here rfl) je_int (fun _ _ => rfl)) (ja_cons sx_sub (je_ix jx_tup (je_cvar (i := 1) nm__law_terms_here lo_law__law_terms_here rfl) je_int (fun _ _ => rfl)) ja_nil))))))
      (jss_cons (js_set (i := 3) nc_bin sc_law.nd rfl lo_law__law_holders (je_op jo_add je_int (je_op jo_mod (je_call nm__law_mix lo_law__law_mix (ok_law_mix T) (hr.mono (by decide)) T.m_law_mix T.F_law_mix.kp T.b_law_mix pass0 sx_name (ns_cons sx_const ns_nil) (ja_cons sx_name (je_cvar (i := 0) nm__law_script lo_law__law_script rfl) (ja_cons sx_const je_int ja_nil))) je_int)))
      (jss_cons (js_setc (i := 4) (by rfl) sc_law.nd rfl lo_law__law_clocks rfl (je_comp rfl (compSc_mk (sc := defScope s_law) (N := ["_law_script", "_law_terms_here", "_law_made", "_law_holders", "_law_clocks", "_law_town", "_law_k", "_law_number", "_law_way", "_law_name", "_law_clock", "_law_last"]) (cs := [0]) (ys := ["_law_script"]) rfl rfl (by decide +kernel)) (ji_range1 lo_law_range T.z_range sx_bin (ja_cons sx_bin (je_op jo_add (je_ix jx_tup (je_cvar (i := 1) nm__law_terms_here lo_law__law_terms_here rfl) je_int (fun _ _ => rfl)) (je_var (i := 3) nm__law_holders lo_law__law_holders rfl)) ja_nil)) (fun _ _ _ _ _ _ => jif_nil) (fun _ _ _ _ _ _ => by exact (je_op jo_mod (je_call nm__law_mix (lr_glob (by decide +kernel)) (ok_law_mix T) (hr.mono (by decide)) T.m_law_mix T.F_law_mix.kp T.b_law_mix pass0 sx_name (ns_cons sx_bin ns_nil) (ja_cons sx_name (je_cvar (i := 1) nm__law_script (lr_cell (by decide +kernel) rfl lo_law__law_script) rfl) (ja_cons sx_bin (je_op jo_add je_int (je_var (i := 0) nm__law_j (lr_local (by decide +kernel)) rfl)) ja_nil))) je_int)) (fun _ => rfl)))
      (jss_cons (js_set (i := 5) nc_dict sc_law.nd rfl lo_law__law_town (je_disp (jps_cons je_str (je_cvar (i := 4) nm__law_clocks lo_law__law_clocks rfl) (jps_cons je_str (je_lst ja_nil) (jps_cons je_str je_int jps_nil))) rfl rfl (by simp) (by decide)))
      (jss_cons (js_dputC (by rfl) (hu_of hr) (je_var (i := 5) nm__law_town lo_law__law_town rfl) je_str (je_comp rfl (compSc_mk (sc := defScope s_law) (N := ["_law_script", "_law_terms_here", "_law_made", "_law_holders", "_law_clocks", "_law_town", "_law_k", "_law_number", "_law_way", "_law_name", "_law_clock", "_law_last"]) (cs := [2, 4]) (ys := ["_law_made", "_law_clocks"]) rfl rfl (by decide +kernel)) (ji_range1 lo_law_range T.z_range sx_sub (ja_cons sx_sub (je_ix jx_tup (je_cvar (i := 1) nm__law_terms_here lo_law__law_terms_here rfl) je_int (fun _ _ => rfl)) ja_nil)) (fun _ _ _ _ _ _ => jif_nil) (fun _ _ _ _ _ _ => by exact (je_make nm_Keeper (lr_glob (by decide +kernel)) T.k_Keeper (ok_Keeper_init T) (hr.mono (by decide)) T.m_Keeper T.b_Keeper_init pass0 sx_name (ns_cons sx_sub ns_nil) (ja_cons sx_name (je_cvar (i := 1) nm__law_made (lr_cell (by decide +kernel) rfl lo_law__law_made) rfl) (ja_cons sx_sub (je_ix (jx_listK (K' := K) rfl) (je_cvar (i := 2) nm__law_clocks (lr_cell (by decide +kernel) rfl lo_law__law_clocks) rfl) (je_var (i := 0) nm__law_j (lr_local (by decide +kernel)) rfl) (fun _ _ => rfl)) ja_nil)))) (fun _ => rfl)))
      (jss_cons (js_dputC (by rfl) (hu_of hr) (je_var (i := 5) nm__law_town lo_law__law_town rfl) je_str (je_comp rfl (compSc_mk (sc := defScope s_law) (N := ["_law_script", "_law_terms_here", "_law_made", "_law_holders", "_law_clocks", "_law_town", "_law_k", "_law_number", "_law_way", "_law_name", "_law_clock", "_law_last"]) (cs := [2, 4, 1]) (ys := ["_law_made", "_law_clocks", "_law_terms_here"]) rfl rfl (by decide +kernel)) (ji_range1 lo_law_range T.z_range sx_name (ja_cons sx_name (je_var (i := 3) nm__law_holders lo_law__law_holders rfl) ja_nil)) (fun _ _ _ _ _ _ => jif_nil) (fun _ _ _ _ _ _ => by exact (je_make nm_Holder (lr_glob (by decide +kernel)) T.k_Holder (ok_Holder_init T) (hr.mono (by decide)) T.m_Holder T.b_Holder_init pass0 sx_name (ns_cons sx_name (ns_cons sx_const (ns_cons sx_sub ns_nil))) (ja_cons sx_name (je_cvar (i := 1) nm__law_made (lr_cell (by decide +kernel) rfl lo_law__law_made) rfl) (ja_cons sx_name (je_var (i := 0) nm__law_j (lr_local (by decide +kernel)) rfl) (ja_cons sx_const je_int (ja_cons sx_sub (je_ix (jx_listK (K' := K) rfl) (je_cvar (i := 2) nm__law_clocks (lr_cell (by decide +kernel) rfl lo_law__law_clocks) rfl) (je_op jo_add (je_ix (jx_tupK (K' := K) rfl) (je_cvar (i := 3) nm__law_terms_here (lr_cell (by decide +kernel) rfl lo_law__law_terms_here) rfl) je_int (fun _ _ => rfl)) (je_var (i := 0) nm__law_j (lr_local (by decide +kernel)) rfl)) (fun _ _ => rfl)) ja_nil)))))) (fun _ => rfl)))
      (jss_cons (js_expr nc_call (je_call nm__law_ticks lo_law__law_ticks (ok_law_ticks T) (hr.mono (by decide)) T.m_law_ticks T.F_law_ticks.kp T.b_law_ticks pass0 sx_name (ns_cons sx_const (ns_cons sx_name (ns_cons sx_name (ns_cons sx_bin ns_nil)))) (ja_cons sx_name (je_cvar (i := 0) nm__law_script lo_law__law_script rfl) (ja_cons sx_const je_int (ja_cons sx_name (je_cvar (i := 1) nm__law_terms_here lo_law__law_terms_here rfl) (ja_cons sx_name (je_cvar (i := 4) nm__law_clocks lo_law__law_clocks rfl) (ja_cons sx_bin (je_op jo_add (je_op jo_fdiv (je_call nm__law_wait lo_law__law_wait (ok_law_wait T) (hr.mono (by decide)) T.m_law_wait T.F_law_wait.kp T.b_law_wait pass0 sx_name ns_nil (ja_cons sx_name (je_cvar (i := 1) nm__law_terms_here lo_law__law_terms_here rfl) ja_nil)) (je_ix jx_tup (je_cvar (i := 1) nm__law_terms_here lo_law__law_terms_here rfl) je_int (fun _ _ => rfl))) je_int) ja_nil)))))))
      (jss_cons (js_if (jt_bool (jw_and (jt_cmp jo_eq (je_op jo_mod (je_call nm__law_mix lo_law__law_mix (ok_law_mix T) (hr.mono (by decide)) T.m_law_mix T.F_law_mix.kp T.b_law_mix pass0 sx_name (ns_cons sx_const ns_nil) (ja_cons sx_name (je_cvar (i := 0) nm__law_script lo_law__law_script rfl) (ja_cons sx_const je_int ja_nil))) je_int) je_int (by decide) (by decide)) (jw_and1 (jt_not (jt_val pl_call (je_call nm__law_scene lo_law__law_scene (ok_law_scene T) (hr.mono (by decide)) T.m_law_scene T.F_law_scene.kp T.b_law_scene pass0 sx_name (ns_cons sx_name (ns_cons sx_name (ns_cons sx_name ns_nil))) (ja_cons sx_name (je_cvar (i := 0) nm__law_script lo_law__law_script rfl) (ja_cons sx_name (je_var (i := 5) nm__law_town lo_law__law_town rfl) (ja_cons sx_name (je_cvar (i := 1) nm__law_terms_here lo_law__law_terms_here rfl) (ja_cons sx_name (je_cvar (i := 2) nm__law_made lo_law__law_made rfl) ja_nil)))))))))) (jss_one (js_ret je_bl)) jss_nil)
      (jss_cons (js_for PassesOwn.never rfl (ji_range1 lo_law_range T.z_range sx_bin (ja_cons sx_bin (je_op jo_mod (je_call nm__law_mix lo_law__law_mix (ok_law_mix T) (hr.mono (by decide)) T.m_law_mix T.F_law_mix.kp T.b_law_mix pass0 sx_name (ns_cons sx_const ns_nil) (ja_cons sx_name (je_cvar (i := 0) nm__law_script lo_law__law_script rfl) (ja_cons sx_const je_int ja_nil))) je_int) ja_nil)) (jg_name (i := 6) sc_law.nd rfl lo_law__law_k) (jss_cons (js_set (i := 7) nc_call sc_law.nd rfl lo_law__law_number (je_call nm__law_mix lo_law__law_mix (ok_law_mix T) (hr.mono (by decide)) T.m_law_mix T.F_law_mix.kp T.b_law_mix pass0 sx_name (ns_cons sx_bin ns_nil) (ja_cons sx_name (je_cvar (i := 0) nm__law_script lo_law__law_script rfl) (ja_cons sx_bin (je_op jo_add je_int (je_var (i := 6) nm__law_k lo_law__law_k rfl)) ja_nil))))
      (jss_cons (js_set (i := 8) nc_bin sc_law.nd rfl lo_law__law_way (je_op jo_mod (je_var (i := 7) nm__law_number lo_law__law_number rfl) je_int))
      (jss_cons (js_set (i := 9) nc_bin sc_law.nd rfl lo_law__law_name (je_op jo_mod (je_op jo_fdiv (je_var (i := 7) nm__law_number lo_law__law_number rfl) je_int) (je_var (i := 3) nm__law_holders lo_law__law_holders rfl)))
      (jss_cons (js_set (i := 10) nc_sub sc_law.nd rfl lo_law__law_clock (je_ix jx_list (je_cvar (i := 4) nm__law_clocks lo_law__law_clocks rfl) (je_op jo_add (je_ix jx_tup (je_cvar (i := 1) nm__law_terms_here lo_law__law_terms_here rfl) je_int (fun _ _ => rfl)) (je_var (i := 9) nm__law_name lo_law__law_name rfl)) (fun _ _ => rfl)))
      (jss_cons (js_if (jt_cmp jo_lt (je_var (i := 8) nm__law_way lo_law__law_way rfl) je_int (by decide) (by decide)) (jss_one (js_expr nc_call (je_call nm__law_ticks lo_law__law_ticks (ok_law_ticks T) (hr.mono (by decide)) T.m_law_ticks T.F_law_ticks.kp T.b_law_ticks pass0 sx_name (ns_cons sx_bin (ns_cons sx_name (ns_cons sx_name (ns_cons sx_sub ns_nil)))) (ja_cons sx_name (je_cvar (i := 0) nm__law_script lo_law__law_script rfl) (ja_cons sx_bin (je_op jo_add je_int (je_var (i := 6) nm__law_k lo_law__law_k rfl)) (ja_cons sx_name (je_cvar (i := 1) nm__law_terms_here lo_law__law_terms_here rfl) (ja_cons sx_name (je_cvar (i := 4) nm__law_clocks lo_law__law_clocks rfl) (ja_cons sx_sub (je_ix jx_list (je_lst (ja_cons sx_const je_int (ja_cons sx_const je_int (ja_cons sx_const je_int (ja_cons sx_call (je_call nm__law_wait lo_law__law_wait (ok_law_wait T) (hr.mono (by decide)) T.m_law_wait T.F_law_wait.kp T.b_law_wait pass0 sx_name ns_nil (ja_cons sx_name (je_cvar (i := 1) nm__law_terms_here lo_law__law_terms_here rfl) ja_nil)) ja_nil))))) (je_op jo_mod (je_op jo_fdiv (je_var (i := 7) nm__law_number lo_law__law_number rfl) je_int) je_int) (fun _ _ => rfl)) ja_nil)))))))) (jss_one (js_if (jt_cmp jo_lt (je_var (i := 8) nm__law_way lo_law__law_way rfl) je_int (by decide) (by decide)) (jss_one (js_expr nc_call (je_call nm__law_to_all lo_law__law_to_all (ok_law_to_all T) (hr.mono (by decide)) T.m_law_to_all T.F_law_to_all.kp T.b_law_to_all pass0 sx_name (ns_cons sx_const (ns_cons sx_name (ns_cons sx_call ns_nil))) (ja_cons sx_name (je_var (i := 5) nm__law_town lo_law__law_town rfl) (ja_cons sx_const je_str (ja_cons sx_name (je_var (i := 9) nm__law_name lo_law__law_name rfl) (ja_cons sx_call (je_meth bs_sub rfl (by decide) (je_ix jx_list (je_dget (hu_of hr) (je_var (i := 5) nm__law_town lo_law__law_town rfl) je_str (fun _ _ => rfl)) (je_var (i := 9) nm__law_name lo_law__law_name rfl) (fun _ _ => rfl)) T.cl_Holder T.h_Holder_ask (ok_Holder_ask T) (hr.mono (by decide)) T.b_Holder_ask passX sx_name ns_nil (ja_cons sx_name (je_var (i := 10) nm__law_clock lo_law__law_clock rfl) ja_nil)) ja_nil))))))) (jss_one (js_if (jt_bool (jw_and (jt_cmp jo_eq (je_var (i := 8) nm__law_way lo_law__law_way rfl) je_int (by decide) (by decide)) (jw_and1 (jt_notN (je_meth bs_sub rfl (by decide) (je_ix jx_list (je_dget (hu_of hr) (je_var (i := 5) nm__law_town lo_law__law_town rfl) je_str (fun _ _ => rfl)) (je_var (i := 9) nm__law_name lo_law__law_name rfl) (fun _ _ => rfl)) T.cl_Holder T.h_Holder_until (ok_Holder_until T) (hr.mono (by decide)) T.b_Holder_until passX sx_name ns_nil (ja_cons sx_name (je_var (i := 10) nm__law_clock lo_law__law_clock rfl) ja_nil)))))) (jss_one (js_expr nc_call (je_call nm__law_to_all lo_law__law_to_all (ok_law_to_all T) (hr.mono (by decide)) T.m_law_to_all T.F_law_to_all.kp T.b_law_to_all pass0 sx_name (ns_cons sx_const (ns_cons sx_name (ns_cons sx_call ns_nil))) (ja_cons sx_name (je_var (i := 5) nm__law_town lo_law__law_town rfl) (ja_cons sx_const je_str (ja_cons sx_name (je_var (i := 9) nm__law_name lo_law__law_name rfl) (ja_cons sx_call (je_meth bs_sub rfl (by decide) (je_ix jx_list (je_dget (hu_of hr) (je_var (i := 5) nm__law_town lo_law__law_town rfl) je_str (fun _ _ => rfl)) (je_var (i := 9) nm__law_name lo_law__law_name rfl) (fun _ _ => rfl)) T.cl_Holder T.h_Holder_free (ok_Holder_free T) (hr.mono (by decide)) T.b_Holder_free passX sx_name ns_nil (ja_cons sx_name (je_var (i := 10) nm__law_clock lo_law__law_clock rfl) ja_nil)) ja_nil))))))) (jss_one (js_if (jt_bool (jw_and (jt_cmp jo_eq (je_var (i := 8) nm__law_way lo_law__law_way rfl) je_int (by decide) (by decide)) (jw_and1 (jt_bool (jw_or (jt_cmp jo_eq (je_op jo_mod (je_op jo_fdiv (je_var (i := 7) nm__law_number lo_law__law_number rfl) je_int) je_int) je_int (by decide) (by decide)) (jw_or1 (jt_cmp jo_eq (je_op jo_mod (je_call nm__law_mix lo_law__law_mix (ok_law_mix T) (hr.mono (by decide)) T.m_law_mix T.F_law_mix.kp T.b_law_mix pass0 sx_name (ns_cons sx_const ns_nil) (ja_cons sx_name (je_cvar (i := 0) nm__law_script lo_law__law_script rfl) (ja_cons sx_const je_int ja_nil))) je_int) je_int (by decide) (by decide)))))))) (jss_one (js_expr nc_call (je_call nm__law_anew lo_law__law_anew (ok_law_anew T) (hr.mono (by decide)) T.m_law_anew T.F_law_anew.kp T.b_law_anew pass0 sx_name (ns_cons sx_name (ns_cons sx_bin ns_nil)) (ja_cons sx_name (je_var (i := 5) nm__law_town lo_law__law_town rfl) (ja_cons sx_name (je_cvar (i := 2) nm__law_made lo_law__law_made rfl) (ja_cons sx_bin (je_op jo_fdiv (je_var (i := 7) nm__law_number lo_law__law_number rfl) je_int) ja_nil)))))) (jss_one (js_if (jt_truth pl_sub (je_dget (hu_of hr) (je_var (i := 5) nm__law_town lo_law__law_town rfl) je_str (fun _ _ => rfl))) (jss_cons (js_set (i := 11) nc_if sc_law.nd rfl lo_law__law_last (je_if (jt_cmp jo_gt (je_op jo_mod (je_op jo_fdiv (je_var (i := 7) nm__law_number lo_law__law_number rfl) je_int) je_int) je_int (by decide) (by decide)) (je_callB nm_min lo_law_min (jc_min rfl) T.z_min bt_min sx_call (ns_cons sx_const ns_nil) (ja_cons sx_call (je_callB nm_len lo_law_len jc_len T.z_len bt_len sx_sub ns_nil (ja_cons sx_sub (je_dget (hu_of hr) (je_var (i := 5) nm__law_town lo_law__law_town rfl) je_str (fun _ _ => rfl)) ja_nil)) (ja_cons sx_const je_int ja_nil))) (je_callB nm_len lo_law_len jc_len T.z_len bt_len sx_sub ns_nil (ja_cons sx_sub (je_dget (hu_of hr) (je_var (i := 5) nm__law_town lo_law__law_town rfl) je_str (fun _ _ => rfl)) ja_nil))))
      (jss_one (js_expr nc_call (je_call nm__law_come lo_law__law_come (ok_law_come T) (hr.mono (by decide)) T.m_law_come T.F_law_come.kp T.b_law_come pass0 sx_sub (ns_cons sx_name (ns_cons sx_cmp ns_nil)) (ja_cons sx_sub (je_ix jx_list (je_dget (hu_of hr) (je_var (i := 5) nm__law_town lo_law__law_town rfl) je_str (fun _ _ => rfl)) (je_op jo_sub (je_op jo_sub (je_callB nm_len lo_law_len jc_len T.z_len bt_len sx_sub ns_nil (ja_cons sx_sub (je_dget (hu_of hr) (je_var (i := 5) nm__law_town lo_law__law_town rfl) je_str (fun _ _ => rfl)) ja_nil)) je_int) (je_op jo_mod (je_op jo_fdiv (je_var (i := 7) nm__law_number lo_law__law_number rfl) je_int) (je_var (i := 11) nm__law_last lo_law__law_last rfl))) (fun _ _ => rfl)) (ja_cons sx_name (je_var (i := 5) nm__law_town lo_law__law_town rfl) (ja_cons sx_cmp (je_cmp jo_eq (je_op jo_mod (je_op jo_fdiv (je_var (i := 7) nm__law_number lo_law__law_number rfl) je_int) je_int) je_int (by decide) (by decide)) ja_nil))))))) jss_nil)))))))))
      (jss_one (js_if (jt_not (jt_val pl_call (je_call nm__law_one lo_law__law_one (ok_law_one T) (hr.mono (by decide)) T.m_law_one T.F_law_one.kp T.b_law_one pass0 sx_name ns_nil (ja_cons sx_name (je_var (i := 5) nm__law_town lo_law__law_town rfl) ja_nil)))) (jss_one (js_ret je_bl)) jss_nil))))))) (fun _ => rfl))
      (jss_one (js_ret je_bl)))))))))))).h, ?_⟩
    dsimp only [cxOf_K, L2.start, List.map_cons, List.map_nil, List.length_cons, List.length_nil, List.cons_append, List.nil_append, List.replicate]
    refine fix_s (by simp only [List.map_cons, List.map_nil, List.cons_append, List.nil_append, Nat.sub_self, List.replicate, List.append_nil]; exact rfl) ?_
    generalize hZ : tFor _ _ _ = Z
    refine seq_step fun R k1 => ?_
    try dsimp only [Y0,Y1,Y2,Y3,Y4,Y5,Y6,Y7,Y8,Y9,Ya,Yb,Yc,Yd,Ye,Yf,Yg,Yh,Yi,Yj,Yk,Yl,Ym,Yn,Yo,Yp,Yq,Yr,Ys,Yt,Yu,Yv,Yw,Yx,Yy,Yz,Z0,Z1,Z2,Z3,Z4,Z5,Z6,Z7,Z8,Z9,Za,Zb,Zc,Zd,Ze,Zf,Zg,Zh,Zi,Zj,Zk,Zl,Zm,Zn,Zo,Zp,Zq,Zr,Zs,Zt,Zu,Zv,Zw,Zx,Zy,Zz,V0,V1,V2]
    try simp only [V3,V4,V5,V6,V7,V8,V9,Va,Vb,Vc,Vd,Ve,Vf,Vg,Vh,Vi,Vj,V1,V2,Vk,Vl,reduceCtorEq,Vn,Vo,Vp,Vq]
    refine ⟨a, ns, 0, rfl, hS, fun lo hi le ke tp H1 dr S1 _ ht => k1 _ _ ?_⟩
    clear k1 R
    refine seq_step fun R k1 => ?_
    have hS1 := S1.seq hS
    have gd := dr.good
    obtain ⟨dl1, dl2, dh1, dh2, de1, de2, dk1, dk2⟩ := id dr
    try dsimp only [Y0,Y1,Y2,Y3,Y4,Y5,Y6,Y7,Y8,Y9,Ya,Yb,Yc,Yd,Ye,Yf,Yg,Yh,Yi,Yj,Yk,Yl,Ym,Yn,Yo,Yp,Yq,Yr,Ys,Yt,Yu,Yv,Yw,Yx,Yy,Yz,Z0,Z1,Z2,Z3,Z4,Z5,Z6,Z7,Z8,Z9,Za,Zb,Zc,Zd,Ze,Zf,Zg,Zh,Zi,Zj,Zk,Zl,Zm,Zn,Zo,Zp,Zq,Zr,Zs,Zt,Zu,Zv,Zw,Zx,Zy,Zz,V0,V1,V2]
    try simp only [V3,V4,V5,V6,V7,V8,V9,Va,Vb,Vc,Vd,Ve,Vf,Vg,Vh,Vi,Vj,V1,V2,Vk,Vl,reduceCtorEq,Vn,Vo,Vp,Vq]
    refine rd_ixT (SqT.of ht) (v := .int lo) rfl (rd_ixT (SqT.of ht) (v := .int hi) rfl (rd_ixT (SqT.of ht) (v := .int le) rfl (rd_ixT (SqT.of ht) (v := .int ke) rfl ?_)))
    refine fun tm dt ntm ndt _ => ⟨tm, dt, lo, hi, le, ke, rfl, upd_same, dr.small.1, dr.small.2.1, dr.small.2.2.1, dr.small.2.2.2, fun _ => ⟨rfl, k1 _ _ ?_⟩, fun ng => absurd gd ng⟩
    clear k1 R
    refine seq_step fun R k1 => ?_
    rw [upd_upd]
    have f3 : Same H1 (upd (upd H1 dt (.own tm)) tm (.ins t.Terms dt (terms lo hi le ke))) := fun x o e => by rw [upd_ne (ne_of_none e ntm), upd_ne (ne_of_none e ndt)]; exact e
    have htm : upd (upd H1 dt (.own tm)) tm (.ins t.Terms dt (terms lo hi le ke)) tm = some (.ins t.Terms dt (terms lo hi le ke)) := upd_same
    have ht3 := f3 _ _ ht
    have hS3 := f3.seq hS1
    generalize upd (upd H1 dt (.own tm)) tm (.ins t.Terms dt (terms lo hi le ke)) = H3 at f3 htm ht3 hS3 ⊢
    clear f3 ht hS1 hS S1 ntm ndt
    try dsimp only [Y0,Y1,Y2,Y3,Y4,Y5,Y6,Y7,Y8,Y9,Ya,Yb,Yc,Yd,Ye,Yf,Yg,Yh,Yi,Yj,Yk,Yl,Ym,Yn,Yo,Yp,Yq,Yr,Ys,Yt,Yu,Yv,Yw,Yx,Yy,Yz,Z0,Z1,Z2,Z3,Z4,Z5,Z6,Z7,Z8,Z9,Za,Zb,Zc,Zd,Ze,Zf,Zg,Zh,Zi,Zj,Zk,Zl,Zm,Zn,Zo,Zp,Zq,Zr,Zs,Zt,Zu,Zv,Zw,Zx,Zy,Zz,V0,V1,V2]
    try simp only [V3,V4,V5,V6,V7,V8,V9,Va,Vb,Vc,Vd,Ve,Vf,Vg,Vh,Vi,Vj,V1,V2,Vk,Vl,reduceCtorEq,Vn,Vo,Vp,Vq]
    refine mix_any hS3 fun i4 => ?_
    try dsimp only [Y0,Y1,Y2,Y3,Y4,Y5,Y6,Y7,Y8,Y9,Ya,Yb,Yc,Yd,Ye,Yf,Yg,Yh,Yi,Yj,Yk,Yl,Ym,Yn,Yo,Yp,Yq,Yr,Ys,Yt,Yu,Yv,Yw,Yx,Yy,Yz,Z0,Z1,Z2,Z3,Z4,Z5,Z6,Z7,Z8,Z9,Za,Zb,Zc,Zd,Ze,Zf,Zg,Zh,Zi,Zj,Zk,Zl,Zm,Zn,Zo,Zp,Zq,Zr,Zs,Zt,Zu,Zv,Zw,Zx,Zy,Zz,V0,V1,V2]
    try simp only [V3,V4,V5,V6,V7,V8,V9,Va,Vb,Vc,Vd,Ve,Vf,Vg,Vh,Vi,Vj,V1,V2,Vk,Vl,reduceCtorEq,Vn,Vo,Vp,Vq]
    refine ⟨by decide, k1 _ _ ?_⟩
    clear k1 R
    refine seq_step fun R k1 => ?_
    have n0 := Int.emod_nonneg i4 (show (2 : Int) ≠ 0 by decide)
    have n1 := Int.emod_lt_of_pos i4 (show (0 : Int) < 2 by decide)
    obtain ⟨nh, hnh⟩ : ∃ nh : Nat, 2 + i4 % 2 = (nh : Int) := ⟨(2 + i4 % 2).toNat, by omega⟩
    rw [hnh]
    have nh2 : 2 ≤ nh := by omega
    have nh3 : nh ≤ 3 := by omega
    clear n0 n1 hnh
    obtain ⟨nk, hnk⟩ : ∃ nk : Nat, (nk : Int) = ke := ⟨ke.toNat, by omega⟩
    have nk1 : 1 ≤ nk := by omega
    have nk5 : nk ≤ 5 := by omega
    try dsimp only [iRng1,Y0,Y1,Y2,Y3,Y4,Y5,Y6,Y7,Y8,Y9,Ya,Yb,Yc,Yd,Ye,Yf,Yg,Yh,Yi,Yj,Yk,Yl,Ym,Yn,Yo,Yp,Yq,Yr,Ys,Yt,Yu,Yv,Yw,Yx,Yy,Yz,Z0,Z1,Z2,Z3,Z4,Z5,Z6,Z7,Z8,Z9,Za,Zb,Zc,Zd,Ze,Zf,Zg,Zh,Zi,Zj,Zk,Zl,Zm,Zn,Zo,Zp,Zq,Zr,Zs,Zt,Zu,Zv,Zw,Zx,Zy,Zz,V0,V1,V2]
    try simp only [V3,V4,V5,V6,V7,V8,V9,Va,Vb,Vc,Vd,Ve,Vf,Vg,Vh,Vi,Vj,V1,V2,Vk,Vl,reduceCtorEq,Vn,Vo,Vp,Vq]
    refine rd_ixT (SqT.of ht3) (v := .int ke) rfl ⟨ke, rfl, by omega, by omega, fun cl hcl => ?_⟩
    rw [show (ke + (nh : Int)).toNat = nk + nh by omega]
    refine comp_range (fun i ys H2 => ∃ cs : List Int, ys = cs.map V.int ∧ cs.length = i ∧ (∀ c, c ∈ cs → 0 ≤ c ∧ c < 1000) ∧ H2 = upd H3 cl (.lst ys)) ⟨[], rfl, rfl, fun c h => (by cases h), rfl⟩ ?_ ?_
    · rintro i ys H4 Nx hi8 ⟨cs, rfl, rfl, hcs, rfl⟩ hl4 nx
      try dsimp only [tTrue, Option.getD_some,Y0,Y1,Y2,Y3,Y4,Y5,Y6,Y7,Y8,Y9,Ya,Yb,Yc,Yd,Ye,Yf,Yg,Yh,Yi,Yj,Yk,Yl,Ym,Yn,Yo,Yp,Yq,Yr,Ys,Yt,Yu,Yv,Yw,Yx,Yy,Yz,Z0,Z1,Z2,Z3,Z4,Z5,Z6,Z7,Z8,Z9,Za,Zb,Zc,Zd,Ze,Zf,Zg,Zh,Zi,Zj,Zk,Zl,Zm,Zn,Zo,Zp,Zq,Zr,Zs,Zt,Zu,Zv,Zw,Zx,Zy,Zz,V0,V1,V2]
      try simp only [V3,V4,V5,V6,V7,V8,V9,Va,Vb,Vc,Vd,Ve,Vf,Vg,Vh,Vi,Vj,V1,V2,Vk,Vl,reduceCtorEq,Vn,Vo,Vp,Vq]
      refine mix_any ((same_upd hcl).seq hS3) fun i5 => ⟨i5, rfl, by decide, upd_same, small1000 (by rw [List.length_map]; omega), nx _ _ ⟨cs ++ [i5 % 1000], by rw [List.map_append]; rfl, by rw [List.length_append]; rfl, fun c hc => ?_, upd_upd⟩⟩
      rcases List.mem_append.mp hc with z | z
      · exact hcs c z
      · rw [List.mem_singleton.mp z]
        exact ⟨Int.emod_nonneg _ (by decide), Int.emod_lt_of_pos _ (by decide)⟩
    rintro ys H4 ⟨cs, rfl, hcl4, hcs, eH4⟩ hl4
    have s4 : Same H3 H4 := by rw [eH4]; exact same_upd hcl
    clear eH4
    refine k1 _ _ ?_
    clear k1 R
    refine seq_step fun R k1 => ?_
    try dsimp only [Y0,Y1,Y2,Y3,Y4,Y5,Y6,Y7,Y8,Y9,Ya,Yb,Yc,Yd,Ye,Yf,Yg,Yh,Yi,Yj,Yk,Yl,Ym,Yn,Yo,Yp,Yq,Yr,Ys,Yt,Yu,Yv,Yw,Yx,Yy,Yz,Z0,Z1,Z2,Z3,Z4,Z5,Z6,Z7,Z8,Z9,Za,Zb,Zc,Zd,Ze,Zf,Zg,Zh,Zi,Zj,Zk,Zl,Zm,Zn,Zo,Zp,Zq,Zr,Zs,Zt,Zu,Zv,Zw,Zx,Zy,Zz,V0,V1,V2]
    try simp only [V3,V4,V5,V6,V7,V8,V9,Va,Vb,Vc,Vd,Ve,Vf,Vg,Vh,Vi,Vj,V1,V2,Vk,Vl,reduceCtorEq,Vn,Vo,Vp,Vq]
    intro tw htw
    refine ⟨Nat.zero_le _, fun bg hbg => ?_⟩
    have ntb : tw ≠ bg := ne_of_none upd_same hbg
    have hbg4 : H4 bg = none := by rw [upd_ne ntb.symm] at hbg; exact hbg
    refine ⟨by rw [upd_ne ntb]; exact upd_same, (tD3 cl bg), rfl, by show 3 ≤ 15; decide, k1 _ _ ?_⟩
    clear k1 R
    refine seq_step fun R k1 => ?_
    have s5 : Same H4 (upd (upd (upd H4 tw (.dK [])) bg (.lst [])) tw (.dK (mergeK [] (tD3 cl bg)))) := fun x o e => by
      rw [upd_ne (ne_of_none e htw), upd_ne (ne_of_none e hbg4), upd_ne (ne_of_none e htw)]
      exact e
    have htw5 : upd (upd (upd H4 tw (.dK [])) bg (.lst [])) tw (.dK (mergeK [] (tD3 cl bg))) tw = some (.dK (tD3 cl bg)) := upd_same
    have hbg5 : upd (upd (upd H4 tw (.dK [])) bg (.lst [])) tw (.dK (mergeK [] (tD3 cl bg))) bg = some (.lst []) := by rw [upd_ne ntb.symm]; exact upd_same
    generalize upd (upd (upd H4 tw (.dK [])) bg (.lst [])) tw (.dK (mergeK [] (tD3 cl bg))) = H5 at s5 htw5 hbg5 ⊢
    have hcl5 := s5 _ _ hl4
    have ncw : cl ≠ tw := ne_of_none hl4 htw
    have ncb : cl ≠ bg := ne_of_none hl4 hbg4
    have fw3 := none_of s4 htw
    have fb3 := none_of s4 hbg4
    have s35 := same_trans s4 s5
    clear s5 s4 hbg hbg4 htw hl4
    obtain ⟨Sa, Ta, ftA, thA, sqA, soA⟩ := sq_thing (t := t) hS3
    try dsimp only [iRng1,Y0,Y1,Y2,Y3,Y4,Y5,Y6,Y7,Y8,Y9,Ya,Yb,Yc,Yd,Ye,Yf,Yg,Yh,Yi,Yj,Yk,Yl,Ym,Yn,Yo,Yp,Yq,Yr,Ys,Yt,Yu,Yv,Yw,Yx,Yy,Yz,Z0,Z1,Z2,Z3,Z4,Z5,Z6,Z7,Z8,Z9,Za,Zb,Zc,Zd,Ze,Zf,Zg,Zh,Zi,Zj,Zk,Zl,Zm,Zn,Zo,Zp,Zq,Zr,Zs,Zt,Zu,Zv,Zw,Zx,Zy,Zz,V0,V1,V2]
    try simp only [V3,V4,V5,V6,V7,V8,V9,Va,Vb,Vc,Vd,Ve,Vf,Vg,Vh,Vi,Vj,V1,V2,Vk,Vl,reduceCtorEq,Vn,Vo,Vp,Vq]
    refine rd_ixT (SqT.of (s35 _ _ ht3)) (v := .int ke) rfl ⟨ke, rfl, by omega, by omega, fun kl hkl => ?_⟩
    rw [show ke.toNat = nk by omega]
    have fk3 := none_of s35 hkl
    have nck : cl ≠ kl := ne_of_none hcl5 hkl
    have nwk : tw ≠ kl := ne_of_none htw5 hkl
    have nbk : bg ≠ kl := ne_of_none hbg5 hkl
    have s36 : Same H3 (upd H5 kl (.lst [])) := same_late s35 fk3
    have F6 : Fm t (upd H5 kl (.lst [])) ⟨Sa, Ta, [tw, cl, bg, kl], Own [(tw, .dK (tD3 cl bg)), (cl, .lst (cs.map V.int)), (bg, .lst []), (kl, .lst [])], waitOf lo hi le, ke, le, [], [], fun _ => [], fun _ => [], kw0 cs (waitOf lo hi le),
        hw0 cs nk ke⟩ := by
      refine Fm.none ftA thA s36 (fun p hp => ?_) (own4 (same_upd hkl _ _ htw5) (same_upd hkl _ _ hcl5) (same_upd hkl _ _ hbg5) upd_same) (nf4 nf_dK nf_lst nf_lst nf_lst)
      simp only [List.mem_cons, List.not_mem_nil, or_false] at hp
      rcases hp with rfl | rfl | rfl | rfl <;> assumption
    refine comp_range (fun i ys H2 => ∃ (ks : List Addr) (Sk : Nat → List Addr), ys = ks.map V.ref ∧ ks.length = i ∧ Same H3 H2 ∧ Fm t H2 ⟨Sa, Ta, [tw, cl, bg, kl], Own [(tw, .dK (tD3 cl bg)), (cl, .lst (cs.map V.int)), (bg, .lst []), (kl, .lst ys)], waitOf lo hi le, ke, le, ks, [], Sk, fun _ => [], kw0 cs (waitOf lo hi le),
        hw0 cs nk ke⟩) ⟨[], _, rfl, rfl, s36, F6⟩ ?_ ?_
    · rintro i ys H7 Nx hi8 ⟨ks, Sk, rfl, rfl, s37, F7⟩ hl7 nx
      have o7 : Own _ H7 := F7.th 1
      have htw7 := o7 _ (List.mem_cons_self)
      have hcl7 := o7 (cl, .lst (cs.map V.int)) (by simp)
      have hbg7 := o7 (bg, .lst []) (by simp)
      have hmem : cs.getD ks.length 0 ∈ cs := getD_mem (by omega)
      have hc := hcs _ hmem
      try dsimp only [tTrue, Option.getD_some,Y0,Y1,Y2,Y3,Y4,Y5,Y6,Y7,Y8,Y9,Ya,Yb,Yc,Yd,Ye,Yf,Yg,Yh,Yi,Yj,Yk,Yl,Ym,Yn,Yo,Yp,Yq,Yr,Ys,Yt,Yu,Yv,Yw,Yx,Yy,Yz,Z0,Z1,Z2,Z3,Z4,Z5,Z6,Z7,Z8,Z9,Za,Zb,Zc,Zd,Ze,Zf,Zg,Zh,Zi,Zj,Zk,Zl,Zm,Zn,Zo,Zp,Zq,Zr,Zs,Zt,Zu,Zv,Zw,Zx,Zy,Zz,V0,V1,V2]
      try simp only [V3,V4,V5,V6,V7,V8,V9,Va,Vb,Vc,Vd,Ve,Vf,Vg,Vh,Vi,Vj,V1,V2,Vk,Vl,reduceCtorEq,Vn,Vo,Vp,Vq]
      refine rd_ixL (SqL.of hcl7) (by rw [Int.zero_add]; exact at_ints (by omega)) fun kp dk nkp ndk _ => ⟨kp, dk, tm, dt, lo, hi, le, ke, cs.getD ks.length 0, rfl, upd_same, ?_, gd, ⟨by omega, by omega⟩, fun H8 S f8 fS hk => ⟨rfl, ?_⟩⟩
      · have e4 := s37 _ _ htm
        rw [upd_ne (ne_of_none e4 nkp), upd_ne (ne_of_none e4 ndk)]
        exact e4
      obtain ⟨s8, fS2⟩ := born nkp ndk f8 fS
      have F8 := F7.addK s8 fS2 hk
      refine ⟨s8 _ _ hl7, small1000 (by rw [List.length_map]; omega), nx _ _ ⟨ks ++ [kp], atS Sk ks.length S, (by rw [List.map_append]; rfl), by rw [List.length_append]; rfl, same_late (same_trans s37 s8) fk3, ?_⟩⟩
      exact Fm.reown (ps := [(tw, .dK (tD3 cl bg)), (cl, .lst (cs.map V.int)), (bg, .lst []), (kl, .lst (ks.map V.ref))]) (ps' := [(tw, .dK (tD3 cl bg)), (cl, .lst (cs.map V.int)), (bg, .lst []), (kl, .lst (ks.map V.ref ++ [.ref kp]))]) F8 rfl (fr_upd (by simp)) (own4 (by rw [upd_ne nwk]; exact s8 _ _ htw7) (by rw [upd_ne nck]; exact s8 _ _ hcl7) (by rw [upd_ne nbk]; exact s8 _ _ hbg7) upd_same) (nf4 nf_dK nf_lst nf_lst nf_lst)
    rintro ys H7 ⟨ks, Sk, rfl, hks, s37, F7⟩ hl7
    have o7 : Own _ H7 := F7.th 1
    have htw7 := o7 _ (List.mem_cons_self)
    have hcl7 := o7 (cl, .lst (cs.map V.int)) (by simp)
    have hbg7 := o7 (bg, .lst []) (by simp)
    refine rd_dputS htw7 (by show 3 < sizeLine; decide) (k1 _ _ ?_)
    clear k1 R
    refine seq_step fun R k1 => ?_
    have s38 : Same H3 (upd H7 tw (.dK (tD4 cl bg kl))) := same_late s37 fw3
    have F8 : Fm t (upd H7 tw (.dK (tD4 cl bg kl))) ⟨Sa, Ta, [tw, cl, bg, kl], Own [(tw, .dK (tD4 cl bg kl)), (cl, .lst (cs.map V.int)), (bg, .lst []), (kl, .lst (ks.map V.ref))], waitOf lo hi le, ke, le, ks, [], Sk, fun _ => [], kw0 cs (waitOf lo hi le),
        hw0 cs nk ke⟩ :=
      Fm.reown (ps := [(tw, .dK (tD3 cl bg)), (cl, .lst (cs.map V.int)), (bg, .lst []), (kl, .lst (ks.map V.ref))]) (ps' := [(tw, .dK (tD4 cl bg kl)), (cl, .lst (cs.map V.int)), (bg, .lst []), (kl, .lst (ks.map V.ref))]) F7 rfl (fr_upd (by simp)) (own4 upd_same (by rw [upd_ne ncw]; exact hcl7) (by rw [upd_ne ntb.symm]; exact hbg7) (by rw [upd_ne nwk.symm]; exact hl7)) (nf4 nf_dK nf_lst nf_lst nf_lst)
    have e8 : upd H7 tw (.dK (putK (tD3 cl bg) (Sum.inr "keepers") (.ref kl))) = upd H7 tw (.dK (tD4 cl bg kl)) := rfl
    rw [e8]
    clear e8
    generalize upd H7 tw (.dK (tD4 cl bg kl)) = H8 at s38 F8 ⊢
    clear F7 o7 htw7 hcl7 hbg7 hl7 s37 F6 s36 hkl s35 htw5 hbg5 hcl5
    have o8 : Own _ H8 := F8.th 1
    have htw8 := o8 _ (List.mem_cons_self)
    have hcl8 := o8 (cl, .lst (cs.map V.int)) (by simp)
    have hbg8 := o8 (bg, .lst []) (by simp)
    have hkl8 := o8 (kl, .lst (ks.map V.ref)) (by simp)
    try dsimp only [iRng1,Y0,Y1,Y2,Y3,Y4,Y5,Y6,Y7,Y8,Y9,Ya,Yb,Yc,Yd,Ye,Yf,Yg,Yh,Yi,Yj,Yk,Yl,Ym,Yn,Yo,Yp,Yq,Yr,Ys,Yt,Yu,Yv,Yw,Yx,Yy,Yz,Z0,Z1,Z2,Z3,Z4,Z5,Z6,Z7,Z8,Z9,Za,Zb,Zc,Zd,Ze,Zf,Zg,Zh,Zi,Zj,Zk,Zl,Zm,Zn,Zo,Zp,Zq,Zr,Zs,Zt,Zu,Zv,Zw,Zx,Zy,Zz,V0,V1,V2]
    try simp only [V3,V4,V5,V6,V7,V8,V9,Va,Vb,Vc,Vd,Ve,Vf,Vg,Vh,Vi,Vj,V1,V2,Vk,Vl,reduceCtorEq,Vn,Vo,Vp,Vq]
    refine ⟨by omega, by omega, fun hl hhl => ?_⟩
    rw [Int.toNat_natCast]
    have fh3 := none_of s38 hhl
    have nch : cl ≠ hl := ne_of_none hcl8 hhl
    have nwh : tw ≠ hl := ne_of_none htw8 hhl
    have nbh : bg ≠ hl := ne_of_none hbg8 hhl
    have nkh : kl ≠ hl := ne_of_none hkl8 hhl
    have s39 : Same H3 (upd H8 hl (.lst [])) := same_late s38 fh3
    have F9 : Fm t (upd H8 hl (.lst [])) ⟨Sa, Ta, [tw, cl, bg, kl, hl], Own [(tw, .dK (tD4 cl bg kl)), (cl, .lst (cs.map V.int)), (bg, .lst []), (kl, .lst (ks.map V.ref)), (hl, .lst ([]))], waitOf lo hi le, ke, le, ks, [], Sk, fun _ => [], kw0 cs (waitOf lo hi le), hw0 cs nk ke⟩ :=
      Fm.reown (ps := [(tw, .dK (tD4 cl bg kl)), (cl, .lst (cs.map V.int)), (bg, .lst []), (kl, .lst (ks.map V.ref))]) (ps' := [(tw, .dK (tD4 cl bg kl)), (cl, .lst (cs.map V.int)), (bg, .lst []), (kl, .lst (ks.map V.ref)), (hl, .lst ([]))]) F8 rfl ⟨fun x o e _ => same_upd hhl x o e, fun x hx => by
        simp only [List.map_cons, List.map_nil, List.mem_cons, List.not_mem_nil, or_false] at hx ⊢
        rcases hx with rfl | rfl | rfl | rfl | rfl
        · exact .inl (.inl rfl)
        · exact .inl (.inr (.inl rfl))
        · exact .inl (.inr (.inr (.inl rfl)))
        · exact .inl (.inr (.inr (.inr rfl)))
        · exact .inr hhl⟩ (own5 (same_upd hhl _ _ htw8) (same_upd hhl _ _ hcl8) (same_upd hhl _ _ hbg8) (same_upd hhl _ _ hkl8) upd_same) (nf5 nf_dK nf_lst nf_lst nf_lst nf_lst)
    refine comp_range (fun i ys H2 => ∃ (hs : List Addr) (Sh : Nat → List Addr), ys = hs.map V.ref ∧ hs.length = i ∧ Same H3 H2 ∧ Fm t H2 ⟨Sa, Ta, [tw, cl, bg, kl, hl], Own [(tw, .dK (tD4 cl bg kl)), (cl, .lst (cs.map V.int)), (bg, .lst []), (kl, .lst (ks.map V.ref)), (hl, .lst (ys))], waitOf lo hi le, ke, le, ks, hs, Sk, Sh, kw0 cs (waitOf lo hi le), hw0 cs nk ke⟩) ⟨[], _, rfl, rfl, s39, F9⟩ ?_ ?_
    · rintro i ys H10 Nx hi8 ⟨hs, Sh, rfl, rfl, s310, F10⟩ hl10 nx
      have o10 : Own _ H10 := F10.th 1
      have htw10 := o10 _ (List.mem_cons_self)
      have hcl10 := o10 (cl, .lst (cs.map V.int)) (by simp)
      have hbg10 := o10 (bg, .lst []) (by simp)
      have hkl10 := o10 (kl, .lst (ks.map V.ref)) (by simp)
      have hmem : cs.getD (nk + hs.length) 0 ∈ cs := getD_mem (by omega)
      have hc := hcs _ hmem
      try dsimp only [tTrue, Option.getD_some,Y0,Y1,Y2,Y3,Y4,Y5,Y6,Y7,Y8,Y9,Ya,Yb,Yc,Yd,Ye,Yf,Yg,Yh,Yi,Yj,Yk,Yl,Ym,Yn,Yo,Yp,Yq,Yr,Ys,Yt,Yu,Yv,Yw,Yx,Yy,Yz,Z0,Z1,Z2,Z3,Z4,Z5,Z6,Z7,Z8,Z9,Za,Zb,Zc,Zd,Ze,Zf,Zg,Zh,Zi,Zj,Zk,Zl,Zm,Zn,Zo,Zp,Zq,Zr,Zs,Zt,Zu,Zv,Zw,Zx,Zy,Zz,V0,V1,V2]
      try simp only [V3,V4,V5,V6,V7,V8,V9,Va,Vb,Vc,Vd,Ve,Vf,Vg,Vh,Vi,Vj,V1,V2,Vk,Vl,reduceCtorEq,Vn,Vo,Vp,Vq]
      refine rd_ixT (SqT.of (s310 _ _ ht3)) (v := .int ke) rfl ⟨ke, rfl, ?_⟩
      refine rd_ixL (SqL.of hcl10) (by rw [show ke + (0 + (hs.length : Int)) = ((nk + hs.length : Nat) : Int) by omega]; exact at_ints (by omega)) fun kp dk nkp ndk _ => ⟨kp, dk, tm, dt, lo, hi, le, ke, _, 0, cs.getD (nk + hs.length) 0, rfl, upd_same, ?_, gd, ⟨by omega, by omega⟩, fun H11 S f11 fS hk => ⟨rfl, ?_⟩⟩
      · have e4 := s310 _ _ htm
        rw [upd_ne (ne_of_none e4 nkp), upd_ne (ne_of_none e4 ndk)]
        exact e4
      obtain ⟨s11, fS2⟩ := born nkp ndk f11 fS
      have F11 := F10.addH s11 fS2 hk
      refine ⟨s11 _ _ hl10, small1000 (by rw [List.length_map]; omega), nx _ _ ⟨hs ++ [kp], atS Sh hs.length S, (by rw [List.map_append]; rfl), by rw [List.length_append]; rfl, same_late (same_trans s310 s11) fh3, ?_⟩⟩
      exact Fm.reown (ps := [(tw, .dK (tD4 cl bg kl)), (cl, .lst (cs.map V.int)), (bg, .lst []), (kl, .lst (ks.map V.ref)), (hl, .lst (hs.map V.ref))]) (ps' := [(tw, .dK (tD4 cl bg kl)), (cl, .lst (cs.map V.int)), (bg, .lst []), (kl, .lst (ks.map V.ref)), (hl, .lst (hs.map V.ref ++ [.ref kp]))]) F11 rfl (fr_upd (by simp)) (own5 (by rw [upd_ne nwh]; exact s11 _ _ htw10) (by rw [upd_ne nch]; exact s11 _ _ hcl10) (by rw [upd_ne nbh]; exact s11 _ _ hbg10) (by rw [upd_ne nkh]; exact s11 _ _ hkl10) upd_same) (nf5 nf_dK nf_lst nf_lst nf_lst nf_lst)
    rintro ys H10 ⟨hs, Sh, rfl, hhs, s310, F10⟩ hl10
    have o10 : Own _ H10 := F10.th 1
    have htw10 := o10 _ (List.mem_cons_self)
    have hcl10 := o10 (cl, .lst (cs.map V.int)) (by simp)
    have hbg10 := o10 (bg, .lst []) (by simp)
    have hkl10 := o10 (kl, .lst (ks.map V.ref)) (by simp)
    refine rd_dputS htw10 (by show 4 < sizeLine; decide) (k1 _ _ ?_)
    clear k1 R
    refine seq_step fun R k1 => ?_
    have s12 : Same H3 (upd H10 tw (.dK (tD5 cl bg kl hl))) := same_late s310 fw3
    have e12 : upd H10 tw (.dK (putK (tD4 cl bg kl) (Sum.inr "holders") (.ref hl))) = upd H10 tw (.dK (tD5 cl bg kl hl)) := rfl
    rw [e12]
    clear e12
    have ap : Apart ⟨tw, cl, bg, kl, hl⟩ := ⟨ncw.symm, ntb, nwk, nwh, ncb, nck, nch, nbk, nbh, nkh⟩
    have F12 : Tn t (upd H10 tw (.dK (tD5 cl bg kl hl))) ke ⟨Sa, Ta, waitOf lo hi le, le, ⟨tw, cl, bg, kl, hl⟩, ks, hs, Sk, Sh, cs, 0, [], kw0 cs (waitOf lo hi le), hw0 cs nk ke⟩ := by
      refine ⟨Fm.put1 (S' := TAd.all ⟨tw, cl, bg, kl, hl⟩) (T' := TAt ⟨tw, cl, bg, kl, hl⟩ ks hs cs 0 []) F10 (fr_upd (S := [tw, cl, bg, kl, hl]) (by simp)) (by exact TAt.foot) ?_, ap⟩
      exact ⟨upd_same, by rw [upd_ne ncw]; exact hcl10, by rw [upd_ne ntb.symm]; exact hbg10, by rw [upd_ne nwk.symm]; exact hkl10, by rw [upd_ne nwh.symm]; exact hl10, fun p hp => (by cases hp)⟩
    generalize upd H10 tw (.dK (tD5 cl bg kl hl)) = H12 at s12 F12 ⊢
    obtain ⟨Tt, tl, th, tn, tw_⟩ := tm_of dr
    have G12 : Good Tt 0 ⟨Sa, Ta, waitOf lo hi le, le, ⟨tw, cl, bg, kl, hl⟩, ks, hs, Sk, Sh, cs, 0, [], kw0 cs (waitOf lo hi le), hw0 cs nk ke⟩ := by
      refine good_start (ke := ke) tw_.symm tn.symm (by dsimp only; omega) (by dsimp only; omega) (by dsimp only; omega) hcs (by dsimp only; omega) rfl (by dsimp only; unfold hw0; rw [hks]) rfl rfl
    obtain ⟨v, F, G, C, eA⟩ : ∃ v : TV, Tn t H12 ke v ∧ Good Tt 0 v ∧ Ctx K t H12 a tp tm dt ns lo hi le ke ke Tt v ∧ v.A = ⟨tw, cl, bg, kl, hl⟩ ∧ v.hs.length = nh := ⟨_, F12, G12, ⟨sqA, s12 _ _ ht3, dr, tl, th, s12 _ _ htm, rfl, rfl, rfl, by dsimp only; omega⟩, rfl, hhs⟩
    obtain ⟨eA, eh⟩ := eA
    have etw : tw = v.A.tw := by rw [eA]
    have ecl : cl = v.A.cl := by rw [eA]
    rw [etw, ecl]
    clear F12 G12 F10 o10 htw10 hcl10 hbg10 hkl10 hl10 s310 F9 s39 hhl F8 o8 htw8 hcl8 hbg8 hkl8 s38 ap hS3 hcs hcl4 sqA soA thA ftA ht3 htm hks hhs s12 eA etw ecl dh1 dh2 de1 de2 dk1 dk2 nk1 nk5 hnk nh2 nh3
    have wb := wait_bounds dr
    try dsimp only [Y0,Y1,Y2,Y3,Y4,Y5,Y6,Y7,Y8,Y9,Ya,Yb,Yc,Yd,Ye,Yf,Yg,Yh,Yi,Yj,Yk,Yl,Ym,Yn,Yo,Yp,Yq,Yr,Ys,Yt,Yu,Yv,Yw,Yx,Yy,Yz,Z0,Z1,Z2,Z3,Z4,Z5,Z6,Z7,Z8,Z9,Za,Zb,Zc,Zd,Ze,Zf,Zg,Zh,Zi,Zj,Zk,Zl,Zm,Zn,Zo,Zp,Zq,Zr,Zs,Zt,Zu,Zv,Zw,Zx,Zy,Zz,V0,V1,V2]
    try simp only [V3,V4,V5,V6,V7,V8,V9,Va,Vb,Vc,Vd,Ve,Vf,Vg,Vh,Vi,Vj,V1,V2,Vk,Vl,reduceCtorEq,Vn,Vo,Vp,Vq]
    have q0 : 0 ≤ waitOf lo hi le / lo := Int.ediv_nonneg (by omega) (by omega)
    have q1 : waitOf lo hi le / lo ≤ waitOf lo hi le := Int.ediv_le_self _ (by omega)
    obtain ⟨m, hm, hm61⟩ : ∃ m : Nat, waitOf lo hi le / lo + 1 = (m : Int) ∧ m ≤ 61 := ⟨(waitOf lo hi le / lo + 1).toNat, by omega, by omega⟩
    refine ⟨tp, lo, hi, le, ke, rfl, C.tp, dr, rd_ixT (SqT.of C.tp) (v := .int lo) rfl ⟨waitOf lo hi le, rfl, lo, rfl, ⟨by omega, by omega⟩, ?_⟩⟩
    rw [hm]
    refine ⟨a, tp, ns, 14, lo, hi, le, ke, ke, m, 0, Tt, v, rfl, F, G, C.sq, C.tp, dr, C.tl, C.th, hm61, fun H13 cl' F13 G13 hcl k13 => k1 _ _ ?_⟩
    clear k1 R
    refine seq_step fun R k1 => ?_
    obtain ⟨v13, F13, G13, L13⟩ : ∃ v13 : TV, Tn t H13 ke v13 ∧ Good Tt 1 v13 ∧ Like v v13 := ⟨_, F13, G13, ⟨rfl, rfl, rfl, rfl, rfl, rfl⟩⟩
    have C13 := C.next k13 L13
    clear F G hcl hm hm61 q0 q1 dl1 dl2
    have tail : ∀ (H14 : Hp) (v14 : TV), Tn t H14 ke v14 → Good Tt 5 v14 → Like v v14 → Keep t H12 H14 → R [some (.ref a), some (.ref tp), some (.ref tm), some (.int (nh : Int)), some (.ref v.A.cl), some (.ref v.A.tw), none, none, none, none, none, none] H14 := by
      intro H14 v14 F14 G14 L14 k14
      refine k1 _ _ ?_
      clear k1 R F13 G13 L13 C13 k13
      refine seq_step fun R k1 => ?_
      have C14 := C.next k14 L14
      subst hZ
      refine for_step fun B kB => ?_
      try dsimp only [iRng1,Y0,Y1,Y2,Y3,Y4,Y5,Y6,Y7,Y8,Y9,Ya,Yb,Yc,Yd,Ye,Yf,Yg,Yh,Yi,Yj,Yk,Yl,Ym,Yn,Yo,Yp,Yq,Yr,Ys,Yt,Yu,Yv,Yw,Yx,Yy,Yz,Z0,Z1,Z2,Z3,Z4,Z5,Z6,Z7,Z8,Z9,Za,Zb,Zc,Zd,Ze,Zf,Zg,Zh,Zi,Zj,Zk,Zl,Zm,Zn,Zo,Zp,Zq,Zr,Zs,Zt,Zu,Zv,Zw,Zx,Zy,Zz,V0,V1,V2]
      try simp only [V3,V4,V5,V6,V7,V8,V9,Va,Vb,Vc,Vd,Ve,Vf,Vg,Vh,Vi,Vj,V1,V2,Vk,Vl,reduceCtorEq,Vn,Vo,Vp,Vq]
      refine mix_any (C14.sq _ F14.script) fun i15 => ⟨i15, rfl, by decide, ?_⟩
      have c0 := Int.emod_nonneg i15 (show (61 : Int) ≠ 0 by decide)
      have c1 := Int.emod_lt_of_pos i15 (show (0 : Int) < 61 by decide)
      refine ⟨by omega, by omega, kB _ _ ?_⟩
      clear kB B
      obtain ⟨cn, hcn, hc60⟩ : ∃ cn : Nat, (i15 % 61).toNat = cn ∧ cn ≤ 60 := ⟨_, rfl, by omega⟩
      rw [hcn]
      clear c0 c1 hcn
      refine for_range (lo := 0) (InvL t ke Tt v H12 a tp tm (nh : Int)) ?_ ?_ ?_
      · exact ⟨v14, _, _, _, _, _, _, rfl, F14, G14, L14, k14⟩
      · rintro i σ H6 hi6 ⟨v6, w6, w7, w8, w9, w10, w11, rfl, F6, G6, L6, k6⟩
        clear k1 F14 G14 L14 k14 C14
        have C6 := C.next k6 L6
        have sl := C6.small
        have gh := G6.hn
        have gk := G6.kn
        have gc := G6.cl
        have hn6 := C6.hn
        have hh6 : v6.hs.length = nh := L6.hs.trans eh
        have a6 : TAt v.A v6.ks v6.hs v6.cl v6.lf v6.bag H6 := by rw [← L6.A]; exact F6.at
        dsimp only [gName]
        refine seq_step fun R2 k2 => ?_
        try dsimp only [Y0,Y1,Y2,Y3,Y4,Y5,Y6,Y7,Y8,Y9,Ya,Yb,Yc,Yd,Ye,Yf,Yg,Yh,Yi,Yj,Yk,Yl,Ym,Yn,Yo,Yp,Yq,Yr,Ys,Yt,Yu,Yv,Yw,Yx,Yy,Yz,Z0,Z1,Z2,Z3,Z4,Z5,Z6,Z7,Z8,Z9,Za,Zb,Zc,Zd,Ze,Zf,Zg,Zh,Zi,Zj,Zk,Zl,Zm,Zn,Zo,Zp,Zq,Zr,Zs,Zt,Zu,Zv,Zw,Zx,Zy,Zz,V0,V1,V2]
        try simp only [V3,V4,V5,V6,V7,V8,V9,Va,Vb,Vc,Vd,Ve,Vf,Vg,Vh,Vi,Vj,V1,V2,Vk,Vl,reduceCtorEq,Vn,Vo,Vp,Vq]
        refine mix_any (C6.sq _ F6.script) fun nu => k2 _ _ ?_
        clear k2 R2
        refine seq_step fun R2 k2 => ?_
        try dsimp only [Y0,Y1,Y2,Y3,Y4,Y5,Y6,Y7,Y8,Y9,Ya,Yb,Yc,Yd,Ye,Yf,Yg,Yh,Yi,Yj,Yk,Yl,Ym,Yn,Yo,Yp,Yq,Yr,Ys,Yt,Yu,Yv,Yw,Yx,Yy,Yz,Z0,Z1,Z2,Z3,Z4,Z5,Z6,Z7,Z8,Z9,Za,Zb,Zc,Zd,Ze,Zf,Zg,Zh,Zi,Zj,Zk,Zl,Zm,Zn,Zo,Zp,Zq,Zr,Zs,Zt,Zu,Zv,Zw,Zx,Zy,Zz,V0,V1,V2]
        try simp only [V3,V4,V5,V6,V7,V8,V9,Va,Vb,Vc,Vd,Ve,Vf,Vg,Vh,Vi,Vj,V1,V2,Vk,Vl,reduceCtorEq,Vn,Vo,Vp,Vq]
        refine ⟨by decide, k2 _ _ ?_⟩
        clear k2 R2
        refine seq_step fun R2 k2 => ?_
        generalize nu % 16 = way
        try dsimp only [Y0,Y1,Y2,Y3,Y4,Y5,Y6,Y7,Y8,Y9,Ya,Yb,Yc,Yd,Ye,Yf,Yg,Yh,Yi,Yj,Yk,Yl,Ym,Yn,Yo,Yp,Yq,Yr,Ys,Yt,Yu,Yv,Yw,Yx,Yy,Yz,Z0,Z1,Z2,Z3,Z4,Z5,Z6,Z7,Z8,Z9,Za,Zb,Zc,Zd,Ze,Zf,Zg,Zh,Zi,Zj,Zk,Zl,Zm,Zn,Zo,Zp,Zq,Zr,Zs,Zt,Zu,Zv,Zw,Zx,Zy,Zz,V0,V1,V2]
        try simp only [V3,V4,V5,V6,V7,V8,V9,Va,Vb,Vc,Vd,Ve,Vf,Vg,Vh,Vi,Vj,V1,V2,Vk,Vl,reduceCtorEq,Vn,Vo,Vp,Vq]
        refine ⟨⟨by decide, by decide⟩, by omega, k2 _ _ ?_⟩
        clear k2 R2
        refine seq_step fun R2 k2 => ?_
        obtain ⟨x, hxe⟩ : ∃ x : Nat, nu / 16 % (nh : Int) = (x : Int) := ⟨_, (Int.toNat_of_nonneg (Int.emod_nonneg _ (by omega))).symm⟩
        have hx : x < v6.hs.length := by
          have := Int.emod_lt_of_pos (nu / 16) (show (0 : Int) < (nh : Int) by omega)
          omega
        rw [hxe]
        clear hxe
        try dsimp only [Y0,Y1,Y2,Y3,Y4,Y5,Y6,Y7,Y8,Y9,Ya,Yb,Yc,Yd,Ye,Yf,Yg,Yh,Yi,Yj,Yk,Yl,Ym,Yn,Yo,Yp,Yq,Yr,Ys,Yt,Yu,Yv,Yw,Yx,Yy,Yz,Z0,Z1,Z2,Z3,Z4,Z5,Z6,Z7,Z8,Z9,Za,Zb,Zc,Zd,Ze,Zf,Zg,Zh,Zi,Zj,Zk,Zl,Zm,Zn,Zo,Zp,Zq,Zr,Zs,Zt,Zu,Zv,Zw,Zx,Zy,Zz,V0,V1,V2]
        try simp only [V3,V4,V5,V6,V7,V8,V9,Va,Vb,Vc,Vd,Ve,Vf,Vg,Vh,Vi,Vj,V1,V2,Vk,Vl,reduceCtorEq,Vn,Vo,Vp,Vq]
        refine rd_ixT (SqT.of C6.tp) (v := .int ke) rfl ⟨ke, rfl, ?_⟩
        rw [show ke + (x : Int) = ((v6.ks.length + x : Nat) : Int) by omega]
        refine rd_ixL (SqL.of a6.cl) (at_ints (G6.hl hx)) (k2 _ _ ?_)
        clear k2 R2
        refine seq_step fun R2 k2 => ?_
        have hN8 : 5 + 2 * i ≤ 900 := by omega
        have hN9 : 5 + 2 * (i + 1) ≤ 900 := by omega
        have mo : 5 + 2 * i ≤ 5 + 2 * (i + 1) := by omega
        have sx := G6.sh hx hN8
        have m9 := G6.few hx hN8
        have n1 := G6.n1 hn6
        have n5 := G6.n5 hn6
        have fin : ∀ (H7 : Hp) (v7 : TV) (w11' : Option V), Tn t H7 ke v7 → Good Tt (5 + 2 * (i + 1)) v7 → Like v v7 → Keep t H12 H7 → R2 [some (.ref a), some (.ref tp), some (.ref tm), some (.int (nh : Int)), some (.ref v.A.cl), some (.ref v.A.tw), some (.int (0 + (i : Int))), some (.int nu), some (.int way), some (.int (x : Int)), some (.int (v6.cl.getD (v6.ks.length + x) 0)), w11'] H7 := by
          intro H7 v7 w11' F7 G7 L7 k7
          refine k2 _ _ ?_
          clear k2 R2
          have C7 := C.next k7 L7
          try dsimp only [Y0,Y1,Y2,Y3,Y4,Y5,Y6,Y7,Y8,Y9,Ya,Yb,Yc,Yd,Ye,Yf,Yg,Yh,Yi,Yj,Yk,Yl,Ym,Yn,Yo,Yp,Yq,Yr,Ys,Yt,Yu,Yv,Yw,Yx,Yy,Yz,Z0,Z1,Z2,Z3,Z4,Z5,Z6,Z7,Z8,Z9,Za,Zb,Zc,Zd,Ze,Zf,Zg,Zh,Zi,Zj,Zk,Zl,Zm,Zn,Zo,Zp,Zq,Zr,Zs,Zt,Zu,Zv,Zw,Zx,Zy,Zz,V0,V1,V2]
          try simp only [V3,V4,V5,V6,V7,V8,V9,Va,Vb,Vc,Vd,Ve,Vf,Vg,Vh,Vi,Vj,V1,V2,Vk,Vl,reduceCtorEq,Vn,Vo,Vp,Vq]
          refine ⟨ke, _, Tt, v7, by rw [L7.A], F7, G7, C7.hn, hN9, C7.small, fun H8 Sh8 hw8 F8 G8 _ k8 => ⟨true, rfl, ?_⟩⟩
          rw [if_neg (by decide)]
          exact ⟨_, _, _, _, _, _, _, rfl, F8, G8, ⟨L7.A, L7.Ta, L7.ln, L7.ks, L7.hs, L7.wt⟩, k7.trans k8⟩
        clear k2
        have ehs : v6.hs[x]? = some v6.hs[x] := List.getElem?_eq_getElem hx
        refine tif_gen fun FA FB ka kb => ?_
        try dsimp only [Y0,Y1,Y2,Y3,Y4,Y5,Y6,Y7,Y8,Y9,Ya,Yb,Yc,Yd,Ye,Yf,Yg,Yh,Yi,Yj,Yk,Yl,Ym,Yn,Yo,Yp,Yq,Yr,Ys,Yt,Yu,Yv,Yw,Yx,Yy,Yz,Z0,Z1,Z2,Z3,Z4,Z5,Z6,Z7,Z8,Z9,Za,Zb,Zc,Zd,Ze,Zf,Zg,Zh,Zi,Zj,Zk,Zl,Zm,Zn,Zo,Zp,Zq,Zr,Zs,Zt,Zu,Zv,Zw,Zx,Zy,Zz,V0,V1,V2]
        try simp only [V3,V4,V5,V6,V7,V8,V9,Va,Vb,Vc,Vd,Ve,Vf,Vg,Vh,Vi,Vj,V1,V2,Vk,Vl,reduceCtorEq,Vn,Vo,Vp,Vq]
        split
        · refine ka _ ?_
          clear ka kb FA FB
          try dsimp only [Y0,Y1,Y2,Y3,Y4,Y5,Y6,Y7,Y8,Y9,Ya,Yb,Yc,Yd,Ye,Yf,Yg,Yh,Yi,Yj,Yk,Yl,Ym,Yn,Yo,Yp,Yq,Yr,Ys,Yt,Yu,Yv,Yw,Yx,Yy,Yz,Z0,Z1,Z2,Z3,Z4,Z5,Z6,Z7,Z8,Z9,Za,Zb,Zc,Zd,Ze,Zf,Zg,Zh,Zi,Zj,Zk,Zl,Zm,Zn,Zo,Zp,Zq,Zr,Zs,Zt,Zu,Zv,Zw,Zx,Zy,Zz,V0,V1,V2]
          try simp only [V3,V4,V5,V6,V7,V8,V9,Va,Vb,Vc,Vd,Ve,Vf,Vg,Vh,Vi,Vj,V1,V2,Vk,Vl,reduceCtorEq,Vn,Vo,Vp,Vq]
          refine ⟨tp, lo, hi, le, ke, rfl, C6.tp, dr, by decide, fun pm hpm => ⟨⟨by decide, by decide⟩, by decide, ?_⟩⟩
          have sA := same_upd (o := .lst [.int 1, .int 1, .int 2, .int (waitOf lo hi le)]) hpm
          refine menu [1, 1, 2, waitOf lo hi le] upd_same (by decide) (by rfl) fun mv hmv => ?_
          obtain ⟨mm, rfl, hmb⟩ : ∃ mm : Nat, mv = (mm : Int) ∧ mm ≤ 61 := by
            exact menu61 (l := [1, 1, 2]) hmv (by decide) ⟨Int.le_trans (by decide) wb.1, Int.le_trans wb.2 (by decide)⟩
          exact ⟨a, tp, ns, _, lo, hi, le, ke, ke, mm, 5 + 2 * i, Tt, v6, by rw [L6.A], F6.same sA, G6, C6.sq, sA _ _ C6.tp, dr, C6.tl, C6.th, hmb, fun H7 cl' F7 G7 _ k7 => fin H7 _ _ F7 (G7.mono (by omega)) ⟨L6.A, L6.Ta, L6.ln, L6.ks, L6.hs, L6.wt⟩ ((k6.trans (Keep.of sA)).trans k7)⟩
        · refine kb _ ?_
          clear ka kb FA FB
          refine tif_gen fun FA FB ka kb => ?_
          try dsimp only [Y0,Y1,Y2,Y3,Y4,Y5,Y6,Y7,Y8,Y9,Ya,Yb,Yc,Yd,Ye,Yf,Yg,Yh,Yi,Yj,Yk,Yl,Ym,Yn,Yo,Yp,Yq,Yr,Ys,Yt,Yu,Yv,Yw,Yx,Yy,Yz,Z0,Z1,Z2,Z3,Z4,Z5,Z6,Z7,Z8,Z9,Za,Zb,Zc,Zd,Ze,Zf,Zg,Zh,Zi,Zj,Zk,Zl,Zm,Zn,Zo,Zp,Zq,Zr,Zs,Zt,Zu,Zv,Zw,Zx,Zy,Zz,V0,V1,V2]
          try simp only [V3,V4,V5,V6,V7,V8,V9,Va,Vb,Vc,Vd,Ve,Vf,Vg,Vh,Vi,Vj,V1,V2,Vk,Vl,reduceCtorEq,Vn,Vo,Vp,Vq]
          split
          · refine ka _ ?_
            clear ka kb FA FB
            try dsimp only [Y0,Y1,Y2,Y3,Y4,Y5,Y6,Y7,Y8,Y9,Ya,Yb,Yc,Yd,Ye,Yf,Yg,Yh,Yi,Yj,Yk,Yl,Ym,Yn,Yo,Yp,Yq,Yr,Ys,Yt,Yu,Yv,Yw,Yx,Yy,Yz,Z0,Z1,Z2,Z3,Z4,Z5,Z6,Z7,Z8,Z9,Za,Zb,Zc,Zd,Ze,Zf,Zg,Zh,Zi,Zj,Zk,Zl,Zm,Zn,Zo,Zp,Zq,Zr,Zs,Zt,Zu,Zv,Zw,Zx,Zy,Zz,V0,V1,V2]
            try simp only [V3,V4,V5,V6,V7,V8,V9,Va,Vb,Vc,Vd,Ve,Vf,Vg,Vh,Vi,Vj,V1,V2,Vk,Vl,reduceCtorEq,Vn,Vo,Vp,Vq]
            refine rd_dgetS a6.tw tw_holders (rd_ixL (SqL.of a6.hl) (at_refs hx) ?_)
            have hA := F6.holder ehs
            obtain ⟨dx, fs, hp, l1, _⟩ := hA.meth
            refine rd_meth hp l1 ⟨v6.hs[x], v6.Sh x, ke, v6.len, v6.hw x, v6.ch x, 0, tp, 0, 0, rfl, hA, n1, n5, m9, sx, ⟨by decide, by decide⟩, sl, (fun e => absurd e (by decide)), fun H7 S7 f7 hk7 => ?_⟩
            have F7 := F6.putH ehs f7 hk7
            have k67 := F6.fxH f7
            have G7 := G6.ask (S' := S7) (kk := 0) (a := 0) (b := 0) hx
            rw [hn6] at G7
            have e1 : (hdue ke v6.len (v6.hw x) 0 (v6.ch x) 0 0 0).1 = .pair (v6.hw x).life (v6.hw x).many := by rw [hdue_ask (G6.hc hx)]
            have e2 : (hdue ke v6.len (v6.hw x) 0 (v6.ch x) 0 0 0).2.life = (v6.hw x).life ∧ (hdue ke v6.len (v6.hw x) 0 (v6.ch x) 0 0 0).2.many = (v6.hw x).many + 1 := by rw [hdue_ask (G6.hc hx)]; exact ⟨rfl, rfl⟩
            rw [e1]
            refine out_pair fun qn hqn => ?_
            have hnl : nlt ((v6.hw x).life, (v6.hw x).many) ((atS v6.hw x (hdue ke v6.len (v6.hw x) 0 (v6.ch x) 0 0 0).2 x).life, (atS v6.hw x (hdue ke v6.len (v6.hw x) 0 (v6.ch x) 0 0 0).2 x).many) := by
              rw [atS_same, e2.1, e2.2]
              unfold nlt
              dsimp only
              omega
            exact ⟨"ask", fun k => .ask k x ((v6.hw x).life, (v6.hw x).many), x, qn, ((v6.hw x).life, (v6.hw x).many), ke, 5 + 2 * i + 1, Tt, _, by dsimp only; rw [L6.A], F7, G7, by omega, hqn, (fun H' r k e1 e2 => ⟨qn, e1, e2⟩), (fun bag r k hk hb g => g.addAsk (Nat.le_refl _) hb hk hx hnl), fun H8 bag' F8 G8 k8 => fin H8 _ _ F8 (G8.mono (by omega)) ⟨L6.A, L6.Ta, L6.ln, L6.ks, L6.hs, L6.wt⟩ ((k6.trans k67).trans k8)⟩
          · refine kb _ ?_
            clear ka kb FA FB
            refine tif_gen fun FA FB ka kb => ?_
            have rest : ∀ (H7 : Hp) (v7 : TV), Tn t H7 ke v7 → Good Tt (5 + 2 * i) v7 → Like v v7 → Keep t H12 H7 → FB H7 := by
              intro H7 v7 F7 G7 L7 k7
              refine kb _ ?_
              clear ka kb FA FB
              have C7 := C.next k7 L7
              have a7 : TAt v.A v7.ks v7.hs v7.cl v7.lf v7.bag H7 := by rw [← L7.A]; exact F7.at
              refine tif_gen fun FA FB ka kb => ?_
              have anewP : FA H7 := by
                refine ka _ ?_
                clear ka kb FA FB
                try dsimp only [Y0,Y1,Y2,Y3,Y4,Y5,Y6,Y7,Y8,Y9,Ya,Yb,Yc,Yd,Ye,Yf,Yg,Yh,Yi,Yj,Yk,Yl,Ym,Yn,Yo,Yp,Yq,Yr,Ys,Yt,Yu,Yv,Yw,Yx,Yy,Yz,Z0,Z1,Z2,Z3,Z4,Z5,Z6,Z7,Z8,Z9,Za,Zb,Zc,Zd,Ze,Zf,Zg,Zh,Zi,Zj,Zk,Zl,Zm,Zn,Zo,Zp,Zq,Zr,Zs,Zt,Zu,Zv,Zw,Zx,Zy,Zz,V0,V1,V2]
                try simp only [V3,V4,V5,V6,V7,V8,V9,Va,Vb,Vc,Vd,Ve,Vf,Vg,Vh,Vi,Vj,V1,V2,Vk,Vl,reduceCtorEq,Vn,Vo,Vp,Vq]
                exact ⟨⟨by decide, by decide⟩, tm, dt, lo, hi, le, ke, nu / 256, ke, 5 + 2 * i, Tt, v7, by rw [L7.A], F7, G7, C7.tm, C7.dr.good, C7.ew, C7.el, rfl, C7.hn, hN8, fun H8 v8 F8 G8 L8 k8 => fin H8 v8 _ F8 (G8.mono mo) (L7.trans L8) (k7.trans k8)⟩
              have bagP : FB H7 := by
                refine kb _ ?_
                clear ka kb anewP FA FB
                refine tif_gen fun FA FB ka kb => ?_
                try dsimp only [Y0,Y1,Y2,Y3,Y4,Y5,Y6,Y7,Y8,Y9,Ya,Yb,Yc,Yd,Ye,Yf,Yg,Yh,Yi,Yj,Yk,Yl,Ym,Yn,Yo,Yp,Yq,Yr,Ys,Yt,Yu,Yv,Yw,Yx,Yy,Yz,Z0,Z1,Z2,Z3,Z4,Z5,Z6,Z7,Z8,Z9,Za,Zb,Zc,Zd,Ze,Zf,Zg,Zh,Zi,Zj,Zk,Zl,Zm,Zn,Zo,Zp,Zq,Zr,Zs,Zt,Zu,Zv,Zw,Zx,Zy,Zz,V0,V1,V2]
                try simp only [V3,V4,V5,V6,V7,V8,V9,Va,Vb,Vc,Vd,Ve,Vf,Vg,Vh,Vi,Vj,V1,V2,Vk,Vl,reduceCtorEq,Vn,Vo,Vp,Vq]
                refine rd_dgetS a7.tw tw_bag ⟨_, .inl ⟨_, SqL.of a7.bg, rfl⟩, ?_⟩
                by_cases hb : v7.bag = []
                · rw [hb]
                  rw [if_neg (by decide)]
                  refine kb _ ?_
                  try dsimp only [Y0,Y1,Y2,Y3,Y4,Y5,Y6,Y7,Y8,Y9,Ya,Yb,Yc,Yd,Ye,Yf,Yg,Yh,Yi,Yj,Yk,Yl,Ym,Yn,Yo,Yp,Yq,Yr,Ys,Yt,Yu,Yv,Yw,Yx,Yy,Yz,Z0,Z1,Z2,Z3,Z4,Z5,Z6,Z7,Z8,Z9,Za,Zb,Zc,Zd,Ze,Zf,Zg,Zh,Zi,Zj,Zk,Zl,Zm,Zn,Zo,Zp,Zq,Zr,Zs,Zt,Zu,Zv,Zw,Zx,Zy,Zz,V0,V1,V2]
                  try simp only [V3,V4,V5,V6,V7,V8,V9,Va,Vb,Vc,Vd,Ve,Vf,Vg,Vh,Vi,Vj,V1,V2,Vk,Vl,reduceCtorEq,Vn,Vo,Vp,Vq]
                  exact fin H7 v7 _ F7 (G7.mono mo) L7 k7
                · have hbl : 0 < v7.bag.length := List.length_pos_iff.mpr hb
                  rw [if_pos (by rw [List.isEmpty_eq_false_iff.mpr (by intro z; exact hb (List.map_eq_nil_iff.mp z))]; rfl)]
                  refine ka _ ?_
                  clear ka kb FA FB
                  refine seq_step fun R3 k3 => ?_
                  have go : ∀ la : Int, 1 ≤ la → la ≤ (v7.bag.length : Int) → R3 [some (.ref a), some (.ref tp), some (.ref tm), some (.int (nh : Int)), some (.ref v.A.cl), some (.ref v.A.tw), some (.int (0 + (i : Int))), some (.int nu), some (.int way), some (.int (x : Int)), some (.int (v6.cl.getD (v6.ks.length + x) 0)), some (.int la)] H7 := by
                    intro la la1 la2
                    refine k3 _ _ ?_
                    clear k3 R3
                    try dsimp only [Y0,Y1,Y2,Y3,Y4,Y5,Y6,Y7,Y8,Y9,Ya,Yb,Yc,Yd,Ye,Yf,Yg,Yh,Yi,Yj,Yk,Yl,Ym,Yn,Yo,Yp,Yq,Yr,Ys,Yt,Yu,Yv,Yw,Yx,Yy,Yz,Z0,Z1,Z2,Z3,Z4,Z5,Z6,Z7,Z8,Z9,Za,Zb,Zc,Zd,Ze,Zf,Zg,Zh,Zi,Zj,Zk,Zl,Zm,Zn,Zo,Zp,Zq,Zr,Zs,Zt,Zu,Zv,Zw,Zx,Zy,Zz,V0,V1,V2]
                    try simp only [V3,V4,V5,V6,V7,V8,V9,Va,Vb,Vc,Vd,Ve,Vf,Vg,Vh,Vi,Vj,V1,V2,Vk,Vl,reduceCtorEq,Vn,Vo,Vp,Vq]
                    have l0 := Int.emod_nonneg (nu / 256) (show la ≠ 0 by omega)
                    have l1 := Int.emod_lt_of_pos (nu / 256) (show 0 < la by omega)
                    obtain ⟨j, hj⟩ : ∃ j : Nat, (v7.bag.length : Int) - 1 - nu / 256 % la = (j : Int) := ⟨_, (Int.toNat_of_nonneg (by omega)).symm⟩
                    have hjl : j < v7.bag.length := by omega
                    refine rd_dgetS a7.tw tw_bag (rd_dgetS a7.tw tw_bag (rd_lenL (SqL.of a7.bg) ⟨(v7.bag.length : Int), by rw [List.length_map], ⟨by decide, by decide⟩, by omega, ?_⟩))
                    rw [hj]
                    exact rd_ixL (SqL.of a7.bg) (v := .ref v7.bag[j].1) (atI_nat (by rw [List.getElem?_map, List.getElem?_eq_getElem hjl]; rfl)) ⟨⟨by decide, by decide⟩, by decide, v7.bag[j].1, v7.bag[j].2, _, ke, 5 + 2 * i, Tt, v7, by rw [L7.A], List.getElem_mem hjl, F7, G7, C7.hn, hN8, C7.small, fun H8 v8 F8 G8 L8 k8 => fin H8 v8 _ F8 (G8.mono (by omega)) (L7.trans L8) (k7.trans k8)⟩
                  clear k3
                  try dsimp only [Y0,Y1,Y2,Y3,Y4,Y5,Y6,Y7,Y8,Y9,Ya,Yb,Yc,Yd,Ye,Yf,Yg,Yh,Yi,Yj,Yk,Yl,Ym,Yn,Yo,Yp,Yq,Yr,Ys,Yt,Yu,Yv,Yw,Yx,Yy,Yz,Z0,Z1,Z2,Z3,Z4,Z5,Z6,Z7,Z8,Z9,Za,Zb,Zc,Zd,Ze,Zf,Zg,Zh,Zi,Zj,Zk,Zl,Zm,Zn,Zo,Zp,Zq,Zr,Zs,Zt,Zu,Zv,Zw,Zx,Zy,Zz,V0,V1,V2]
                  try simp only [V3,V4,V5,V6,V7,V8,V9,Va,Vb,Vc,Vd,Ve,Vf,Vg,Vh,Vi,Vj,V1,V2,Vk,Vl,reduceCtorEq,Vn,Vo,Vp,Vq]
                  refine ⟨⟨by decide, by decide⟩, by decide, ?_⟩
                  split
                  · refine rd_dgetS a7.tw tw_bag (rd_lenL (SqL.of a7.bg) (rd_two ?_))
                    rw [List.length_map]
                    exact go _ (by omega) (by omega)
                  · refine rd_dgetS a7.tw tw_bag (rd_lenL (SqL.of a7.bg) ?_)
                    rw [List.length_map]
                    exact go _ (by omega) (Int.le_refl _)
              try dsimp only [Y0,Y1,Y2,Y3,Y4,Y5,Y6,Y7,Y8,Y9,Ya,Yb,Yc,Yd,Ye,Yf,Yg,Yh,Yi,Yj,Yk,Yl,Ym,Yn,Yo,Yp,Yq,Yr,Ys,Yt,Yu,Yv,Yw,Yx,Yy,Yz,Z0,Z1,Z2,Z3,Z4,Z5,Z6,Z7,Z8,Z9,Za,Zb,Zc,Zd,Ze,Zf,Zg,Zh,Zi,Zj,Zk,Zl,Zm,Zn,Zo,Zp,Zq,Zr,Zs,Zt,Zu,Zv,Zw,Zx,Zy,Zz,V0,V1,V2]
              try simp only [V3,V4,V5,V6,V7,V8,V9,Va,Vb,Vc,Vd,Ve,Vf,Vg,Vh,Vi,Vj,V1,V2,Vk,Vl,reduceCtorEq,Vn,Vo,Vp,Vq]
              split
              · refine ⟨⟨by decide, by decide⟩, by decide, ?_⟩
                split
                · exact anewP
                · refine mix_any (C7.sq _ F7.script) fun i12 => ⟨i12, rfl, by decide, ?_⟩
                  split
                  · exact anewP
                  · exact bagP
              · exact bagP
            try dsimp only [Y0,Y1,Y2,Y3,Y4,Y5,Y6,Y7,Y8,Y9,Ya,Yb,Yc,Yd,Ye,Yf,Yg,Yh,Yi,Yj,Yk,Yl,Ym,Yn,Yo,Yp,Yq,Yr,Ys,Yt,Yu,Yv,Yw,Yx,Yy,Yz,Z0,Z1,Z2,Z3,Z4,Z5,Z6,Z7,Z8,Z9,Za,Zb,Zc,Zd,Ze,Zf,Zg,Zh,Zi,Zj,Zk,Zl,Zm,Zn,Zo,Zp,Zq,Zr,Zs,Zt,Zu,Zv,Zw,Zx,Zy,Zz,V0,V1,V2]
            try simp only [V3,V4,V5,V6,V7,V8,V9,Va,Vb,Vc,Vd,Ve,Vf,Vg,Vh,Vi,Vj,V1,V2,Vk,Vl,reduceCtorEq,Vn,Vo,Vp,Vq]
            split
            · refine rd_dgetS a6.tw tw_holders (rd_ixL (SqL.of a6.hl) (at_refs hx) ?_)
              have hA := F6.holder ehs
              obtain ⟨dx, fs, hp, _, _, _, l4, _⟩ := hA.meth
              refine rd_meth hp l4 ⟨v6.hs[x], v6.Sh x, ke, v6.len, v6.hw x, v6.ch x, 0, tp, 0, 0, rfl, hA, n1, n5, m9, sx, ⟨by decide, by decide⟩, sl, (fun e => absurd e (by decide)), fun H7 S7 f7 hk7 => ?_⟩
              rw [hdue_until (G6.hc hx)] at hk7 ⊢
              have F7 := F6.putH ehs f7 hk7
              have k67 := F6.fxH f7
              have G7 := G6.seen (S' := S7) hx
              cases e : holdsB ke (v6.hw x) (v6.ch x) with
              | false =>
                rw [if_neg (by decide)]
                refine out_non ?_
                rw [if_neg (fun z => z rfl)]
                exact rest H7 _ F7 G7 ⟨L6.A, L6.Ta, L6.ln, L6.ks, L6.hs, L6.wt⟩ (k6.trans k67)
              | true =>
                rw [if_pos rfl]
                refine out_int ?_
                rw [if_pos (by intro z; cases z)]
                refine ka _ ?_
                clear ka kb rest FA FB
                have a7 : TAt v.A v6.ks v6.hs v6.cl v6.lf v6.bag H7 := by rw [← L6.A]; exact F7.at
                have hA7 := F7.holder (i := x) ehs
                obtain ⟨dx, fs, hp, _, _, _, _, l5⟩ := hA7.meth
                have hm : ¬ (atS v6.hw x ⟨v6.ch x, (v6.hw x).first, (v6.hw x).life, (v6.hw x).many, (v6.hw x).asks, (v6.hw x).ends⟩ x).many = 0 := G7.held hx (by
                  show holdsB (v6.ks.length : Int) (atS v6.hw x ⟨v6.ch x, (v6.hw x).first, (v6.hw x).life, (v6.hw x).many, (v6.hw x).asks, (v6.hw x).ends⟩ x) (v6.ch x) = true
                  rw [atS_same, hn6]
                  exact e)
                try dsimp only [Y0,Y1,Y2,Y3,Y4,Y5,Y6,Y7,Y8,Y9,Ya,Yb,Yc,Yd,Ye,Yf,Yg,Yh,Yi,Yj,Yk,Yl,Ym,Yn,Yo,Yp,Yq,Yr,Ys,Yt,Yu,Yv,Yw,Yx,Yy,Yz,Z0,Z1,Z2,Z3,Z4,Z5,Z6,Z7,Z8,Z9,Za,Zb,Zc,Zd,Ze,Zf,Zg,Zh,Zi,Zj,Zk,Zl,Zm,Zn,Zo,Zp,Zq,Zr,Zs,Zt,Zu,Zv,Zw,Zx,Zy,Zz,V0,V1,V2]
                try simp only [V3,V4,V5,V6,V7,V8,V9,Va,Vb,Vc,Vd,Ve,Vf,Vg,Vh,Vi,Vj,V1,V2,Vk,Vl,reduceCtorEq,Vn,Vo,Vp,Vq]
                refine rd_dgetS a7.tw tw_holders (rd_ixL (SqL.of a7.hl) (at_refs hx) ?_)
                refine rd_meth hp l5 ⟨v6.hs[x], _, ke, v6.len, _, v6.ch x, 0, tp, 0, 0, rfl, hA7, n1, n5, (by dsimp only; rw [atS_same]; exact m9), sx, ⟨by decide, by decide⟩, sl, (fun e => absurd e (by decide)), fun H8 S8 f8 hk8 => ?_⟩
                have F8 := F7.putH (i := x) ehs f8 hk8
                have k78 := F7.fxH (i := x) f8
                have G8 := G7.free (S' := S8) (kk := 0) (a := 0) (b := 0) hx hm
                dsimp only at G8
                rw [hn6] at G8
                have ef := hdue_free (n := ke) (len := v6.len) (keeper := 0) (a := 0) (b := 0) (G7.hc hx) hm
                dsimp only at ef F8
                have e8 : (atS (atS v6.hw x ⟨v6.ch x, (v6.hw x).first, (v6.hw x).life, (v6.hw x).many, (v6.hw x).asks, (v6.hw x).ends⟩) x (hdue ke v6.len (atS v6.hw x ⟨v6.ch x, (v6.hw x).first, (v6.hw x).life, (v6.hw x).many, (v6.hw x).asks, (v6.hw x).ends⟩ x) 4 (v6.ch x) 0 0 0).2 x) = _ := atS_same.trans (congrArg Prod.snd ef)
                have hnl : nlt ((atS v6.hw x ⟨v6.ch x, (v6.hw x).first, (v6.hw x).life, (v6.hw x).many, (v6.hw x).asks, (v6.hw x).ends⟩ x).life, (atS v6.hw x ⟨v6.ch x, (v6.hw x).first, (v6.hw x).life, (v6.hw x).many, (v6.hw x).asks, (v6.hw x).ends⟩ x).many - 1) ((atS (atS v6.hw x ⟨v6.ch x, (v6.hw x).first, (v6.hw x).life, (v6.hw x).many, (v6.hw x).asks, (v6.hw x).ends⟩) x (hdue ke v6.len (atS v6.hw x ⟨v6.ch x, (v6.hw x).first, (v6.hw x).life, (v6.hw x).many, (v6.hw x).asks, (v6.hw x).ends⟩ x) 4 (v6.ch x) 0 0 0).2 x).life, (atS (atS v6.hw x ⟨v6.ch x, (v6.hw x).first, (v6.hw x).life, (v6.hw x).many, (v6.hw x).asks, (v6.hw x).ends⟩) x (hdue ke v6.len (atS v6.hw x ⟨v6.ch x, (v6.hw x).first, (v6.hw x).life, (v6.hw x).many, (v6.hw x).asks, (v6.hw x).ends⟩ x) 4 (v6.ch x) 0 0 0).2 x).many) := by
                  rw [e8]
                  unfold nlt
                  dsimp only
                  omega
                have hno : ∀ a b, (atS (atS v6.hw x ⟨v6.ch x, (v6.hw x).first, (v6.hw x).life, (v6.hw x).many, (v6.hw x).asks, (v6.hw x).ends⟩) x (hdue ke v6.len (atS v6.hw x ⟨v6.ch x, (v6.hw x).first, (v6.hw x).life, (v6.hw x).many, (v6.hw x).asks, (v6.hw x).ends⟩ x) 4 (v6.ch x) 0 0 0).2 x).asks a b = none := fun a b => by rw [e8]
                rw [show (hdue ke v6.len (atS v6.hw x ⟨v6.ch x, (v6.hw x).first, (v6.hw x).life, (v6.hw x).many, (v6.hw x).asks, (v6.hw x).ends⟩ x) 4 (v6.ch x) 0 0 0) = _ from ef]
                refine out_pair fun qn hqn => ?_
                exact ⟨"free", fun k => .free k x ((atS v6.hw x ⟨v6.ch x, (v6.hw x).first, (v6.hw x).life, (v6.hw x).many, (v6.hw x).asks, (v6.hw x).ends⟩ x).life, (atS v6.hw x ⟨v6.ch x, (v6.hw x).first, (v6.hw x).life, (v6.hw x).many, (v6.hw x).asks, (v6.hw x).ends⟩ x).many - 1), x, qn, ((atS v6.hw x ⟨v6.ch x, (v6.hw x).first, (v6.hw x).life, (v6.hw x).many, (v6.hw x).asks, (v6.hw x).ends⟩ x).life, (atS v6.hw x ⟨v6.ch x, (v6.hw x).first, (v6.hw x).life, (v6.hw x).many, (v6.hw x).asks, (v6.hw x).ends⟩ x).many - 1), ke, 5 + 2 * i, Tt, _, by dsimp only; rw [L6.A], F8, G8, by omega, hqn, (fun H' r k e1 e2 => ⟨qn, e1, e2⟩), (fun bag r k hk hb g => g.addFree (Nat.le_refl _) hb hk hx hnl hno), fun H9 bag' F9 G9 k9 => fin H9 _ _ F9 (G9.mono (by omega)) ⟨L6.A, L6.Ta, L6.ln, L6.ks, L6.hs, L6.wt⟩ (((k6.trans k67).trans k78).trans k9)⟩
            · exact rest H6 v6 F6 G6 L6 k6
      · rintro σ H6 ⟨v6, w6, w7, w8, w9, w10, w11, rfl, F6, G6, L6, k6⟩
        refine k1 _ _ ?_
        try dsimp only [Y0,Y1,Y2,Y3,Y4,Y5,Y6,Y7,Y8,Y9,Ya,Yb,Yc,Yd,Ye,Yf,Yg,Yh,Yi,Yj,Yk,Yl,Ym,Yn,Yo,Yp,Yq,Yr,Ys,Yt,Yu,Yv,Yw,Yx,Yy,Yz,Z0,Z1,Z2,Z3,Z4,Z5,Z6,Z7,Z8,Z9,Za,Zb,Zc,Zd,Ze,Zf,Zg,Zh,Zi,Zj,Zk,Zl,Zm,Zn,Zo,Zp,Zq,Zr,Zs,Zt,Zu,Zv,Zw,Zx,Zy,Zz,V0,V1,V2]
        try simp only [V3,V4,V5,V6,V7,V8,V9,Va,Vb,Vc,Vd,Ve,Vf,Vg,Vh,Vi,Vj,V1,V2,Vk,Vl,reduceCtorEq,Vn,Vo,Vp,Vq]
        exact q _
    clear k1
    try dsimp only [Y0,Y1,Y2,Y3,Y4,Y5,Y6,Y7,Y8,Y9,Ya,Yb,Yc,Yd,Ye,Yf,Yg,Yh,Yi,Yj,Yk,Yl,Ym,Yn,Yo,Yp,Yq,Yr,Ys,Yt,Yu,Yv,Yw,Yx,Yy,Yz,Z0,Z1,Z2,Z3,Z4,Z5,Z6,Z7,Z8,Z9,Za,Zb,Zc,Zd,Ze,Zf,Zg,Zh,Zi,Zj,Zk,Zl,Zm,Zn,Zo,Zp,Zq,Zr,Zs,Zt,Zu,Zv,Zw,Zx,Zy,Zz,V0,V1,V2]
    try simp only [V3,V4,V5,V6,V7,V8,V9,Va,Vb,Vc,Vd,Ve,Vf,Vg,Vh,Vi,Vj,V1,V2,Vk,Vl,reduceCtorEq,Vn,Vo,Vp,Vq]
    refine mix_any (C13.sq _ F13.script) fun i74 => ⟨i74, rfl, by decide, ?_⟩
    split
    · refine ⟨a, tp, tm, dt, ns, lo, hi, le, ke, ke, 1, Tt, v13, by rw [L13.A], F13, G13, C13, by decide, fun H14 v14 F14 G14 L14 k14 => ⟨true, rfl, ?_⟩⟩
      rw [if_neg (by decide)]
      exact tail H14 v14 F14 G14 (L13.trans L14) (k13.trans k14)
    · exact tail H13 v13 F13 (G13.mono (by decide)) L13 k13
end
theorem walk {l : PySem.W.OpenLaw} {q : Program} {loose : List Str} {XP : (Str → Option Value) → Heap → Prop} {YP : World → Heap → Prop} {d : DefRec} {K : Params → PySem.W.Frag} (hn : l.most = some 63) (hdf : d.params.defaults = []) (hnm : d.name = "law")
    (hY : ∀ (w : World) (h : Heap), YP w h → (K w.params).In h)
    (F : ∀ (w : World) (mg : Str → Option Value) (h : Heap), (K w.params).In h → h.Ns mainGlobals mg → ∃ t : Adr, Txt (K w.params) mg t) :
    PySem.W.WalkO q loose XP YP l.row.toRowW d [] (fun f vs => PySem.call f vs) := by
  refine L2.walk_of (n := 63) (k := 6) (x := "_law_script") (CX := fun _ => CX0) (sp := fun w => sp_law (K w.params)) hn (by decide) hdf ⟨rfl, by decide, by decide⟩ hY (fun w mg fa h KX G hfa => ?_) (fun _ _ a ns hl _ hS => ⟨a, ns, rfl, hS, hl, fun _ => rfl⟩) fun _ _ _ _ _ z => z
  obtain ⟨t, T⟩ := F w mg h KX G
  rw [hnm] at hfa
  have e := hfa.symm.trans T.m_law
  cases e
  obtain ⟨oc, od, kV, doc, pm, an, cdv, ct, osl, e, lk, hcd⟩ := T.F_law.ex
  refine ⟨t.d_law, fun s v => ?_, fun base _ _ => ok_law T⟩
  rw [e]
  exact .of_eq rfl
end K10
open PySem PySem.W PyProof.Rows
set_option maxRecDepth 100000 in
set_option maxHeartbeats 0 in
theorem PySem.Challenge.cw_leasehold_k10_whole_never_two_holds : PySem.Challenge.rw_leasehold_k10_whole_never_two.Holds := by
  w_on; o_law; k_head; (case hw => w_witness2)
  k_fill
  refine K10.walk (l := PySem.Challenge.rw_leasehold_k10_whole_never_two) rfl rfl rfl (fun w h Y => PySem.W.kIn_of Y) ?F
  case F =>
    intro w mg h KX G
    refine' K10.txt_mk KX G ?a_Holder ?a_Keeper ?a_Terms ?a_wall ?l_wall ?c_wall ?p_wall ?a_gone_on ?l_gone_on ?c_gone_on ?p_gone_on ?a_Holder_init ?i_Holder_init ?l_Holder_init ?c_Holder_init ?p_Holder_init ?a_Holder_ask ?i_Holder_ask ?l_Holder_ask ?c_Holder_ask ?p_Holder_ask ?a_Holder_forget_over ?i_Holder_forget_over ?l_Holder_forget_over ?c_Holder_forget_over ?p_Holder_forget_over ?a_Holder_hear ?i_Holder_hear ?l_Holder_hear ?c_Holder_hear ?p_Holder_hear ?a_Holder_holds ?i_Holder_holds ?l_Holder_holds ?c_Holder_holds ?p_Holder_holds ?a_Holder_until ?i_Holder_until ?l_Holder_until ?c_Holder_until ?p_Holder_until ?a_Holder_free ?i_Holder_free ?l_Holder_free ?c_Holder_free ?p_Holder_free ?a_Keeper_init ?i_Keeper_init ?l_Keeper_init ?c_Keeper_init ?p_Keeper_init ?a_Keeper_asked ?i_Keeper_asked ?l_Keeper_asked ?c_Keeper_asked ?p_Keeper_asked ?a_Keeper_freed ?i_Keeper_freed ?l_Keeper_freed ?c_Keeper_freed ?p_Keeper_freed ?a_refuse_bad_steps ?l_refuse_bad_steps ?c_refuse_bad_steps ?p_refuse_bad_steps ?a_refuse_bad_length ?l_refuse_bad_length ?c_refuse_bad_length ?p_refuse_bad_length ?a_refuse_bad_keepers ?l_refuse_bad_keepers ?c_refuse_bad_keepers ?p_refuse_bad_keepers ?a_Terms_init ?i_Terms_init ?l_Terms_init ?c_Terms_init ?p_Terms_init ?a_Terms_ticks ?i_Terms_ticks ?l_Terms_ticks ?c_Terms_ticks ?p_Terms_ticks ?a_Terms_wait ?i_Terms_wait ?l_Terms_wait ?c_Terms_wait ?p_Terms_wait ?a_Terms_most ?i_Terms_most ?l_Terms_most ?c_Terms_most ?p_Terms_most ?a_law_cell ?l_law_cell ?c_law_cell ?p_law_cell ?a_law_mix ?l_law_mix ?c_law_mix ?p_law_mix ?a_law_terms ?l_law_terms ?c_law_terms ?p_law_terms ?a_law_wait ?l_law_wait ?c_law_wait ?p_law_wait ?a_law_ticks ?l_law_ticks ?c_law_ticks ?p_law_ticks ?a_law_come ?l_law_come ?c_law_come ?p_law_come ?a_law_to_all ?l_law_to_all ?c_law_to_all ?p_law_to_all ?a_law_anew ?l_law_anew ?c_law_anew ?p_law_anew ?a_law_one ?l_law_one ?c_law_one ?p_law_one ?a_law_scene ?l_law_scene ?c_law_scene ?p_law_scene ?a_law ?l_law ?c_law ?p_law ?pg_Holder ?hd_Holder ?po_Holder ?sa_Holder ?mk_Holder ?kc_Holder ?nf_Holder_length ?nf_Holder_needed ?nf_Holder_name ?nf_Holder_life ?nf_Holder_latest ?nf_Holder_told ?nf_Holder_asks ?nf_Holder_ends ?pg_Keeper ?hd_Keeper ?po_Keeper ?sa_Keeper ?mk_Keeper ?kc_Keeper ?nf_Keeper_pause ?nf_Keeper_latest ?nf_Keeper_name ?nf_Keeper_number ?nf_Keeper_over ?pg_Terms ?hd_Terms ?po_Terms ?sa_Terms ?mk_Terms ?kc_Terms ?nf_Terms_low ?nf_Terms_high ?nf_Terms_length ?nf_Terms_keepers ?n_LeaseError ?x_LeaseError ?n_BadTerms ?x_BadTerms ?n_Back ?x_Back ?n_NoKeeper ?x_NoKeeper ?n_NotAsked ?x_NotAsked ?m_MOST_STEP ?m_MOST_LENGTH ?m_MOST_KEEPERS ?z_int ?z_len ?z_max ?z_min ?z_range ?z_sorted
    (case a_Holder => k_is)
    (case a_Keeper => k_is)
    (case a_Terms => k_is)
    (case a_wall => k_is)
    (case l_wall => k_is)
    (case c_wall => k_is)
    (case p_wall => k_is)
    (case a_gone_on => k_is)
    (case l_gone_on => k_is)
    (case c_gone_on => k_is)
    (case p_gone_on => k_is)
    (case a_Holder_init => k_is)
    (case i_Holder_init => k_is)
    (case l_Holder_init => k_is)
    (case c_Holder_init => k_is)
    (case p_Holder_init => k_is)
    (case a_Holder_ask => k_is)
    (case i_Holder_ask => k_is)
    (case l_Holder_ask => k_is)
    (case c_Holder_ask => k_is)
    (case p_Holder_ask => k_is)
    (case a_Holder_forget_over => k_is)
    (case i_Holder_forget_over => k_is)
    (case l_Holder_forget_over => k_is)
    (case c_Holder_forget_over => k_is)
    (case p_Holder_forget_over => k_is)
    (case a_Holder_hear => k_is)
    (case i_Holder_hear => k_is)
    (case l_Holder_hear => k_is)
    (case c_Holder_hear => k_is)
    (case p_Holder_hear => k_is)
    (case a_Holder_holds => k_is)
    (case i_Holder_holds => k_is)
    (case l_Holder_holds => k_is)
    (case c_Holder_holds => k_is)
    (case p_Holder_holds => k_is)
    (case a_Holder_until => k_is)
    (case i_Holder_until => k_is)
    (case l_Holder_until => k_is)
    (case c_Holder_until => k_is)
    (case p_Holder_until => k_is)
    (case a_Holder_free => k_is)
    (case i_Holder_free => k_is)
    (case l_Holder_free => k_is)
    (case c_Holder_free => k_is)
    (case p_Holder_free => k_is)
    (case a_Keeper_init => k_is)
    (case i_Keeper_init => k_is)
    (case l_Keeper_init => k_is)
    (case c_Keeper_init => k_is)
    (case p_Keeper_init => k_is)
    (case a_Keeper_asked => k_is)
    (case i_Keeper_asked => k_is)
    (case l_Keeper_asked => k_is)
    (case c_Keeper_asked => k_is)
    (case p_Keeper_asked => k_is)
    (case a_Keeper_freed => k_is)
    (case i_Keeper_freed => k_is)
    (case l_Keeper_freed => k_is)
    (case c_Keeper_freed => k_is)
    (case p_Keeper_freed => k_is)
    (case a_refuse_bad_steps => k_is)
    (case l_refuse_bad_steps => k_is)
    (case c_refuse_bad_steps => k_is)
    (case p_refuse_bad_steps => k_is)
    (case a_refuse_bad_length => k_is)
    (case l_refuse_bad_length => k_is)
    (case c_refuse_bad_length => k_is)
    (case p_refuse_bad_length => k_is)
    (case a_refuse_bad_keepers => k_is)
    (case l_refuse_bad_keepers => k_is)
    (case c_refuse_bad_keepers => k_is)
    (case p_refuse_bad_keepers => k_is)
    (case a_Terms_init => k_is)
    (case i_Terms_init => k_is)
    (case l_Terms_init => k_is)
    (case c_Terms_init => k_is)
    (case p_Terms_init => k_is)
    (case a_Terms_ticks => k_is)
    (case i_Terms_ticks => k_is)
    (case l_Terms_ticks => k_is)
    (case c_Terms_ticks => k_is)
    (case p_Terms_ticks => k_is)
    (case a_Terms_wait => k_is)
    (case i_Terms_wait => k_is)
    (case l_Terms_wait => k_is)
    (case c_Terms_wait => k_is)
    (case p_Terms_wait => k_is)
    (case a_Terms_most => k_is)
    (case i_Terms_most => k_is)
    (case l_Terms_most => k_is)
    (case c_Terms_most => k_is)
    (case p_Terms_most => k_is)
    (case a_law_cell => k_is)
    (case l_law_cell => k_is)
    (case c_law_cell => k_is)
    (case p_law_cell => k_is)
    (case a_law_mix => k_is)
    (case l_law_mix => k_is)
    (case c_law_mix => k_is)
    (case p_law_mix => k_is)
    (case a_law_terms => k_is)
    (case l_law_terms => k_is)
    (case c_law_terms => k_is)
    (case p_law_terms => k_is)
    (case a_law_wait => k_is)
    (case l_law_wait => k_is)
    (case c_law_wait => k_is)
    (case p_law_wait => k_is)
    (case a_law_ticks => k_is)
    (case l_law_ticks => k_is)
    (case c_law_ticks => k_is)
    (case p_law_ticks => k_is)
    (case a_law_come => k_is)
    (case l_law_come => k_is)
    (case c_law_come => k_is)
    (case p_law_come => k_is)
    (case a_law_to_all => k_is)
    (case l_law_to_all => k_is)
    (case c_law_to_all => k_is)
    (case p_law_to_all => k_is)
    (case a_law_anew => k_is)
    (case l_law_anew => k_is)
    (case c_law_anew => k_is)
    (case p_law_anew => k_is)
    (case a_law_one => k_is)
    (case l_law_one => k_is)
    (case c_law_one => k_is)
    (case p_law_one => k_is)
    (case a_law_scene => k_is)
    (case l_law_scene => k_is)
    (case c_law_scene => k_is)
    (case p_law_scene => k_is)
    (case a_law => k_is)
    (case l_law => k_is)
    (case c_law => k_is)
    (case p_law => k_is)
    (case pg_Holder => k_is)
    (case hd_Holder => k_is)
    (case po_Holder => k_is)
    (case sa_Holder => k_is)
    (case mk_Holder => k_is)
    (case kc_Holder => k_is)
    (case nf_Holder_length => k_is)
    (case nf_Holder_needed => k_is)
    (case nf_Holder_name => k_is)
    (case nf_Holder_life => k_is)
    (case nf_Holder_latest => k_is)
    (case nf_Holder_told => k_is)
    (case nf_Holder_asks => k_is)
    (case nf_Holder_ends => k_is)
    (case pg_Keeper => k_is)
    (case hd_Keeper => k_is)
    (case po_Keeper => k_is)
    (case sa_Keeper => k_is)
    (case mk_Keeper => k_is)
    (case kc_Keeper => k_is)
    (case nf_Keeper_pause => k_is)
    (case nf_Keeper_latest => k_is)
    (case nf_Keeper_name => k_is)
    (case nf_Keeper_number => k_is)
    (case nf_Keeper_over => k_is)
    (case pg_Terms => k_is)
    (case hd_Terms => k_is)
    (case po_Terms => k_is)
    (case sa_Terms => k_is)
    (case mk_Terms => k_is)
    (case kc_Terms => k_is)
    (case nf_Terms_low => k_is)
    (case nf_Terms_high => k_is)
    (case nf_Terms_length => k_is)
    (case nf_Terms_keepers => k_is)
    (case n_LeaseError => k_is)
    (case x_LeaseError => k_exc)
    (case n_BadTerms => k_is)
    (case x_BadTerms => k_exc)
    (case n_Back => k_is)
    (case x_Back => k_exc)
    (case n_NoKeeper => k_is)
    (case x_NoKeeper => k_exc)
    (case n_NotAsked => k_is)
    (case x_NotAsked => k_exc)
    (case m_MOST_STEP => k_is)
    (case m_MOST_LENGTH => k_is)
    (case m_MOST_KEEPERS => k_is)
    (case z_int => k_is)
    (case z_len => k_is)
    (case z_max => k_is)
    (case z_min => k_is)
    (case z_range => k_is)
    (case z_sorted => k_is)
#print axioms PySem.Challenge.cw_leasehold_k10_whole_never_two_holds
