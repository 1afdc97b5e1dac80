import PyProof.Rows.All
import Wide.All
import OpenK.AllK
import Wide.FinOn
import Lean
import PyProof.EqAt
import PyProof.EqKinds
import PyProof.TupleCall
import PyProof.NeKinds
import PySem.Challenge.RW_namecall_k10_lines_read_or_refused
set_option Elab.async false
set_option linter.all false
set_option maxRecDepth 100000
/-! THE HAND LAYER, for ints, bools, texts, own classes, LISTS and tuples (index, slices, in, append, pop ..), calls, loops. Paste it whole ahead of your own text; what your proof does not reach may be deleted. -/
namespace L2
open PySem PySem.Spec PyProof.Rows

/-- a key: an int or a str -/
abbrev Key := Sum Int Str
def keyIs : Key → Value → Bool
  | .inl k, v => Value.isInt k v
  | .inr x, v => Value.isStrOf x v
def keyH (w : World) : Key → Int
  | .inl k => hashInt k
  | .inr x => hashStr w x
theorem keyIs_shape : ∀ {k : Key} {v : Value}, keyIs k v = true → (∃ i t, k = Sum.inl i ∧ v = Value.int i t) ∨ (∃ x t, k = Sum.inr x ∧ v = Value.str x t)
  | .inl i, v, h => by
    obtain ⟨t, e⟩ := Value.isInt_shape (k := i) (v := v) h
    exact .inl ⟨i, t, rfl, e⟩
  | .inr x, v, h => by
    obtain ⟨t, e⟩ := Value.isStrOf_shape (x := x) (v := v) h
    exact .inr ⟨x, t, rfl, e⟩
theorem key_ll (a b : Int) : decide ((Sum.inl a : Key) = Sum.inl b) = (a == b) := by
  by_cases e : a = b
  · subst e; simp
  · have h : ¬ (Sum.inl a : Key) = Sum.inl b := fun q => e (Sum.inl.inj q)
    rw [decide_eq_false h]
    exact (beq_eq_false_iff_ne.mpr e).symm
theorem key_rr (a b : Str) : decide ((Sum.inr a : Key) = Sum.inr b) = decide (a = b) := by
  by_cases e : a = b
  · subst e; simp
  · have h : ¬ (Sum.inr a : Key) = Sum.inr b := fun q => e (Sum.inr.inj q)
    rw [decide_eq_false h, decide_eq_false e]
theorem key_lr (a : Int) (b : Str) : decide ((Sum.inl a : Key) = Sum.inr b) = false := decide_eq_false (fun q => nomatch q)
theorem key_rl (a : Str) (b : Int) : decide ((Sum.inr a : Key) = Sum.inl b) = false := decide_eq_false (fun q => nomatch q)

def mixKind (prog : Program) (w : World) : PySem.KeyKind prog w Key where
  is := keyIs
  hash := keyH w
  inj := fun v a b ha hb => by
    rcases keyIs_shape ha with ⟨i, t, rfl, rfl⟩ | ⟨x, t, rfl, rfl⟩
    · rcases keyIs_shape hb with ⟨j, u, rfl, e⟩ | ⟨y, u, rfl, e⟩
      · injection e with e1 _; rw [e1]
      · exact nomatch e
    · rcases keyIs_shape hb with ⟨j, u, rfl, e⟩ | ⟨y, u, rfl, e⟩
      · exact nomatch e
      · injection e with e1 _; rw [e1]
  byValue := fun k v h => by
    rcases keyIs_shape h with ⟨i, t, rfl, rfl⟩ | ⟨x, t, rfl, rfl⟩ <;> rfl
  pyHash := fun hv h => by
    rcases keyIs_shape hv with ⟨i, t, rfl, rfl⟩ | ⟨x, t, rfl, rfl⟩
    · exact wpAny_pyHash_int h
    · exact wpAny_pyHash_str h
  eqBool := fun hu hv h => by
    rcases keyIs_shape hu with ⟨i, t, rfl, rfl⟩ | ⟨x, t, rfl, rfl⟩
    · rcases keyIs_shape hv with ⟨j, u, rfl, rfl⟩ | ⟨y, u, rfl, rfl⟩
      · rw [key_ll] at h; exact wpAny_eqBool_int h
      · rw [key_lr] at h; exact SeqAt.EqAt.int_str i t y u _ _ _ _ h
    · rcases keyIs_shape hv with ⟨j, u, rfl, rfl⟩ | ⟨y, u, rfl, rfl⟩
      · rw [key_rl] at h; exact SeqAt.EqAt.str_int x t j u _ _ _ _ h
      · rw [key_rr] at h; exact wpAny_eqBool_str h
  «strs» := fun k x t v h => by
    rcases keyIs_shape h with ⟨i, u, rfl, e⟩ | ⟨y, u, rfl, e⟩
    · exact nomatch e
    · injection e with e1 _
      subst e1
      cases v <;> rfl

end L2

namespace L2
open PySem PySem.Spec PyProof.Rows

/-- a value, without the heap -/
inductive V where
  | non | bl (b : Bool) | int (i : Int) | str (x : Str) | byt (b : Array UInt8) | flt (b : UInt64) | ref (a : Addr) | ty (n : String)
  deriving DecidableEq

def RelV : V → Value → Prop
  | .non, u => u = Value.none
  | .bl b, u => u = Value.bool b
  | .int i, u => ∃ t, u = Value.int i t
  | .str x, u => ∃ t, u = Value.str x t
  | .byt b, u => ∃ t, u = Value.bytes b t
  | .flt b, u => ∃ t, u = Value.float b t
  | .ref a, u => u = Value.ref a
  | .ty n, u => u = Value.type n

abbrev Vals : List V → List Value → Prop := Paired RelV
theorem Vals.length {xs : List V} {us : List Value} (r : Vals xs us) : xs.length = us.length := Paired.length r
theorem Vals.get : ∀ {xs : List V} {us : List Value} {i : Nat} {x : V}, Vals xs us → xs[i]? = some x → ∃ u, us[i]? = some u ∧ RelV x u
  | _, _, _, _, .nil, e => by simp at e
  | _, _, 0, _, .cons r _, e => by simp at e; subst e; exact ⟨_, rfl, r⟩
  | _, _, i + 1, x, .cons _ t, e => by
    obtain ⟨u, h1, h2⟩ := Vals.get (i := i) (x := x) t (by simpa using e)
    exact ⟨u, by simpa using h1, h2⟩
theorem Vals.set {x : V} {u : Value} (r : RelV x u) : ∀ {xs : List V} {us : List Value} (i : Nat), Vals xs us → Vals (xs.set i x) (us.set i u)
  | _, _, _, .nil => .nil
  | _, _, 0, .cons _ t => .cons r t
  | _, _, i + 1, .cons q t => .cons q (Vals.set r i t)
theorem Vals.append : ∀ {xs ys : List V} {us ws : List Value}, Vals xs us → Vals ys ws → Vals (xs ++ ys) (us ++ ws)
  | _, _, _, _, .nil, s => s
  | _, _, _, _, .cons r t, s => .cons r (Vals.append t s)
theorem Vals.take : ∀ {xs : List V} {us : List Value} (n : Nat), Vals xs us → Vals (xs.take n) (us.take n)
  | _, _, 0, _ => .nil
  | _, _, _ + 1, .nil => .nil
  | _, _, n + 1, .cons r t => .cons r (Vals.take n t)
theorem Vals.drop : ∀ {xs : List V} {us : List Value} (n : Nat), Vals xs us → Vals (xs.drop n) (us.drop n)
  | _, _, 0, r => r
  | _, _, _ + 1, .nil => .nil
  | _, _, n + 1, .cons _ t => Vals.drop n t
theorem Vals.none_of : ∀ {xs : List V} {us : List Value} {i : Nat}, Vals xs us → xs[i]? = none → us[i]? = none := fun {xs us i} r e => by
  have h1 := r.length
  have h2 : xs.length ≤ i := List.getElem?_eq_none_iff.mp e
  exact List.getElem?_eq_none_iff.mpr (by omega)

def RelO : Option V → Option Value → Prop
  | some v, some u => RelV v u
  | none, none => True
  | _, _ => False
def KV {κ : Type} : List (κ × V) → List (κ × Value) → Prop := Paired fun (p : κ × V) (q : κ × Value) => p.1 = q.1 ∧ RelV p.2 q.2

/-- a key of a dict (00_mix): an int or a text -/
def kV : Key → V
  | .inl i => .int i
  | .inr x => .str x

/-- what stands at a tracked address -/
inductive HO where
  /-- a list -/
  | lst (xs : List V)
  /-- a tuple (never changes) -/
  | tup (xs : List V)
  /-- a dict whose keys are ints and texts; one whose keys are tuples of ints and texts (the empty one is both) -/
  | dK (kvs : List (Key × V)) | dT (kvs : List (List Key × V))
  /-- a set of ints: its members, its size -/
  | set (S : Int → Bool) (n : Nat)
  /-- an instance of the class at C, its dict at dx, its attributes -/
  | ins (C dx : Addr) (fs : List (Str × V))
  /-- the dict of the instance at x -/
  | own (x : Addr)
  /-- the dict of an exception -/
  | xd (fs : List (Str × V))
  /-- a bound method, f of x -/
  | met (f x : Addr)
  /-- a range object lo, lo + 1, .. below hi -/
  | rng (lo hi : Int)
  /-- a thing that is known to the object (the script; a dict while a loop walks it): read, never written while it is so -/
  | frz (o : Obj) (u : HO)
  /-- a code object's table -/
  | tbl (ps : Array Value)
  /-- any other thing, by what is true of its one object (a def of one's own: SetO a S n := HO.ext fun h => ..) -/
  | ext (φ : Heap → Prop)

abbrev Hp := Addr → Option HO
def upd (H : Hp) (a : Addr) (o : HO) : Hp := fun b => if b = a then some o else H b
theorem upd_same {H : Hp} {a : Addr} {o : HO} : upd H a o a = some o := by unfold upd; rw [if_pos rfl]
theorem upd_ne {H : Hp} {a b : Addr} {o : HO} (h : b ≠ a) : upd H a o b = H b := by unfold upd; rw [if_neg h]
theorem ne_of_none {H : Hp} {a b : Addr} {o : HO} (h : H a = some o) (h' : H b = none) : a ≠ b := by
  intro e; subst e; rw [h] at h'; cases h'

section
variable (P : Program) (w : World)
def ObjOk (H : Hp) (h : Heap) (a : Addr) : HO → Prop
  | .lst xs => xs.length ≤ sizeLine ∧ ∃ (its : List Value) (n : Nat), Vals xs its ∧ h.get? a = some { cls := .type "list", data := .seq its.toArray n }
  | .tup xs => xs.length ≤ sizeLine ∧ ∃ its : List Value, Vals xs its ∧ IsTup h a its.toArray
  | .dK kvs => kvs.length ≤ sizeLine ∧ (a == sysModules) = false ∧ ∃ vs, KV kvs vs ∧ h.DictOf (mixKind P w) a vs
  | .dT kvs => kvs.length ≤ sizeLine ∧ (a == sysModules) = false ∧ ∃ xs : List (List Key × Addr × Value),
      Paired (fun (p : List Key × V) (q : List Key × Addr × Value) => p.1 = q.1 ∧ H q.2.1 = some (.tup (p.1.map kV)) ∧ RelV p.2 q.2.2) kvs xs ∧
      ∃ o es ep, h.get? a = some o ∧ o.ExactDict ∧ o.data = .dict es ep ∧ es.toList = xs.map (entryOfKey (tupleKind (mixKind P w))) ∧ (xs.map (·.1)).Nodup
  | .set S n => h.SetOf (intKind P w) a S n
  | .ins C dx fs => H dx = some (.own a) ∧ fs.length ≤ 1000 ∧ dx ≠ a ∧ h.get? a = some (PySem.W.instObj C dx) ∧
      ∃ mA, h.Ns1 dx mA ∧ (∀ f, RelO (fs.lookup f) (mA f)) ∧ PySem.Within mA (fs.map (·.1))
  | .own _ => ∃ o, h.get? a = some o
  | .xd fs => ∃ mA, h.Ns1 a mA ∧ ∀ f, RelO (fs.lookup f) (mA f)
  | .rng lo hi => ∃ t u v, h.get? a = some { cls := .type "range", data := .fields #[.int lo t, .int hi u, .int 1 v] }
  | .frz o u => h.get? a = some o ∧ ObjOk H h a u
  | .tbl ps => h.get? a = some { cls := .none, data := .fields ps }
  | .met f x => h.get? a = some (PySem.W.methodObj (.ref f) (.ref x))
  | .ext φ => φ h ∧ (∃ o, h.get? a = some o) ∧ ∀ h1 h2 : Heap, φ h1 → (∀ o, h1.get? a = some o → h2.get? a = some o) → φ h2
/-- the abstract heap is held -/
def HOk (H : Hp) (h : Heap) : Prop := ∀ a o, H a = some o → ObjOk P w H h a o
end

section
variable {P : Program} {w : World} {H H' : Hp} {h h' : Heap} {a : Addr} {o : HO}
theorem ObjOk.lt (x : ObjOk P w H h a o) : a < h.objs.size := by
  cases o with
  | lst xs => obtain ⟨_, _, _, _, e⟩ := x; exact Heap.lt_size e
  | tup xs => obtain ⟨_, _, _, p⟩ := x; exact p.lt
  | dK kvs => obtain ⟨_, _, _, _, o, _, _, e, _⟩ := x; exact Heap.lt_size e
  | dT kvs => obtain ⟨_, _, _, _, o, _, _, e, _⟩ := x; exact Heap.lt_size e
  | set S n => obtain ⟨o, _, _, _, e, _⟩ := x; exact Heap.lt_size e
  | ins C dx fs => obtain ⟨_, _, _, e, _⟩ := x; exact Heap.lt_size e
  | own y => obtain ⟨_, e⟩ := x; exact Heap.lt_size e
  | xd fs => obtain ⟨_, ⟨_, _, _, e, _⟩, _⟩ := x; exact Heap.lt_size e
  | rng lo hi => obtain ⟨_, _, _, e⟩ := x; exact Heap.lt_size e
  | frz ob u => obtain ⟨e, _⟩ := x; exact Heap.lt_size e
  | tbl ps => exact Heap.lt_size (show h.get? a = some _ from x)
  | met f y => exact Heap.lt_size (show h.get? a = some _ from x)
  | ext φ => obtain ⟨_, ⟨_, e⟩, _⟩ := x; exact Heap.lt_size e
theorem Paired.mapP {α β : Type} {F G : α → β → Prop} : ∀ {l₁ : List α} {l₂ : List β}, Paired F l₁ l₂ → (∀ a b, F a b → G a b) → Paired G l₁ l₂
  | _, _, .nil, _ => .nil
  | _, _, .cons r t, f => .cons (f _ _ r) (Paired.mapP t f)
/-- what an object's description leans on: its own object, its own dict, the tuples -/
theorem ObjOk.stay (x : ObjOk P w H h a o) (k : ∀ b u, (b = a ∨ H b = some (.own a)) → h.get? b = some u → h'.get? b = some u)
    (ho : ∀ b, H b = some (.own a) → H' b = some (.own a)) (ht : ∀ b xs, H b = some (.tup xs) → H' b = some (.tup xs)) : ObjOk P w H' h' a o := by
  induction o with
  | lst xs => obtain ⟨z, its, n, r, e⟩ := x; exact ⟨z, its, n, r, k _ _ (.inl rfl) e⟩
  | tup xs => obtain ⟨z, its, r, ob, e, c⟩ := x; exact ⟨z, its, r, ob, k _ _ (.inl rfl) e, c⟩
  | dK kvs => obtain ⟨z, y, vs, r, ob, es, ep, e, c⟩ := x; exact ⟨z, y, vs, r, ob, es, ep, k _ _ (.inl rfl) e, c⟩
  | dT kvs =>
    obtain ⟨z, y, xs, r, ob, es, ep, e, c⟩ := x
    exact ⟨z, y, xs, Paired.mapP r fun p q z => ⟨z.1, ht _ _ z.2.1, z.2.2⟩, ob, es, ep, k _ _ (.inl rfl) e, c⟩
  | set S n => obtain ⟨ob, es, ep, t, e, c⟩ := x; exact ⟨ob, es, ep, t, k _ _ (.inl rfl) e, c⟩
  | ins C dx fs =>
    obtain ⟨d, z, ne, e, mA, ⟨od, es, ep, e2, c⟩, r⟩ := x
    exact ⟨ho _ d, z, ne, k _ _ (.inl rfl) e, mA, ⟨od, es, ep, k _ _ (.inr d) e2, c⟩, r⟩
  | own y => obtain ⟨ob, e⟩ := x; exact ⟨ob, k _ _ (.inl rfl) e⟩
  | xd fs => obtain ⟨mA, ⟨od, es, ep, e, c⟩, r⟩ := x; exact ⟨mA, ⟨od, es, ep, k _ _ (.inl rfl) e, c⟩, r⟩
  | rng lo hi => obtain ⟨t, u, v, e⟩ := x; exact ⟨t, u, v, k _ _ (.inl rfl) e⟩
  | frz ob u ih => obtain ⟨e, q⟩ := x; exact ⟨k _ _ (.inl rfl) e, ih q⟩
  | tbl ps =>
    have e : h.get? a = some { cls := .none, data := .fields ps } := x
    show h'.get? a = some { cls := .none, data := .fields ps }
    exact k a _ (.inl rfl) e
  | met f y =>
    have e : h.get? a = some (PySem.W.methodObj (.ref f) (.ref y)) := x
    show h'.get? a = some (PySem.W.methodObj (.ref f) (.ref y))
    exact k a _ (.inl rfl) e
  | ext φ => obtain ⟨p, ⟨o, e⟩, st⟩ := x; exact ⟨st _ _ p fun o q => k _ _ (.inl rfl) q, ⟨o, k _ _ (.inl rfl) e⟩, st⟩
theorem HOk.lt (x : HOk P w H h) (e : H a = some o) : a < h.objs.size := (x a o e).lt
theorem HOk.fresh (x : HOk P w H h) (e : h.objs.size ≤ a) : H a = none := by
  cases q : H a with
  | none => rfl
  | some u => exact absurd (Nat.lt_of_lt_of_le (x.lt q) e) (Nat.lt_irrefl _)
/-- every object of the heap is kept -/
theorem HOk.kept (x : HOk P w H h) (k : ∀ b u, h.get? b = some u → h'.get? b = some u) : HOk P w H h' := fun a o e =>
  (x a o e).stay (fun b u _ q => k b u q) (fun _ q => q) fun _ _ q => q
/-- a new object is laid and tracked -/
theorem HOk.laid (x : HOk P w H h) (k : ∀ b u, h.get? b = some u → h'.get? b = some u) (hp : h.objs.size ≤ a) (new : ObjOk P w (upd H a o) h' a o) : HOk P w (upd H a o) h' := fun b u e => by
  have hn := x.fresh hp
  by_cases hb : b = a
  · subst hb; rw [upd_same] at e; cases e; exact new
  · rw [upd_ne hb] at e
    exact (x b u e).stay (fun c v _ q => k c v q) (fun c q => by rw [upd_ne (ne_of_none q hn)]; exact q) fun c xs q => by rw [upd_ne (ne_of_none q hn)]; exact q
end

/-- what may be read as u: it is u, or a known u -/
def Rd (H : Hp) (a : Addr) (u : HO) : Prop := H a = some u ∨ ∃ o, H a = some (.frz o u)
theorem Rd.of {H : Hp} {a : Addr} {u : HO} (h : H a = some u) : Rd H a u := .inl h
theorem Rd.ok {P : Program} {w : World} {H : Hp} {h : Heap} {a : Addr} {u : HO} (r : Rd H a u) (x : HOk P w H h) : ObjOk P w H h a u := by
  rcases r with r | ⟨o, r⟩
  · exact x a u r
  · obtain ⟨_, q⟩ := x a _ r
    exact q
/-- what may be written -/
def Mut : Option HO → Prop
  | some (.lst _) => True
  | some (.dK _) => True
  | some (.dT _) => True
  | some (.set _ _) => True
  | some (.ins _ _ _) => True
  | some (.ext _) => True
  | _ => False
section
variable {P : Program} {w : World} {H : Hp} {h h' : Heap} {x e : Addr} {o' : HO}
/-- the object at e is changed: x itself, or the dict of the instance x -/
theorem HOk.write (ok : HOk P w H h) (mu : Mut (H x)) (he : e = x ∨ H e = some (.own x)) (k : ∀ b u, b ≠ e → h.get? b = some u → h'.get? b = some u) (heo : ∃ u, h'.get? e = some u)
    (new : ObjOk P w (upd H x o') h' x o') : HOk P w (upd H x o') h' := fun b u q => by
  have nown : ∀ c y, H c = some (.own y) → c ≠ x := fun c y r z => by subst z; rw [r] at mu; exact mu
  have ntup : ∀ c xs, H c = some (.tup xs) → c ≠ x := fun c xs r z => by subst z; rw [r] at mu; exact mu
  by_cases hb : b = x
  · subst hb; rw [upd_same] at q; cases q; exact new
  · rw [upd_ne hb] at q
    by_cases hbe : b = e
    · have q' : H b = some (.own x) := by
        rcases he with z | z
        · exact absurd (hbe.trans z) hb
        · rw [hbe]; exact z
      rw [q] at q'; cases q'
      obtain ⟨v, hv⟩ := heo
      exact ⟨v, by rw [hbe]; exact hv⟩
    · refine (ok b u q).stay (fun c v hc r => k c v ?_ r) (fun c r => by rw [upd_ne (nown c b r)]; exact r) fun c xs r => by rw [upd_ne (ntup c xs r)]; exact r
      rcases hc with rfl | hc
      · exact hbe
      · rintro rfl
        rcases he with z | z
        · exact nown c b hc z
        · rw [hc] at z; cases z; exact hb rfl
end

/-! ### kept unless tracked; of the frames at fs (the callers') the slots may change (an exception that passes writes there); of the records at ex (iterators) nothing is said -/
structure Un (fs ex : List Addr) (H H' : Hp) (h h' : Heap) : Prop where
  keep : ∀ b o, h.get? b = some o → H b = none → b ∉ fs → b ∉ ex → h'.get? b = some o
  slot : ∀ b o, h.get? b = some o → H b = none → b ∈ fs → b ∉ ex → ∃ sl, h'.get? b = some { o with slots := sl }
  free : ∀ b o, h.get? b = some o → H b = none → b ∉ ex → H' b = none
  there : ∀ b o, h.get? b = some o → b ∉ ex → ∃ o', h'.get? b = some o'
  tups : ∀ b xs, H b = some (.tup xs) → H' b = some (.tup xs)
  frzs : ∀ b o u, H b = some (.frz o u) → H' b = some (.frz o u)
  tbls : ∀ b ps, H b = some (.tbl ps) → ∃ more, H' b = some (.tbl (ps ++ more))
section
variable {fs fs' ex ex' : List Addr} {H H1 H2 : Hp} {h h1 h2 h' : Heap} {a x e : Addr} {o : HO}
theorem Un.any (u : Un fs ex H H1 h h1) {b : Addr} {ob : Obj} (q : h.get? b = some ob) (n : H b = none) (hx : b ∉ ex) : ∃ sl, h1.get? b = some { ob with slots := sl } := by
  by_cases hb : b ∈ fs
  · exact u.slot b ob q n hb hx
  · exact ⟨ob.slots, u.keep b ob q n hb hx⟩
theorem Un.trans (a : Un fs ex H H1 h h1) (b : Un fs ex H1 H2 h1 h2) : Un fs ex H H2 h h2 where
  keep := fun c ob q n hc hx => b.keep c ob (a.keep c ob q n hc hx) (a.free c ob q n hx) hc hx
  slot := fun c ob q n hc hx => by
    obtain ⟨sl, e1⟩ := a.slot c ob q n hc hx
    obtain ⟨sl', e2⟩ := b.slot c _ e1 (a.free c ob q n hx) hc hx
    exact ⟨sl', e2⟩
  free := fun c ob q n hx => by
    obtain ⟨o', e1⟩ := a.there c ob q hx
    exact b.free c o' e1 (a.free c ob q n hx) hx
  there := fun c ob q hx => by
    obtain ⟨o', e1⟩ := a.there c ob q hx
    exact b.there c o' e1 hx
  tups := fun c xs q => b.tups c xs (a.tups c xs q)
  frzs := fun c ob xs q => b.frzs c ob xs (a.frzs c ob xs q)
  tbls := fun c ps q => by
    obtain ⟨m1, e1⟩ := a.tbls c ps q
    obtain ⟨m2, e2⟩ := b.tbls c _ e1
    exact ⟨m1 ++ m2, by rw [e2, Array.append_assoc]⟩
theorem Un.kept (k : ∀ b u, h.get? b = some u → h'.get? b = some u) : Un fs ex H H h h' :=
  ⟨fun b ob q _ _ _ => k b ob q, fun b ob q _ _ _ => ⟨ob.slots, k b ob q⟩, fun _ _ _ n _ => n, fun b ob q _ => ⟨ob, k b ob q⟩, fun _ _ q => q, fun _ _ _ q => q, fun _ ps q => ⟨#[], by rw [q]; simp⟩⟩
theorem Un.refl : Un fs ex H H h h := Un.kept fun _ _ q => q
theorem Un.laid (k : ∀ b u, h.get? b = some u → h'.get? b = some u) (hp : h.objs.size ≤ a) (hn : H a = none) : Un fs ex H (upd H a o) h h' where
  keep := fun b u q _ _ _ => k b u q
  slot := fun b u q _ _ _ => ⟨u.slots, k b u q⟩
  free := fun b u q n _ => by rw [upd_ne (Nat.ne_of_lt (Nat.lt_of_lt_of_le (Heap.lt_size q) hp))]; exact n
  there := fun b u q _ => ⟨u, k b u q⟩
  tups := fun b xs q => by rw [upd_ne (ne_of_none q hn)]; exact q
  frzs := fun b u xs q => by rw [upd_ne (ne_of_none q hn)]; exact q
  tbls := fun b ps q => ⟨#[], by rw [upd_ne (ne_of_none q hn), q]; simp⟩
theorem Un.write (mu : Mut (H x)) (he : e = x ∨ H e = some (.own x)) (k : ∀ b u, b ≠ e → h.get? b = some u → h'.get? b = some u) (heo : ∃ u, h'.get? e = some u) : Un fs ex H (upd H x o) h h' := by
  have hx : ∀ b, H b = none → b ≠ x := fun b n z => by subst z; rw [n] at mu; exact mu
  have hb : ∀ b, H b = none → b ≠ e := fun b n z => by
    subst z
    rcases he with r | r
    · exact hx b n r
    · rw [n] at r; cases r
  have hm : ∀ b u, H b = some u → ¬ Mut (some u) → b ≠ x := fun b u q nm z => by subst z; rw [q] at mu; exact nm mu
  refine ⟨fun b u q n _ _ => k b u (hb b n) q, fun b u q n _ _ => ⟨u.slots, k b u (hb b n) q⟩, fun b u q n _ => by rw [upd_ne (hx b n)]; exact n, fun b u q _ => ?_,
    fun b xs q => by rw [upd_ne (hm b _ q fun z => z)]; exact q, fun b u xs q => by rw [upd_ne (hm b _ q fun z => z)]; exact q, fun b ps q => ⟨#[], by rw [upd_ne (hm b _ q fun z => z), q]; simp⟩⟩
  by_cases hbe : b = e
  · subst hbe; exact heo
  · exact ⟨u, k b u hbe q⟩
theorem Un.mono (u : Un fs ex H H1 h h1) (hs : ∀ b ∈ fs, b ∈ fs') (hx : ∀ b ∈ ex, b ∈ ex') : Un fs' ex' H H1 h h1 :=
  ⟨fun b ob q n hb he => u.keep b ob q n (fun z => hb (hs b z)) fun z => he (hx b z), fun _ _ q n _ he => u.any q n fun z => he (hx _ z), fun b ob q n he => u.free b ob q n fun z => he (hx b z), fun b ob q he => u.there b ob q fun z => he (hx b z), u.tups, u.frzs, u.tbls⟩
end

/-! ### the heap without what is tracked -/
def trk (h : Heap) (H : Hp) : List Addr := (List.range h.objs.size).filter fun a => (H a).isSome
def hidT (h : Heap) (H : Hp) : Heap := PySem.W.hideAll h (trk h H)
theorem hidT_size (h : Heap) (H : Hp) : (hidT h H).objs.size = h.objs.size := PySem.W.hideAll_size _ _
theorem hidT_get {h : Heap} {H : Hp} {b : Addr} {o : Obj} (e : h.get? b = some o) (n : H b = none) : (hidT h H).get? b = some o :=
  PySem.W.hideAll_get _ e fun hm => by
    have q : (H b).isSome = true := (List.mem_filter.mp hm).2
    rw [n] at q; simp at q
theorem of_hidT {h : Heap} {H : Hp} {b : Addr} {o : Obj} (e : (hidT h H).get? b = some o) : h.get? b = some o ∧ H b = none := by
  have e' : h.get? b = some o := PySem.W.of_hideAll (trk h H) e
  refine ⟨e', ?_⟩
  cases q : H b with
  | none => rfl
  | some x =>
    have hm : b ∈ trk h H := List.mem_filter.mpr ⟨List.mem_range.mpr (Heap.lt_size e'), by simp [q]⟩
    have z : (hidT h H).get? b = none := PySem.W.hideAll_none (trk h H) hm
    rw [z] at e; cases e

/-! ### OpenK's ledger, filled with every new object but one -/
def allNews (g h : Heap) (L : Addr) : List (Addr × Obj) := (List.range h.objs.size).filterMap fun a => if a = L ∨ (g.get? a).isSome = true then none else (h.get? a).map fun o => (a, o)
def rest (g h : Heap) (L d : Addr) : List (Addr × Obj) := (allNews g h L).filter fun p => decide (p.1 ≠ d)
end L2

namespace L2
open PySem PySem.Spec PyProof.Rows

/-- the module's facts, over the base: the heap at the law's entry without what is tracked there -/
structure Mod (K : PySem.W.Frag) (mg : Str → Option Value) (base : Heap) : Prop where
  kin : K.In base
  glob : base.Ns mainGlobals mg
  blt : ∃ mb, base.Ns builtinsNs mb ∧ ∀ x : Str, x ≠ "__name__" → mb x = bootBuiltins x
  nolimit : base.NoLimit

/-- the context: a def's body (or a comprehension's block) running. base: fixed through the whole law; s₀, H₀: the entry; outer: the frames whose slots others may change (a def's callers); stack: all frames that run;
   ex: iterators that were made ahead of the entry and are walked here (a comprehension's); fn: the names whose cells were made at the entry (a def: all; a comprehension's block: its own); calm: not within an except suite; pn: pins that every state bears; xe: what is wanted of an exception that leaves the code -/
structure Cx where
  prog : Program
  w : World
  K : PySem.W.Frag
  mg : Str → Option Value
  base : Heap
  A : Around
  N : List Str
  s₀ : Shared
  H₀ : Hp
  env : Env
  outer : List Env
  stack : List Env
  ex : List Addr
  fn : Str → Bool
  calm : Bool
  pn : List (Addr × Obj)
  xe : Value → Shared → Prop
/-- the callers' frames -/
def frs (l : List Env) : List Addr := l.filterMap (·.frame)
abbrev Cx.fs (X : Cx) : List Addr := frs X.outer

def Vis (sc : Scope) (x : Str) : Prop := sc.names.lookup x = some .local ∨ sc.names.lookup x = some .cell ∨ sc.names.lookup x = some .free
def Loc (sc : Scope) (x : Str) : Prop := sc.names.lookup x = some .local ∨ sc.names.lookup x = some .cell
def Look (env : Env) (h : Heap) (m : Str → Option Value) (x : Str) (u : Value) : Prop :=
  (env.kindOf x = some .local ∧ m x = some u) ∨ ((env.kindOf x = some .cell ∨ env.kindOf x = some .free) ∧ ∃ c, env.cells.lookup x = some c ∧ h.IsCell c (some u))

structure Cx.Ok (X : Cx) : Prop where
  mod : Mod X.K X.mg X.base
  kind : X.env.scope.kind = .function
  glob : X.env.globals = mainGlobals
  blt : X.env.builtins = builtinsNs
  above : X.s₀.heap.objs.size ≤ X.env.locals
  inj : ∀ x y c, X.env.cells.lookup x = some c → X.env.cells.lookup y = some c → x = y
  has : ∀ x, (X.env.kindOf x = some .cell ∨ X.env.kindOf x = some .free) → ∃ c, X.env.cells.lookup x = some c
  cab : ∀ x c, X.fn x = true → X.env.cells.lookup x = some c → X.s₀.heap.objs.size ≤ c
  hd : X.calm = true → X.A.handled = none
  frames : X.A.frames = some X.stack
  stk : X.stack = X.outer ∨ (X.stack = X.env :: X.outer ∧ X.env.frame = some X.env.locals)
  exf : ∀ b ∈ X.ex, b ≠ X.env.locals ∧ ∀ x c, X.env.cells.lookup x = some c → c ≠ b
  bs : ∀ b o, X.base.get? b = some o → X.s₀.heap.get? b = some o ∧ X.H₀ b = none
  bsz : X.base.objs.size ≤ X.s₀.heap.objs.size
  noex : ∀ b o, X.base.get? b = some o → b ∉ X.ex
  exfs : ∀ b ∈ X.ex, b ∉ X.fs
  funs : X.s₀.heap.FunFrames X.base X.outer
  frf : ∀ b ∈ X.fs, X.H₀ b = none

structure Inv (X : Cx) (pins : List (Addr × Obj)) (σ : List (Option V)) (H : Hp) (s : Shared) : Prop where
  ok : X.Ok
  os : s.os = X.s₀.os
  bare : AllBare s.gens
  base : Un X.fs X.ex X.H₀ H X.s₀.heap s.heap
  loc : ∃ m, s.heap.Ns X.env.locals m ∧ ∀ (i : Nat) (x : Str) (v : V), X.N[i]? = some x → σ[i]? = some (some v) → Vis X.env.scope x → ∃ u, RelV v u ∧ Look X.env s.heap m x u
  cell : ∀ x c, X.env.cells.lookup x = some c → ∃ v, s.heap.IsCell c v
  free : H X.env.locals = none
  freeC : ∀ x c, X.env.cells.lookup x = some c → H c = none
  pin : ∀ p ∈ X.pn ++ pins, s.heap.get? p.1 = some p.2 ∧ H p.1 = none ∧ p.1 ≠ X.env.locals ∧ p.1 ∉ X.fs ∧ ∀ v, p.2.data ≠ .cell v
  hok : HOk X.prog X.w H s.heap
  len : σ.length = X.N.length

section
variable {X : Cx} {pins : List (Addr × Obj)} {σ : List (Option V)} {H H' : Hp} {s : Shared} {h' : Heap}

theorem Cx.Ok.nofr (ok : X.Ok) {b : Addr} {o : Obj} (e : X.base.get? b = some o) : b ∉ X.fs := fun hb => by
  have := (ok.funs.mem hb).1
  rw [e] at this; cases this
theorem Inv.bs (I : Inv X pins σ H s) : ∀ b o, X.base.get? b = some o → s.heap.get? b = some o ∧ H b = none := fun b o e =>
  ⟨I.base.keep b o (I.ok.bs b o e).1 (I.ok.bs b o e).2 (I.ok.nofr e) (I.ok.noex b o e), I.base.free b o (I.ok.bs b o e).1 (I.ok.bs b o e).2 (I.ok.noex b o e)⟩
theorem Inv.bk (I : Inv X pins σ H s) : ∀ b o, X.base.get? b = some o → s.heap.get? b = some o := fun b o e => (I.bs b o e).1
theorem Inv.mod (I : Inv X pins σ H s) : Mod X.K X.mg X.base := I.ok.mod
theorem Inv.kIn (I : Inv X pins σ H s) : X.K.In s.heap := I.ok.mod.kin.keeps I.bk
theorem Inv.nolimit (I : Inv X pins σ H s) : s.heap.NoLimit := I.ok.mod.nolimit.keeps I.bk
/-- the frame over the base: for OpenK's rules (K.In X.base is I.mod.kin) -/
theorem Inv.fr (I : Inv X pins σ H s) : ∃ m, Fr X.base X.env.locals s.heap m :=
  let ⟨m, hn, _⟩ := I.loc
  ⟨m, hn, I.bk, Nat.le_trans I.ok.bsz I.ok.above⟩
theorem Inv.lt (I : Inv X pins σ H s) : X.env.locals < s.heap.objs.size := let ⟨_, hn, _⟩ := I.loc; hn.lt
theorem Inv.sz (I : Inv X pins σ H s) : X.s₀.heap.objs.size ≤ s.heap.objs.size := Nat.le_trans I.ok.above (Nat.le_of_lt I.lt)
theorem Inv.nofs (I : Inv X pins σ H s) {a : Addr} (h : s.heap.objs.size ≤ a) : a ∉ X.fs := fun hb => by
  obtain ⟨_, o, ho, _⟩ := I.ok.funs.mem hb
  exact absurd (Nat.lt_of_lt_of_le (Heap.lt_size ho) (Nat.le_trans I.sz h)) (Nat.lt_irrefl _)
theorem Inv.cne (I : Inv X pins σ H s) : ∀ x c, X.env.cells.lookup x = some c → c ≠ X.env.locals := fun x c e z => by
  obtain ⟨v, o, ho, hd⟩ := I.cell x c e
  obtain ⟨m, ⟨o', es, ep, ho', hd', _⟩, _⟩ := I.loc
  rw [z, ho'] at ho; cases ho; rw [hd'] at hd; cases hd
theorem Inv.funs (I : Inv X pins σ H s) : s.heap.FunFrames X.base X.outer := by
  have all : ∀ (l : List Env), (∀ b ∈ frs l, b ∈ X.fs) → X.s₀.heap.FunFrames X.base l → s.heap.FunFrames X.base l := by
    intro l
    induction l with
    | nil => intro _ _; trivial
    | cons env r ih =>
      intro hs hl
      obtain ⟨hk, ⟨L, o, hf, hn, ho, hd⟩, hr⟩ := hl
      have hL : L ∈ X.fs := hs L (by unfold frs; rw [List.filterMap_cons, hf]; exact List.mem_cons_self)
      obtain ⟨sl, e⟩ := I.base.slot L o ho (I.ok.frf L hL) hL fun z => I.ok.exfs L z hL
      exact ⟨hk, ⟨L, _, hf, hn, e, hd⟩, ih (fun b hb => hs b (by unfold frs; rw [List.filterMap_cons, hf]; exact List.mem_cons_of_mem _ hb)) hr⟩
  exact all X.outer (fun _ hb => hb) I.ok.funs

/-- the frames that run, for a call -/
theorem Inv.stack (I : Inv X pins σ H s) : s.heap.FunFrames X.base X.stack := by
  rcases I.ok.stk with e | ⟨e, hf⟩
  · rw [e]; exact I.funs
  · rw [e]
    obtain ⟨m, hn, _⟩ := I.loc
    refine .cons (by rw [I.ok.kind]; decide) hf hn ?_ I.funs
    exact Heap.get?_none_of_le (Nat.le_trans I.ok.bsz I.ok.above)
theorem Inv.stkSub (I : Inv X pins σ H s) : ∀ b ∈ frs X.stack, b ∈ X.env.locals :: X.fs := fun b hb => by
  rcases I.ok.stk with e | ⟨e, hf⟩
  · rw [e] at hb; exact List.mem_cons_of_mem _ hb
  · rw [e] at hb
    unfold frs at hb
    rw [List.filterMap_cons, hf] at hb
    exact hb
theorem Inv.stkFree (I : Inv X pins σ H s) : ∀ b ∈ frs X.stack, H b = none := fun b hb => by
  rcases List.mem_cons.mp (I.stkSub b hb) with e | hb
  · rw [e]; exact I.free
  · obtain ⟨_, o, ho, _⟩ := I.ok.funs.mem hb
    exact I.base.free b o ho (I.ok.frf b hb) fun z => I.ok.exfs b z hb

/-- THE STEP: the untracked objects but the frame and the records at ch are kept (the callers' frames up to slots), the frame's map is kept, the new abstract heap is held -/
theorem Inv.step {g' : Array GenState} {t' : Nat} {d' : Drawn} {ch : List Addr} (I : Inv X pins σ H s)
    (hch : ∀ b ∈ ch, (b ∈ X.ex ∨ X.s₀.heap.objs.size ≤ b) ∧ b ≠ X.env.locals ∧ (∀ x c, X.env.cells.lookup x = some c → c ≠ b) ∧ ∀ p ∈ X.pn ++ pins, p.1 ≠ b)
    (keep : ∀ b o, b ≠ X.env.locals → b ∉ X.fs → b ∉ ch → s.heap.get? b = some o → H b = none → h'.get? b = some o)
    (slot : ∀ b o, b ≠ X.env.locals → b ∈ X.fs → b ∉ ch → s.heap.get? b = some o → H b = none → ∃ sl, h'.get? b = some { o with slots := sl }) (free : ∀ b o, b ∉ ch → s.heap.get? b = some o → H b = none → H' b = none)
    (there : ∀ b o, b ∉ ch → s.heap.get? b = some o → ∃ o', h'.get? b = some o')
    (tups : ∀ b xs, H b = some (.tup xs) → H' b = some (.tup xs)) (frzs : ∀ b o u, H b = some (.frz o u) → H' b = some (.frz o u)) (tbls : ∀ b ps, H b = some (.tbl ps) → ∃ more, H' b = some (.tbl (ps ++ more)))
    (ns : ∀ m, s.heap.Ns X.env.locals m → h'.Ns X.env.locals m) (hok : HOk X.prog X.w H' h') (hg : AllBare g') :
    Inv X pins σ H' { s with heap := h', gens := g', drawn := d', toks := t' } := by
  have neL : ∀ b o, X.s₀.heap.get? b = some o → b ≠ X.env.locals := fun b o e => Nat.ne_of_lt (Nat.lt_of_lt_of_le (Heap.lt_size e) I.ok.above)
  have neC : ∀ b o, X.s₀.heap.get? b = some o → b ∉ X.ex → b ∉ ch := fun b o e hx hb => by
    rcases (hch b hb).1 with z | z
    · exact hx z
    · exact absurd (Nat.lt_of_lt_of_le (Heap.lt_size e) z) (Nat.lt_irrefl _)
  have cellK : ∀ x c, X.env.cells.lookup x = some c → ∀ v, s.heap.IsCell c v → h'.IsCell c v := fun x c e v ⟨o, ho, hd⟩ => by
    have nch : c ∉ ch := fun z => (hch c z).2.2.1 x c e rfl
    by_cases hc : c ∈ X.fs
    · obtain ⟨sl, q⟩ := slot c o (I.cne x c e) hc nch ho (I.freeC x c e)
      exact ⟨_, q, hd⟩
    · exact ⟨o, keep c o (I.cne x c e) hc nch ho (I.freeC x c e), hd⟩
  refine ⟨I.ok, I.os, hg, ⟨fun b o e n hb hx => ?_, fun b o e n hb hx => ?_, fun b o e n hx => ?_, fun b o e hx => ?_, fun b xs e => tups b xs (I.base.tups b xs e), fun b o xs e => frzs b o xs (I.base.frzs b o xs e), fun b ps e => ?_⟩, ?_, fun x c e => ?_, ?_, fun x c e => ?_, fun p hp => ?_, hok, I.len⟩
  · exact keep b o (neL b o e) hb (neC b o e hx) (I.base.keep b o e n hb hx) (I.base.free b o e n hx)
  · obtain ⟨sl, e1⟩ := I.base.slot b o e n hb hx
    obtain ⟨sl', e2⟩ := slot b _ (neL b o e) hb (neC b o e hx) e1 (I.base.free b o e n hx)
    exact ⟨sl', e2⟩
  · obtain ⟨o', e1⟩ := I.base.there b o e hx
    exact free b o' (neC b o e hx) e1 (I.base.free b o e n hx)
  · obtain ⟨o', e1⟩ := I.base.there b o e hx
    exact there b o' (neC b o e hx) e1
  · obtain ⟨m1, e1⟩ := I.base.tbls b ps e
    obtain ⟨m2, e2⟩ := tbls b _ e1
    exact ⟨m1 ++ m2, by rw [e2, Array.append_assoc]⟩
  · obtain ⟨m, hn, hl⟩ := I.loc
    refine ⟨m, ns m hn, fun i x v e1 e2 e3 => ?_⟩
    obtain ⟨u, r, l⟩ := hl i x v e1 e2 e3
    refine ⟨u, r, ?_⟩
    rcases l with l | ⟨k, c, e, z⟩
    · exact .inl l
    · exact .inr ⟨k, c, e, cellK x c e _ z⟩
  · obtain ⟨v, z⟩ := I.cell x c e
    exact ⟨v, cellK x c e v z⟩
  · obtain ⟨m, ⟨o, _, _, ho, _⟩, _⟩ := I.loc
    exact free _ o (fun z => (hch _ z).2.1 rfl) ho I.free
  · obtain ⟨v, o, ho, hd⟩ := I.cell x c e
    exact free c o (fun z => (hch c z).2.2.1 x c e rfl) ho (I.freeC x c e)
  · obtain ⟨e, n, ne, nf, d⟩ := I.pin p hp
    have nch : p.1 ∉ ch := fun z => (hch p.1 z).2.2.2 p hp rfl
    exact ⟨keep p.1 p.2 ne nf nch e n, free p.1 p.2 nch e n, ne, nf, d⟩
/-- .. where the frame's own object is kept too -/
theorem Inv.un {t' : Nat} (I : Inv X pins σ H s) (u : Un X.fs [] H H' s.heap h') (hok : HOk X.prog X.w H' h') : Inv X pins σ H' { s with heap := h', toks := t' } := by
  obtain ⟨m, ⟨o, es, ep, ho, r⟩, _⟩ := id I.loc
  obtain ⟨sl, hL⟩ := u.any ho I.free (by simp)
  exact I.step (g' := s.gens) (d' := s.drawn) (ch := []) (fun _ z => nomatch z) (fun b o _ hb _ e n => u.keep b o e n hb (by simp)) (fun b o _ hb _ e n => u.slot b o e n hb (by simp)) (fun b o _ e n => u.free b o e n (by simp)) (fun b o _ e => u.there b o e (by simp)) u.tups u.frzs u.tbls (fun m' hm => by
    obtain ⟨o', es', ep', ho', r'⟩ := hm
    rw [ho] at ho'; cases ho'
    exact ⟨_, es', ep', hL, r'⟩) hok I.bare
/-- behind a call (or a comprehension's block): the slots of this frame may have changed too, the records at ch may have turned -/
theorem Inv.call {g' : Array GenState} {t' : Nat} {d' : Drawn} {ch : List Addr} (I : Inv X pins σ H s) (u : Un (frs X.stack) ch H H' s.heap h') (hok : HOk X.prog X.w H' h') (hg : AllBare g')
    (hch : ∀ b ∈ ch, (b ∈ X.ex ∨ X.s₀.heap.objs.size ≤ b) ∧ b ≠ X.env.locals ∧ (∀ x c, X.env.cells.lookup x = some c → c ≠ b) ∧ ∀ p ∈ X.pn ++ pins, p.1 ≠ b) :
    Inv X pins σ H' { s with heap := h', gens := g', drawn := d', toks := t' } := by
  obtain ⟨m, ⟨o, es, ep, ho, r⟩, _⟩ := id I.loc
  obtain ⟨sl, hL⟩ := u.any ho I.free fun z => (hch _ z).2.1 rfl
  exact I.step (ch := ch) hch (fun b o hL hb hc e n => u.keep b o e n (fun z => (List.mem_cons.mp (I.stkSub b z)).elim hL hb) hc) (fun b o _ _ hc e n => u.any e n hc) (fun b o hc e n => u.free b o e n hc) (fun b o hc e => u.there b o e hc) u.tups u.frzs u.tbls (fun m' hm => by
    obtain ⟨o', es', ep', ho', r'⟩ := hm
    rw [ho] at ho'; cases ho'
    exact ⟨_, es', ep', hL, r'⟩) hok hg
/-- an untracked record of ours (an iterator) has turned -/
theorem Inv.turned {t' : Nat} {it : Addr} (I : Inv X pins σ H s) (k : ∀ b o, b ≠ it → s.heap.get? b = some o → h'.get? b = some o) (hn : H it = none) (hL : it ≠ X.env.locals)
    (h1 : it ∈ X.ex ∨ X.s₀.heap.objs.size ≤ it) (h2 : ∀ x c, X.env.cells.lookup x = some c → c ≠ it) (h3 : ∀ p ∈ X.pn ++ pins, p.1 ≠ it) : Inv X pins σ H { s with heap := h', toks := t' } := by
  have nit : ∀ b u, H b = some u → b ≠ it := fun b u e z => by rw [z, hn] at e; cases e
  refine I.step (g' := s.gens) (d' := s.drawn) (ch := [it]) (fun b hb => ?_) (fun b o _ _ hc e _ => k b o (fun z => hc (by simp [z])) e) (fun b o _ _ hc e _ => ⟨o.slots, k b o (fun z => hc (by simp [z])) e⟩) (fun _ _ _ _ n => n)
    (fun b o hc e => ⟨o, k b o (fun z => hc (by simp [z])) e⟩) (fun _ _ e => e) (fun _ _ _ e => e) (fun b ps e => ⟨#[], by rw [e]; simp⟩) (fun m hm => ?_) (fun b u e => ?_) I.bare
  · have e : b = it := by simpa using hb
    subst e
    exact ⟨h1, hL, h2, h3⟩
  · obtain ⟨o, es, ep, ho, r⟩ := hm
    exact ⟨o, es, ep, k _ o (Ne.symm hL) ho, r⟩
  · refine (I.hok b u e).stay (fun c v hc q => k c v ?_ q) (fun _ q => q) fun _ _ q => q
    rcases hc with z | z
    · rw [z]; exact nit b u e
    · exact nit c _ z
theorem Inv.tok (I : Inv X pins σ H s) (t : Nat) : Inv X pins σ H { s with toks := t } := I.un (h' := s.heap) (t' := t) Un.refl I.hok
/-- all objects kept -/
theorem Inv.kept {t' : Nat} (I : Inv X pins σ H s) (k : ∀ b u, s.heap.get? b = some u → h'.get? b = some u) : Inv X pins σ H { s with heap := h', toks := t' } := I.un (Un.kept k) (I.hok.kept k)
/-- a new object laid and tracked -/
theorem Inv.laid {a : Addr} {o : HO} {t' : Nat} (I : Inv X pins σ H s) (k : ∀ b u, s.heap.get? b = some u → h'.get? b = some u) (hp : s.heap.objs.size ≤ a) (new : ObjOk X.prog X.w (upd H a o) h' a o) :
    Inv X pins σ (upd H a o) { s with heap := h', toks := t' } := I.un (Un.laid k hp (I.hok.fresh hp)) (I.hok.laid k hp new)
/-- an object written -/
theorem Inv.write {x e : Addr} {o : HO} {t' : Nat} (I : Inv X pins σ H s) (mu : Mut (H x)) (he : e = x ∨ H e = some (.own x)) (k : ∀ b u, b ≠ e → s.heap.get? b = some u → h'.get? b = some u) (heo : ∃ u, h'.get? e = some u)
    (new : ObjOk X.prog X.w (upd H x o) h' x o) : Inv X pins σ (upd H x o) { s with heap := h', toks := t' } := I.un (Un.write mu he k heo) (I.hok.write mu he k heo new)
theorem Inv.pins_of {pins' : List (Addr × Obj)} (I : Inv X pins σ H s) (h : ∀ p ∈ pins', s.heap.get? p.1 = some p.2 ∧ H p.1 = none ∧ p.1 ≠ X.env.locals ∧ p.1 ∉ X.fs ∧ ∀ v, p.2.data ≠ .cell v) : Inv X pins' σ H s :=
  ⟨I.ok, I.os, I.bare, I.base, I.loc, I.cell, I.free, I.freeC, fun p hp => (List.mem_append.mp hp).elim (fun z => I.pin p (List.mem_append_left _ z)) (h p), I.hok, I.len⟩

theorem nodup_ix {N : List Str} (hN : N.Nodup) {i j : Nat} {x : Str} (a : N[i]? = some x) (b : N[j]? = some x) : i = j := by
  obtain ⟨h1, e1⟩ := List.getElem?_eq_some_iff.mp a
  obtain ⟨h2, e2⟩ := List.getElem?_eq_some_iff.mp b
  exact (List.getElem_inj hN).mp (e1.trans e2.symm)

/-- a name is stored; what changed -/
theorem store_ok2 {M : Model} {A : Around} {E : Value → Shared → Prop} {i : Nat} {x : Str} {v : V} {u : Value} {Q : Unit → Shared → Prop} (I : Inv X pins σ H s) (hN : X.N.Nodup) (hi : X.N[i]? = some x) (hx : Loc X.env.scope x) (r : RelV v u)
    (h : ∀ s', Inv X pins (σ.set i (some v)) H s' → (∃ a, Heap.SameBut a s.heap s'.heap ∧ (a = X.env.locals ∨ X.env.cells.lookup x = some a)) → Q () s') (hf : X.fn x = true ∨ X.env.scope.names.lookup x = some .local := by first | exact .inl rfl | exact .inr rfl | assumption) : wpAny M A (storeName X.env x u) Q E s := by
  obtain ⟨m, hn, hl⟩ := id I.loc
  have hcls : (X.env.scope.kind == .class || (X.env.scope.kind == .module && X.env.locals != X.env.globals)) = false := by rw [I.ok.kind]; rfl
  have hiσ : i < σ.length := by rw [I.len]; exact (List.getElem?_eq_some_iff.mp hi).1
  have cne := I.cne
  have tracked : ∀ {a : Addr} {h' : Heap}, (∃ o, s.heap.get? a = some o ∧ H a = none) → Heap.SameBut a s.heap h' → HOk X.prog X.w H h' := fun {a h'} ha hs b ob e => by
    obtain ⟨_, _, hfree⟩ := ha
    refine (I.hok b ob e).stay (fun c w' hc q => (hs.2 c ?_).trans q) (fun _ q => q) fun _ _ q => q
    rintro rfl
    rcases hc with rfl | hc
    · rw [hfree] at e; cases e
    · rw [hfree] at hc; cases hc
  rcases hx with hk | hk
  · refine wpAny_storeName_local hk hn (fun h' hn' hs => ?_) hcls
    obtain ⟨oL, _, _, hoL, _⟩ := id hn
    refine h _ ⟨I.ok, I.os, I.bare, ⟨fun b o e n hb hx => ?_, fun b o e n hb hx => ?_, I.base.free, fun b o e hx => ?_, I.base.tups, I.base.frzs, I.base.tbls⟩, ⟨_, hn', fun j y v' e1 e2 e3 => ?_⟩, fun y c e => ?_, I.free, I.freeC, fun p hp => ?_, tracked ⟨oL, hoL, I.free⟩ hs, by simpa using I.len⟩ ⟨_, hs, .inl rfl⟩
    · exact (hs.2 b (Nat.ne_of_lt (Nat.lt_of_lt_of_le (Heap.lt_size e) I.ok.above))).trans (I.base.keep b o e n hb hx)
    · obtain ⟨sl, e1⟩ := I.base.slot b o e n hb hx
      exact ⟨sl, (hs.2 b (Nat.ne_of_lt (Nat.lt_of_lt_of_le (Heap.lt_size e) I.ok.above))).trans e1⟩
    · obtain ⟨o', e1⟩ := I.base.there b o e hx
      exact ⟨o', (hs.2 b (Nat.ne_of_lt (Nat.lt_of_lt_of_le (Heap.lt_size e) I.ok.above))).trans e1⟩
    · by_cases hj : j = i
      · subst hj
        rw [hi] at e1; cases e1
        rw [List.getElem?_set_self hiσ] at e2
        cases e2
        exact ⟨u, r, .inl ⟨hk, by simp⟩⟩
      · rw [List.getElem?_set_ne (Ne.symm hj)] at e2
        obtain ⟨u', r', q⟩ := hl j y v' e1 e2 e3
        refine ⟨u', r', ?_⟩
        rcases q with ⟨k, e⟩ | ⟨k, c, e, z⟩
        · refine .inl ⟨k, ?_⟩
          have : y ≠ x := fun e => hj (nodup_ix hN e1 (e ▸ hi))
          simp [this, e]
        · exact .inr ⟨k, c, e, z.sameBut hs (cne y c e)⟩
    · obtain ⟨w', z⟩ := I.cell y c e
      exact ⟨w', z.sameBut hs (cne y c e)⟩
    · obtain ⟨e, n, ne, nf, d⟩ := I.pin p hp
      exact ⟨(hs.2 p.1 ne).trans e, n, ne, nf, d⟩
  · have hfn : X.fn x = true := by
      rcases hf with z | z
      · exact z
      · rw [z] at hk; cases hk
    obtain ⟨c, hc⟩ := I.ok.has x (.inl hk)
    obtain ⟨w', z⟩ := I.cell x c hc
    refine wpAny_storeName_cell I.ok.kind hk hc z (fun h' hc' hs => ?_)
    obtain ⟨oc, hoc, hocd⟩ := id z
    refine h { s with heap := h' } ⟨I.ok, I.os, I.bare, ⟨fun b o e n hb hx => ?_, fun b o e n hb hx => ?_, I.base.free, fun b o e hx => ?_, I.base.tups, I.base.frzs, I.base.tbls⟩, ⟨m, hn.sameBut hs (Ne.symm (cne x c hc)), fun j y v' e1 e2 e3 => ?_⟩, fun y c' e => ?_, I.free, I.freeC, fun p hp => ?_, tracked ⟨oc, hoc, I.freeC x c hc⟩ hs, by simpa using I.len⟩ ⟨c, hs, .inr hc⟩
    · exact (hs.2 b (Nat.ne_of_lt (Nat.lt_of_lt_of_le (Heap.lt_size e) (I.ok.cab x c hfn hc)))).trans (I.base.keep b o e n hb hx)
    · obtain ⟨sl, e1⟩ := I.base.slot b o e n hb hx
      exact ⟨sl, (hs.2 b (Nat.ne_of_lt (Nat.lt_of_lt_of_le (Heap.lt_size e) (I.ok.cab x c hfn hc)))).trans e1⟩
    · obtain ⟨o', e1⟩ := I.base.there b o e hx
      exact ⟨o', (hs.2 b (Nat.ne_of_lt (Nat.lt_of_lt_of_le (Heap.lt_size e) (I.ok.cab x c hfn hc)))).trans e1⟩
    · by_cases hj : j = i
      · subst hj
        rw [hi] at e1; cases e1
        rw [List.getElem?_set_self hiσ] at e2
        cases e2
        exact ⟨u, r, .inr ⟨.inl hk, c, hc, hc'⟩⟩
      · rw [List.getElem?_set_ne (Ne.symm hj)] at e2
        obtain ⟨u', r', q⟩ := hl j y v' e1 e2 e3
        refine ⟨u', r', ?_⟩
        rcases q with q | ⟨k, c', e, z'⟩
        · exact .inl q
        · refine .inr ⟨k, c', e, z'.sameBut hs ?_⟩
          rintro rfl
          exact hj (nodup_ix hN e1 (I.ok.inj _ _ _ e hc ▸ hi))
    · by_cases hcc : c' = c
      · subst hcc; exact ⟨_, hc'⟩
      · obtain ⟨w2, z2⟩ := I.cell y c' e
        exact ⟨w2, z2.sameBut hs hcc⟩
    · obtain ⟨e, n, ne, nf, d⟩ := I.pin p hp
      refine ⟨(hs.2 p.1 ?_).trans e, n, ne, nf, d⟩
      intro q
      rw [q, hoc] at e
      have q' : oc = p.2 := Option.some.inj e
      exact d w' (by rw [← q']; exact hocd)
theorem store_ok {M : Model} {A : Around} {E : Value → Shared → Prop} {i : Nat} {x : Str} {v : V} {u : Value} {Q : Unit → Shared → Prop} (I : Inv X pins σ H s) (hN : X.N.Nodup) (hi : X.N[i]? = some x) (hx : Loc X.env.scope x) (r : RelV v u)
    (h : ∀ s', Inv X pins (σ.set i (some v)) H s' → Q () s') (hf : X.fn x = true ∨ X.env.scope.names.lookup x = some .local := by first | exact .inl rfl | exact .inr rfl | assumption) : wpAny M A (storeName X.env x u) Q E s :=
  store_ok2 I hN hi hx r (fun s' I' _ => h s' I') hf
/-- behind a call or a block, the state as it is -/
theorem Inv.call' {s' : Shared} {ch : List Addr} (I : Inv X pins σ H s) (ho : s'.os = s.os) (u : Un (frs X.stack) ch H H' s.heap s'.heap) (hok : HOk X.prog X.w H' s'.heap) (hg : AllBare s'.gens)
    (hch : ∀ b ∈ ch, (b ∈ X.ex ∨ X.s₀.heap.objs.size ≤ b) ∧ b ≠ X.env.locals ∧ (∀ x c, X.env.cells.lookup x = some c → c ≠ b) ∧ ∀ p ∈ X.pn ++ pins, p.1 ≠ b) : Inv X pins σ H' s' := by
  obtain ⟨h', g', d', t', o'⟩ := s'
  have e : o' = s.os := ho
  subst e
  exact I.call (g' := g') (t' := t') (d' := d') u hok hg hch
end

/-! ### the judgements -/
/-- an exception: its class, its own dict's address (where it has one), the abstract heap behind it -/
abbrev XK := Value → Option Addr → Hp → Prop
abbrev St := List (Option V)
abbrev VK := V → Hp → Prop
/-- an expression's reading; a test's; an argument list's -/
abbrev TE := St → Hp → VK → Prop
abbrev TT := St → Hp → (Bool → Hp → Prop) → Prop
abbrev TA := St → Hp → (List V → Hp → Prop) → Prop
/-- what is wanted behind a statement -/
structure Ends where
  nx : St → Hp → Prop
  rt : VK
  bk : St → Hp → Prop := fun _ _ => False
  ct : St → Hp → Prop := fun _ _ => False
abbrev TS := Ends → St → Hp → Prop

inductive EPI (X : Cx) (pins : List (Addr × Obj)) (σ : St) (Q : VK) (u : Value) (s' : Shared) : Prop where
  | mk (v : _) (H' : _) (c1 : Inv X pins σ H' s') (c2 : RelV v u) (c3 : Q v H')
def EP (X : Cx) (pins : List (Addr × Obj)) (σ : St) (Q : VK) (u : Value) (s' : Shared) : Prop := EPI X pins σ Q u s'
def TP (X : Cx) (pins : List (Addr × Obj)) (σ : St) (Q : Bool → Hp → Prop) (b : Bool) (s' : Shared) : Prop := ∃ H', Inv X pins σ H' s' ∧ Q b H'
inductive API (X : Cx) (pins : List (Addr × Obj)) (σ : St) (Q : List V → Hp → Prop) (us : List Value) (s' : Shared) : Prop where
  | mk (vs : _) (H' : _) (c1 : Inv X pins σ H' s') (c2 : Vals vs us) (c3 : Q vs H')
def AP (X : Cx) (pins : List (Addr × Obj)) (σ : St) (Q : List V → Hp → Prop) (us : List Value) (s' : Shared) : Prop := API X pins σ Q us s'
def SP (X : Cx) (pins : List (Addr × Obj)) (D : Ends) (f : Flow) (s' : Shared) : Prop :=
  match f with
  | .next => ∃ σ' H', Inv X pins σ' H' s' ∧ D.nx σ' H'
  | .brk => ∃ σ' H', Inv X pins σ' H' s' ∧ D.bk σ' H'
  | .cont => ∃ σ' H', Inv X pins σ' H' s' ∧ D.ct σ' H'
  | .ret u => ∃ v σ' H', Inv X pins σ' H' s' ∧ RelV v u ∧ D.rt v H'

def PE (X : Cx) (e : Expr) (t : TE) : Prop :=
  ∀ (pins : List (Addr × Obj)) (s : Shared) (σ : St) (H : Hp) (Q : VK), Inv X pins σ H s → t σ H Q → wpAny (model X.prog X.w) X.A (eval e X.env) (EP X pins σ Q) X.xe s
def PT (X : Cx) (e : Expr) (t : TT) : Prop :=
  ∀ (pins : List (Addr × Obj)) (s : Shared) (σ : St) (H : Hp) (Q : Bool → Hp → Prop), Inv X pins σ H s → t σ H Q → wpAny (model X.prog X.w) X.A (isTrue e X.env (eval e X.env)) (TP X pins σ Q) X.xe s
/-- a test whatever its 'whole' is (and, or) -/
def PW (X : Cx) (e : Expr) (t : TT) : Prop :=
  ∀ (whole : Sem Value) (pins : List (Addr × Obj)) (s : Shared) (σ : St) (H : Hp) (Q : Bool → Hp → Prop), Inv X pins σ H s → t σ H Q → wpAny (model X.prog X.w) X.A (isTrue e X.env whole) (TP X pins σ Q) X.xe s
theorem PW.pt {X : Cx} {e : Expr} {t : TT} (h : PW X e t) : PT X e t := h _
/-- an argument list (no star), from the left -/
def PA (X : Cx) (es : List Expr) (t : TA) : Prop :=
  ∀ (pos : Pos) (pins : List (Addr × Obj)) (s : Shared) (σ : St) (H : Hp) (Q : List V → Hp → Prop), Inv X pins σ H s → t σ H Q → wpAny (model X.prog X.w) X.A (spliced (backTo pos (starEach es X.env))) (AP X pins σ Q) X.xe s
def PS (X : Cx) (st : Stmt) (t : TS) : Prop :=
  ∀ (pins : List (Addr × Obj)) (s : Shared) (σ : St) (H : Hp) (D : Ends), Inv X pins σ H s → t D σ H → wpAny (model X.prog X.w) X.A (exec st X.env) (SP X pins D) X.xe s
def PSs (X : Cx) (st : List Stmt) (t : TS) : Prop :=
  ∀ (pins : List (Addr × Obj)) (s : Shared) (σ : St) (H : Hp) (D : Ends), Inv X pins σ H s → t D σ H → wpAny (model X.prog X.w) X.A (execs st X.env) (SP X pins D) X.xe s
/-- weaken the end -/
theorem thn {α : Type} {t : Sem α} {Q Q' : α → Shared → Prop} {M : Model} {A : Around} {E : Value → Shared → Prop} {s : Shared} (h : wpAny M A t Q E s) (hQ : ∀ a s, Q a s → Q' a s) : wpAny M A t Q' E s := wpAny_mono h hQ fun _ _ x => x
end L2

namespace L2
open PySem PySem.Spec PyProof.Rows
section
variable {X : Cx}

/-- two expressions in a row -/
theorem bin {a b : Expr} {ta tb : TE} (ha : PE X a ta) (hb : PE X b tb) {pins : List (Addr × Obj)} {s : Shared} {σ : St} {H : Hp} {R : V → V → Hp → Prop} (I : Inv X pins σ H s) (h : ta σ H fun x H1 => tb σ H1 fun y H2 => R x y H2)
    {α : Type} {Q : α → Shared → Prop} {f : Value → Value → Sem α}
    (hf : ∀ v u s2 x y H2, Inv X pins σ H2 s2 → RelV x v → RelV y u → R x y H2 → wpAny (model X.prog X.w) X.A (f v u) Q X.xe s2) :
    wpAny (model X.prog X.w) X.A (eval a X.env) (fun v s₁ => wpAny (model X.prog X.w) X.A (eval b X.env) (fun u s₂ => wpAny (model X.prog X.w) X.A (f v u) Q X.xe s₂) X.xe s₁) X.xe s := by
  refine thn (ha pins s σ H _ I h) fun v s1 ⟨x, H1, I1, r1, q1⟩ => ?_
  refine thn (hb pins s1 σ H1 _ I1 q1) fun u s2 ⟨y, H2, I2, r2, q2⟩ => ?_
  exact hf v u s2 x y H2 I2 r1 r2 q2

/-! ### names and constants -/
inductive TVarI (i : Nat) (σ : L2.St) (H : Hp) (Q : VK) : Prop where
  | mk (v : _) (c1 : σ[i]? = some (some v)) (c2 : Q v H)
def tVar (i : Nat) : TE := fun σ H Q => TVarI i σ H Q
def tC (v : V) : TE := fun _ H Q => Q v H
theorem pe_var {i : Nat} {x : Str} {pos : Pos} (hN : X.N[i]? = some x) (hv : Vis X.env.scope x) (hd : (x == ("__debug__" : Str)) = false := by decide) (hcd : (x == ("__classdict__" : Str)) = false := by decide) : PE X (.Name x pos) (tVar i) := by
  intro pins s σ H Q I h
  obtain ⟨v, e, h⟩ := h
  obtain ⟨m, hn, hl⟩ := I.loc
  obtain ⟨u, r, l⟩ := hl i x v hN e hv
  have fin : EP X pins σ Q u s := ⟨v, H, I, r, h⟩
  rcases l with ⟨hk, hm⟩ | ⟨hk, c, hc, hcell⟩
  · exact wpAny_Name (wpAny_loadName_local I.ok.kind hk hn hm fin) hd
  · rcases hk with hk | hk
    · exact wpAny_Name (wpAny_loadName_cell I.ok.kind hk hc hcell fin) hd
    · exact wpAny_Name (wpAny_loadName_free I.ok.kind hk hc hcell fin hcd) hd
theorem pe_int {i j pos} : PE X (.Constant (.int i) j pos) (tC (.int i)) := fun _ _ _ H _ I h => wpAny_Constant_int ⟨.int i, H, I.tok _, ⟨_, rfl⟩, h⟩
theorem pe_bl {b j pos} : PE X (.Constant (.bool b) j pos) (tC (.bl b)) := fun _ _ _ H _ I h => Constant_bool ⟨.bl b, H, I, rfl, h⟩
theorem pe_non {j pos} : PE X (.Constant .none j pos) (tC .non) := fun _ _ _ H _ I h => Constant_none ⟨.non, H, I, rfl, h⟩
theorem pe_str {x j pos} : PE X (.Constant (.str x) j pos) (tC (.str x)) := fun _ _ _ H _ I h => Calls.Constant_str ⟨.str x, H, I.tok _, ⟨_, rfl⟩, h⟩

/-- a global name of the def -/
def Gl (X : Cx) (x : Str) : Prop := X.env.kindOf x = some .globalImplicit
theorem ld_glob {E : Value → Shared → Prop} {pins : List (Addr × Obj)} {s : Shared} {σ : St} {H : Hp} {x : Str} {u : Value} {pos : Pos} {Q : Value → Shared → Prop} (I : Inv X pins σ H s) (hg : Gl X x) (hm : X.mg x = some u) (h : Q u s)
    (hd : (x == ("__debug__" : Str)) = false := by decide) : wpAny (model X.prog X.w) X.A (eval (.Name x pos) X.env) Q E s :=
  Calls.Name_function_global I.ok.kind hg (Calls.loadGlobal_global (by rw [I.ok.glob]; exact I.mod.glob.keeps I.bk) hm h) hd
theorem ld_blt {E : Value → Shared → Prop} {pins : List (Addr × Obj)} {s : Shared} {σ : St} {H : Hp} {x : Str} {u : Value} {pos : Pos} {Q : Value → Shared → Prop} (I : Inv X pins σ H s) (hg : Gl X x) (hm : X.mg x = none) (hv : bootBuiltins x = some u) (h : Q u s)
    (hn : x ≠ "__name__" := by decide) (hd : (x == ("__debug__" : Str)) = false := by decide) : wpAny (model X.prog X.w) X.A (eval (.Name x pos) X.env) Q E s := by
  obtain ⟨mb, h1, h2⟩ := I.mod.blt
  exact Calls.Name_function_global I.ok.kind hg (Calls.loadGlobal_builtin (by rw [I.ok.glob]; exact I.mod.glob.keeps I.bk) hm (by rw [I.ok.blt]; exact h1.keeps I.bk) ((h2 x hn).trans hv) h) hd
/-- a module's constant, a class, a function, as a value -/
theorem pe_glob {x : Str} {v : V} {u : Value} {pos : Pos} (hg : Gl X x) (hm : X.mg x = some u) (r : RelV v u) (hd : (x == ("__debug__" : Str)) = false := by decide) : PE X (.Name x pos) (tC v) :=
  fun _ _ _ H _ I h => ld_glob I hg hm ⟨v, H, I, r, h⟩ hd
theorem pe_bltn {x : Str} {v : V} {u : Value} {pos : Pos} (hg : Gl X x) (hm : X.mg x = none) (hv : bootBuiltins x = some u) (r : RelV v u) (hn : x ≠ "__name__" := by decide) (hd : (x == ("__debug__" : Str)) = false := by decide) : PE X (.Name x pos) (tC v) :=
  fun _ _ _ H _ I h => ld_blt I hg hm hv ⟨v, H, I, r, h⟩ hn hd

/-! ### arithmetic -/
variable {a b : Expr} {ta tb : TE} {pos : Pos}

/-! ### comparisons -/
def PC (X : Cx) (op : CmpOp) (a b : Expr) (t : TE) : Prop :=
  ∀ (pins : List (Addr × Obj)) (s : Shared) (σ : St) (H : Hp) (Q : VK), Inv X pins σ H s → t σ H Q →
    wpAny (model X.prog X.w) X.A (eval a X.env) (fun v s₁ => wpAny (model X.prog X.w) X.A (eval b X.env) (fun u s₂ => wpAny (model X.prog X.w) X.A (compareOp op v u) (EP X pins σ Q) X.xe s₂) X.xe s₁) X.xe s
theorem nobehind (b : Expr) {op : CmpOp} (h : op ≠ .In) (h2 : op ≠ .NotIn) : behindInMarks op b = false := by
  have e1 : (op == CmpOp.In) = false := by cases op <;> first | rfl | exact absurd rfl h
  have e2 : (op == CmpOp.NotIn) = false := by cases op <;> first | rfl | exact absurd rfl h2
  cases b <;> simp [behindInMarks, e1, e2]
/-- a comparison as a value, as a test -/
inductive TBI (x : V) (H1 : Hp) (Q : Bool → Hp → Prop) : Prop where
  | mk (c : _) (c1 : x = .bl c) (c2 : Q c H1)
def tB (t : TE) : TT := fun σ H Q => t σ H fun x H1 => TBI x H1 Q
theorem pt_cmp {op : CmpOp} {t : TE} (h : PC X op a b t) (h1 : behindInMarks op b = false := by first | exact nobehind _ (by decide) (by decide) | rfl) : PT X (.Compare a [op] [b] pos) (tB t) := by
  intro pins s σ H Q I hw
  refine wpAny_isTrue_Compare1 (thn (h pins s σ H _ I hw) fun v s1 h1 => thn h1 fun u s2 h2 => thn h2 fun c s3 ⟨x, H1, I1, r1, q1⟩ => ?_) h1
  obtain ⟨d, rfl, q⟩ := q1
  cases r1
  exact wpAny_truthy_bool ⟨H1, I1, q⟩
/-- an expression whose value is a bool, as a test -/
theorem pt_val {e : Expr} {t : TE} (h : PE X e t) (he : ∀ whole, isTrue e X.env whole = (do let v ← whole; standAt e.pos; holding [v] (truthy v)) := by intro _; rfl) : PT X e (tB t) := by
  intro pins s σ H Q I hw
  refine isTrue_plain (thn (h pins s σ H _ I hw) fun v s1 ⟨x, H1, I1, r1, q1⟩ => ?_) (he _)
  obtain ⟨d, rfl, q⟩ := q1
  cases r1
  exact wpAny_truthy_bool ⟨H1, I1, q⟩

/-! ### and, or, not -/
variable {tA tB' : TT} {rest : List Expr}
def tAnd (t u : TT) : TT := fun σ H Q => t σ H fun c H1 => if c = true then u σ H1 Q else Q false H1
def tOr (t u : TT) : TT := fun σ H Q => t σ H fun c H1 => if c = true then Q true H1 else u σ H1 Q
def tNot (t : TT) : TT := fun σ H Q => t σ H fun c H1 => Q (!c) H1
theorem pw_and1 (ha : PT X a tA) : PW X (.BoolOp .And [a] pos) tA := by
  intro wh pins s σ H Q I h
  refine isTrue_and (thn (ha pins s σ H Q I h) fun c s1 e => ?_)
  cases c with
  | true => exact isTrue_and_nil e
  | false => exact e
theorem pw_or1 (ha : PT X a tA) : PW X (.BoolOp .Or [a] pos) tA := by
  intro wh pins s σ H Q I h
  refine isTrue_or (thn (ha pins s σ H Q I h) fun c s1 e => ?_)
  cases c with
  | false => exact isTrue_or_nil e
  | true => exact e
theorem pw_and (ha : PT X a tA) (hb : PW X (.BoolOp .And (b :: rest) pos) tB') : PW X (.BoolOp .And (a :: b :: rest) pos) (tAnd tA tB') := by
  intro wh pins s σ H Q I h
  refine isTrue_and (thn (ha pins s σ H _ I h) fun c s1 ⟨H1, I1, q1⟩ => ?_)
  cases c with
  | true => exact hb wh pins s1 σ H1 Q I1 q1
  | false => exact ⟨H1, I1, q1⟩
theorem pw_or (ha : PT X a tA) (hb : PW X (.BoolOp .Or (b :: rest) pos) tB') : PW X (.BoolOp .Or (a :: b :: rest) pos) (tOr tA tB') := by
  intro wh pins s σ H Q I h
  refine isTrue_or (thn (ha pins s σ H _ I h) fun c s1 ⟨H1, I1, q1⟩ => ?_)
  cases c with
  | true => exact ⟨H1, I1, q1⟩
  | false => exact hb wh pins s1 σ H1 Q I1 q1
theorem pt_not (ha : PT X a tA) : PT X (.UnaryOp .Not a pos) (tNot tA) := by
  intro pins s σ H Q I h
  exact isTrue_not (ha pins s σ H (fun c H1 => Q (!c) H1) I h)
/-- .. as values (bools) -/
inductive TAndVI (tb : TE) (σ : L2.St) (x : V) (H1 : Hp) (Q : VK) : Prop where
  | mk (c : _) (c1 : x = .bl c) (c2 : if c = true then tb σ H1 Q else Q (.bl false) H1)
def tAndV (ta tb : TE) : TE := fun σ H Q => ta σ H fun x H1 => TAndVI tb σ x H1 Q
inductive TNotVI (x : V) (H1 : Hp) (Q : VK) : Prop where
  | mk (c : _) (c1 : x = .bl c) (c2 : Q (.bl (!c)) H1)
def tNotV (ta : TE) : TE := fun σ H Q => ta σ H fun x H1 => TNotVI x H1 Q
theorem pe_one {op} {t : TE} (h : PE X a t) : PE X (.BoolOp op [a] pos) t := fun pins s σ H Q I hw => BoolOp_one (h pins s σ H Q I hw)
theorem pe_and (ha : PE X a ta) (hb : PE X (.BoolOp .And (b :: rest) pos) tb) : PE X (.BoolOp .And (a :: b :: rest) pos) (tAndV ta tb) := by
  intro pins s σ H Q I h
  refine BoolOp_and (thn (ha pins s σ H _ I h) fun v s1 ⟨x, H1, I1, r1, q1⟩ => ?_)
  obtain ⟨c, rfl, q1⟩ := q1
  cases r1
  refine wpAny_truthy_bool ?_
  cases c with
  | true => exact hb pins s1 σ H1 Q I1 q1
  | false => exact ⟨.bl false, H1, I1, rfl, q1⟩
theorem pe_not (ha : PE X a ta) : PE X (.UnaryOp .Not a pos) (tNotV ta) := by
  intro pins s σ H Q I h
  refine UnaryOp_ (thn (ha pins s σ H _ I h) fun v s1 ⟨x, H1, I1, r1, q1⟩ => ?_)
  obtain ⟨c, rfl, q1⟩ := q1
  cases r1
  exact not_of (wpAny_truthy_bool ⟨.bl (!c), H1, I1, rfl, q1⟩)
end
end L2

namespace L2
open PySem PySem.Spec PyProof.Rows

/-! ### a list, a tuple that is read: tracked, frozen, or an object of the module -/
def SqL (K : PySem.W.Frag) (H : Hp) (a : Addr) (xs : List V) : Prop :=
  Rd H a (.lst xs) ∨
    ∃ (o : Obj) (its : Array Value) (n : Nat), K.lookup a = some o ∧ o.cls = .type "list" ∧ o.dict = none ∧ o.data = .seq its n ∧ its.size ≤ sizeLine ∧ Vals xs its.toList
def SqT (K : PySem.W.Frag) (H : Hp) (a : Addr) (xs : List V) : Prop :=
  Rd H a (.tup xs) ∨
    ∃ (o : Obj) (its : Array Value) (n : Nat), K.lookup a = some o ∧ o.cls = .type "tuple" ∧ o.data = .seq its n ∧ its.size ≤ sizeLine ∧ Vals xs its.toList
def absV : Value → Option V
  | .none => some .non
  | .bool b => some (.bl b)
  | .int i _ => some (.int i)
  | .str x _ => some (.str x)
  | .bytes b _ => some (.byt b)
  | .float b _ => some (.flt b)
  | .ref a => some (.ref a)
  | .type n => some (.ty n)
  | _ => none
theorem RelV.abs {x : V} {u : Value} (r : RelV x u) : absV u = some x := by
  cases x with
  | non => cases r; rfl
  | bl _ => cases r; rfl
  | int _ => obtain ⟨t, rfl⟩ := r; rfl
  | str _ => obtain ⟨t, rfl⟩ := r; rfl
  | byt _ => obtain ⟨t, rfl⟩ := r; rfl
  | flt _ => obtain ⟨t, rfl⟩ := r; rfl
  | ref _ => cases r; rfl
  | ty _ => cases r; rfl
theorem RelV.inj {x y : V} {u : Value} (r : RelV x u) (q : RelV y u) : x = y := Option.some.inj (r.abs.symm.trans q.abs)
theorem Vals.inj : ∀ {xs ys : List V} {us : List Value}, Vals xs us → Vals ys us → xs = ys
  | _, _, _, .nil, .nil => rfl
  | _, _, _, .cons r t, .cons r' t' => by rw [r.inj r', Vals.inj t t']
section
variable {X : Cx} {pins : List (Addr × Obj)} {σ : St} {H : Hp} {s : Shared} {a : Addr} {xs ys : List V}
theorem SqL.of {K : PySem.W.Frag} (h : H a = some (.lst xs)) : SqL K H a xs := .inl (.inl h)
theorem SqT.of {K : PySem.W.Frag} (h : H a = some (.tup xs)) : SqT K H a xs := .inl (.inl h)
theorem Inv.list (I : Inv X pins σ H s) (h : SqL X.K H a xs) : ∃ its : List Value, Vals xs its ∧ PlainL s.heap a its.toArray ∧ xs.length ≤ sizeLine := by
  rcases h with h | ⟨o, its, n, hk, hc, hd, hs, hz, r⟩
  · obtain ⟨z, its, n, r, e⟩ := h.ok I.hok
    exact ⟨its, r, ⟨_, n, e, rfl, rfl, rfl⟩, z⟩
  · refine ⟨its.toList, r, ⟨o, n, I.kIn a o hk, hc, hd, by simpa using hs⟩, ?_⟩
    have e := r.length
    simp only [Array.length_toList] at e
    omega
theorem Inv.tuple (I : Inv X pins σ H s) (h : SqT X.K H a xs) : ∃ its : List Value, Vals xs its ∧ IsTup s.heap a its.toArray ∧ xs.length ≤ sizeLine := by
  rcases h with h | ⟨o, its, n, hk, hc, hs, hz, r⟩
  · obtain ⟨z, its, r, p⟩ := h.ok I.hok
    exact ⟨its, r, p, z⟩
  · refine ⟨its.toList, r, ⟨o, I.kIn a o hk, hc, n, by simpa using hs⟩, ?_⟩
    have e := r.length
    simp only [Array.length_toList] at e
    omega
theorem Inv.list_inj (I : Inv X pins σ H s) (h : SqL X.K H a xs) (h' : SqL X.K H a ys) : xs = ys := by
  obtain ⟨its, r, ⟨o, n, e, _, _, d⟩, _⟩ := I.list h
  obtain ⟨its', r', ⟨o', n', e', _, _, d'⟩, _⟩ := I.list h'
  rw [e] at e'; cases e'
  rw [d] at d'
  injection d' with d1 _
  have : its = its' := by simpa using congrArg Array.toList d1
  subst this
  exact r.inj r'
end

/-! ### another wish about exceptions -/
abbrev Cx.wish (X : Cx) (E : Value → Shared → Prop) : Cx := { X with xe := E }
/-- no exception leaves -/
abbrev Cx.nox (X : Cx) : Cx := X.wish fun _ _ => False
theorem Cx.Ok.wish {X : Cx} (ok : X.Ok) (E : Value → Shared → Prop) : (X.wish E).Ok :=
  ⟨ok.mod, ok.kind, ok.glob, ok.blt, ok.above, ok.inj, ok.has, ok.cab, ok.hd, ok.frames, ok.stk, ok.exf, ok.bs, ok.bsz, ok.noex, ok.exfs, ok.funs, ok.frf⟩
theorem Cx.Ok.unwish {X : Cx} {E : Value → Shared → Prop} (ok : (X.wish E).Ok) : X.Ok :=
  ⟨ok.mod, ok.kind, ok.glob, ok.blt, ok.above, ok.inj, ok.has, ok.cab, ok.hd, ok.frames, ok.stk, ok.exf, ok.bs, ok.bsz, ok.noex, ok.exfs, ok.funs, ok.frf⟩
section
variable {X : Cx} {pins : List (Addr × Obj)} {σ : St} {H : Hp} {s : Shared} {E : Value → Shared → Prop}
theorem Inv.wish (I : Inv X pins σ H s) (E : Value → Shared → Prop) : Inv (X.wish E) pins σ H s := ⟨I.ok.wish E, I.os, I.bare, I.base, I.loc, I.cell, I.free, I.freeC, I.pin, I.hok, I.len⟩
theorem Inv.unwish (I : Inv (X.wish E) pins σ H s) : Inv X pins σ H s := ⟨I.ok.unwish, I.os, I.bare, I.base, I.loc, I.cell, I.free, I.freeC, I.pin, I.hok, I.len⟩
theorem SP.unwish {D : Ends} {f : Flow} {s' : Shared} (h : SP (X.wish E) pins D f s') : SP X pins D f s' := by
  cases f with
  | next => obtain ⟨σ', H', I, q⟩ := h; exact ⟨σ', H', I.unwish, q⟩
  | brk => obtain ⟨σ', H', I, q⟩ := h; exact ⟨σ', H', I.unwish, q⟩
  | cont => obtain ⟨σ', H', I, q⟩ := h; exact ⟨σ', H', I.unwish, q⟩
  | ret u => obtain ⟨v, σ', H', I, r, q⟩ := h; exact ⟨v, σ', H', I.unwish, r, q⟩
theorem PE.nox {e : Expr} {t : TE} (h : PE X.nox e t) : PE X e t := fun pins s σ H Q I hw =>
  wpAny_mono (h pins s σ H Q (I.wish _) hw) (fun _ _ ⟨v, H', I', r, q⟩ => ⟨v, H', I'.unwish, r, q⟩) fun _ _ z => False.elim z
theorem PT.nox {e : Expr} {t : TT} (h : PT X.nox e t) : PT X e t := fun pins s σ H Q I hw =>
  wpAny_mono (h pins s σ H Q (I.wish _) hw) (fun _ _ ⟨H', I', q⟩ => ⟨H', I'.unwish, q⟩) fun _ _ z => False.elim z
theorem PSs.nox {st : List Stmt} {t : TS} (h : PSs X.nox st t) : PSs X st t := fun pins s σ H D I hw =>
  wpAny_mono (h pins s σ H D (I.wish _) hw) (fun _ _ q => q.unwish) fun _ _ z => False.elim z
end

/-! ### blocks and small statements -/
section
variable {X : Cx} {st : Stmt} {rest : List Stmt} {t u : TS} {e : Expr} {te : TE} {pos : Pos}
def tNext : TS := fun D σ H => D.nx σ H
def tSeq (t u : TS) : TS := fun D σ H => t { D with nx := u D } σ H
theorem pss_nil : PSs X [] tNext := fun _ _ σ H _ I h => wpAny_execs_nil ⟨σ, H, I, h⟩
theorem pss_cons (h1 : PS X st t) (h2 : PSs X rest u) : PSs X (st :: rest) (tSeq t u) := by
  intro pins s σ H D I h
  refine wpAny_execs_cons (thn (h1 pins s σ H { D with nx := u D } I h) fun f s1 q => ?_)
  cases f with
  | next =>
    obtain ⟨σ', H', I', q⟩ := q
    exact h2 pins s1 σ' H' D I' q
  | ret v => exact q
  | brk => exact q
  | cont => exact q
theorem pss_one (h1 : PS X st t) : PSs X [st] t := by
  intro pins s σ H D I h
  refine wpAny_execs_cons (thn (h1 pins s σ H D I h) fun f s1 q => ?_)
  cases f with
  | next => exact wpAny_execs_nil q
  | ret v => exact q
  | brk => exact q
  | cont => exact q
/-- in a def's body nothing is shown -/
theorem Inv.quiet {pins : List (Addr × Obj)} {σ : St} {H : Hp} {s : Shared} (I : Inv X pins σ H s) : interactive X.env = false := by simp [interactive, I.ok.kind]
/-- an expression whose value is dropped -/
def tDrop (te : TE) : TS := fun D σ H => te σ H fun _ H1 => D.nx σ H1
theorem ps_expr (he : PE X e te) (hs : swapsWith e none pos.line X.env = pure false := by rfl) : PS X (.Expr e pos) (tDrop te) := by
  intro pins s σ H D I h
  exact wpAny_Expr_any (thn (he pins s σ H _ I h) fun v s1 ⟨x, H1, I1, r1, q1⟩ => ⟨σ, H1, I1, q1⟩) I.quiet hs
def tRet (te : TE) : TS := fun D σ H => te σ H D.rt
theorem ps_ret (he : PE X e te) : PS X (.Return (some e) pos) (tRet te) := by
  intro pins s σ H D I h
  exact wpAny_Return_some (thn (he pins s σ H _ I h) fun v s1 ⟨x, H1, I1, r1, q1⟩ => ⟨x, σ, H1, I1, r1, q1⟩)
def tIfS (c : TT) (t u : TS) : TS := fun D σ H => c σ H fun b H1 => if b = true then t D σ H1 else u D σ H1
theorem ps_if {c : Expr} {a b : List Stmt} {tc : TT} (hc : PT X c tc) (ha : PSs X a t) (hb : PSs X b u) : PS X (.If c a b pos) (tIfS tc t u) := by
  intro pins s σ H D I h
  refine wpAny_If (thn (hc pins s σ H _ I h) fun d s1 ⟨H1, I1, q1⟩ => ?_)
  cases d with
  | true => exact ha pins s1 σ H1 D I1 q1
  | false => exact hb pins s1 σ H1 D I1 q1
/-- code that the proof never comes to -/
def tNever : TS := fun _ _ _ => False
theorem ps_never : PS X st tNever := fun _ _ _ _ _ _ h => h.elim
end

/-! ### targets -/
abbrev TG := V → St → Hp → (St → Hp → Prop) → Prop
abbrev TGs := List V → St → Hp → (St → Hp → Prop) → Prop
def PG (X : Cx) (target : Expr) (t : TG) : Prop :=
  ∀ (pins : List (Addr × Obj)) (s : Shared) (σ : St) (H : Hp) (v : V) (u : Value) (Q : St → Hp → Prop), Inv X pins σ H s → RelV v u → t v σ H Q →
    wpAny (model X.prog X.w) X.A (assign target X.env u) (fun _ s' => ∃ σ' H', Inv X pins σ' H' s' ∧ Q σ' H') X.xe s
/-- several targets, one after another -/
def PGs (X : Cx) (ts : List Expr) (t : TGs) : Prop :=
  ∀ (pins : List (Addr × Obj)) (s : Shared) (σ : St) (H : Hp) (vs : List V) (us : List Value) (Q : St → Hp → Prop), Inv X pins σ H s → Vals vs us → t vs σ H Q →
    wpAny (model X.prog X.w) X.A (assignInOrder ((assignEach ts X.env).map (·.2)) us) (fun _ s' => ∃ σ' H', Inv X pins σ' H' s' ∧ Q σ' H') X.xe s
section
variable {X : Cx} {pos : Pos}
def gName (i : Nat) : TG := fun v σ H Q => Q (σ.set i (some v)) H
theorem pg_name {i : Nat} {x : Str} (hN : X.N.Nodup) (hi : X.N[i]? = some x) (hx : Loc X.env.scope x) (hf : X.fn x = true ∨ X.env.scope.names.lookup x = some .local := by first | exact .inl rfl | exact .inr rfl | assumption) : PG X (.Name x pos) (gName i) := by
  intro pins s σ H v u Q I r h
  exact wpAny_assign_Name (store_ok I hN hi hx r (fun s' I' => ⟨_, H, I', h⟩) hf)
def gNil : TGs := fun vs σ H Q => vs = [] ∧ Q σ H
def gCons (t : TG) (u : TGs) : TGs := fun vs σ H Q => ∃ v r, vs = v :: r ∧ t v σ H fun σ' H' => u r σ' H' Q
theorem pgs_nil : PGs X [] gNil := by
  intro pins s σ H vs us Q I r h
  obtain ⟨e, h⟩ := h
  subst e
  cases r
  exact assignInOrder_nil ⟨σ, H, I, h⟩
theorem pgs_cons {e : Expr} {es : List Expr} {t : TG} {u : TGs} (h1 : PG X e t) (h2 : PGs X es u)
    (hs : (assignEach (e :: es) X.env).map (·.2) = assign e X.env :: (assignEach es X.env).map (·.2) := by rfl) : PGs X (e :: es) (gCons t u) := by
  intro pins s σ H vs us Q I r h
  obtain ⟨v, vr, e1, h⟩ := h
  subst e1
  cases r with
  | cons r rr =>
    rw [hs]
    refine assignInOrder_cons (thn (h1 pins s σ H _ _ _ I r h) fun _ s1 ⟨σ1, H1, I1, q1⟩ => ?_)
    exact h2 pins s1 σ1 H1 _ _ Q I1 rr q1
/-- (a, b, ..) = a tuple of that length -/
def gTup (K : PySem.W.Frag) (n : Nat) (t : TGs) : TG := fun v σ H Q => ∃ a xs, v = .ref a ∧ SqT K H a xs ∧ xs.length = n ∧ t xs σ H Q
theorem pg_tup {es : List Expr} {k : Nat} {t : TGs} {n : Nat} (hc : X.calm = true) (h : PGs X es t)
    (hn : (assignEach es X.env).length = n := by rfl) (hst : (assignEach es X.env).findIdx? (·.1) = none := by rfl) : PG X (.Tuple es k pos) (gTup X.K n t) := by
  intro pins s σ H v u Q I r hw
  obtain ⟨a, xs, e1, hq, hl, hw⟩ := hw
  subst e1
  cases r
  obtain ⟨its, rv, ht, hz⟩ := I.tuple hq
  refine assign_Tuple_tuple (I.ok.hd hc) ht (by simp [hn, ← hl, rv.length]) hst fun h' hx => ?_
  have I1 : Inv X pins σ H { s with heap := h' } := I.kept (t' := s.toks) fun b o e => hx b o (Nat.ne_of_lt (Heap.lt_size e)) e
  exact h pins _ σ H xs _ Q I1 (by simpa using rv) hw
/-- target = value -/
def tAsg (te : TE) (g : TG) : TS := fun D σ H => te σ H fun x H1 => g x σ H1 D.nx
theorem ps_asg {tg e : Expr} {te : TE} {g : TG} (he : PE X e te) (hg : PG X tg g) (hs : swapsWithSole [tg] e pos.line X.env = pure false := by rfl) (hw : swappedStores [tg] e X.env = pure none := by rfl)
    (h1 : (assignEach [tg] X.env).map (·.2) = [assign tg X.env] := by rfl) : PS X (.Assign [tg] e pos) (tAsg te g) := by
  intro pins s σ H D I h
  refine wpAny_Assign_stores (thn (he pins s σ H _ I h) fun v s1 ⟨x, H1, I1, r1, q1⟩ => ?_) hs hw
  rw [h1]
  exact thn (hg pins s1 σ H1 x v _ I1 r1 q1) fun _ s2 q => q
/-- name = value -/
theorem ps_set {i : Nat} {x : Str} {e : Expr} {te : TE} {pos' : Pos} (hN : X.N.Nodup) (hi : X.N[i]? = some x) (hx : Loc X.env.scope x) (he : PE X e te) (hs : swapsWith e (some (.Name x pos')) pos.line X.env = pure false := by rfl) (hf : X.fn x = true ∨ X.env.scope.names.lookup x = some .local := by first | exact .inl rfl | exact .inr rfl | assumption) :
    PS X (.Assign [.Name x pos'] e pos) (tAsg te (gName i)) := by
  intro pins s σ H D I h
  refine wpAny_Assign_Name (thn (he pins s σ H _ I h) fun v s1 ⟨y, H1, I1, r1, q1⟩ => ?_) hs
  exact store_ok I1 hN hi hx r1 (fun s2 I2 => ⟨_, H1, I2, q1⟩) hf
end

/-! ### while -/
section
variable {X : Cx} {pos : Pos}
/-- the invariant W with its measure -/
inductive GoI (tb : TS) (D : Ends) (W : Nat → St → Hp → Prop) (m : Nat) (σ : St) (H : Hp) : Prop where
  | mk (N : St → Hp → Prop) (c1 : ∀ σ' H', N σ' H' → ∃ m', m' < m ∧ W m' σ' H') (c2 : tb { D with nx := N, ct := N, bk := D.nx } σ H)
inductive TWhileI (c : TT) (tb : TS) (D : Ends) (σ : L2.St) (H : Hp) : Prop where
  | mk (W : Nat → St → Hp → Prop) (c1 : (∃ m, W m σ H)) (c2 : ∀ m σ H, W m σ H →
  c σ H fun b H1 => if b = true then GoI tb D W m σ H1 else D.nx σ H1)
def tWhile (c : TT) (tb : TS) : TS := fun D σ H => TWhileI c tb D σ H
theorem ps_while {c : Expr} {body : List Stmt} {tc : TT} {tb : TS} (hp : PassesOwn (model X.prog X.w) X.A X.env X.xe) (hc : PT X c tc) (hb : PSs X body tb) : PS X (.While c body [] pos) (tWhile tc tb) := by
  intro pins s σ H D I h
  obtain ⟨W, ⟨m0, w0⟩, turn⟩ := h
  refine wpAny_While (codeAny_whileLoop (fun n s' => ∃ σ' H', Inv X pins σ' H' s' ∧ W n σ' H') ?_ m0 ⟨σ, H, I, w0⟩)
  rintro n s1 ⟨σ1, H1, I1, w1⟩
  refine wpAny_passesOwn hp (thn (hc pins s1 σ1 H1 _ I1 (turn n σ1 H1 w1)) fun b s2 ⟨H2, I2, q2⟩ => ?_)
  cases b with
  | true =>
    obtain ⟨N, hN, q2⟩ := q2
    rw [if_pos rfl]
    refine wpAny_passesOwn hp (thn (hb pins s2 σ1 H2 _ I2 q2) fun f s3 q3 => ?_)
    cases f with
    | next =>
      obtain ⟨σ3, H3, I3, n3⟩ := q3
      obtain ⟨m', hm, w3⟩ := hN σ3 H3 n3
      exact ⟨m', hm, σ3, H3, I3, w3⟩
    | cont =>
      obtain ⟨σ3, H3, I3, n3⟩ := q3
      obtain ⟨m', hm, w3⟩ := hN σ3 H3 n3
      exact ⟨m', hm, σ3, H3, I3, w3⟩
    | brk => exact q3
    | ret v => exact q3
  | false =>
    rw [if_neg Bool.false_ne_true]
    exact wpAny_execs_nil ⟨σ1, H2, I2, q2⟩
end

/-! ### what a loop or a comprehension walks -/
/-- at turn i: it yields x (the heap may grow), or it stops -/
structure It where
  go : Nat → Hp → Prop
  yld : Nat → Hp → V → Hp → Prop
  stop : Nat → Hp → Prop
/-- the iterator's own objects may turn: they are not the frame's, not pinned, younger than the entry (or a comprehension's own) -/
def FpOk (X : Cx) (pins : List (Addr × Obj)) (H : Hp) (b : Addr) : Prop :=
  H b = none ∧ b ≠ X.env.locals ∧ b ∉ X.fs ∧ (b ∈ X.ex ∨ X.s₀.heap.objs.size ≤ b) ∧ (∀ x c, X.env.cells.lookup x = some c → c ≠ b) ∧ ∀ p ∈ X.pn ++ pins, p.1 ≠ b
theorem Inv.fpOk {X : Cx} {pins : List (Addr × Obj)} {σ : St} {H H' : Hp} {s : Shared} {b : Addr} (I : Inv X pins σ H s) (hb : s.heap.objs.size ≤ b) (hn : H' b = none) : FpOk X pins H' b := by
  refine ⟨hn, Nat.ne_of_gt (Nat.lt_of_lt_of_le I.lt hb), I.nofs hb, .inr (Nat.le_trans I.sz hb), fun x c e z => ?_, fun p hp z => ?_⟩
  · obtain ⟨v, q⟩ := I.cell x c e
    exact absurd (Nat.lt_of_lt_of_le q.lt (by rw [z]; exact hb)) (Nat.lt_irrefl _)
  · exact absurd (Nat.lt_of_lt_of_le (Heap.lt_size (I.pin p hp).1) (by rw [z]; exact hb)) (Nat.lt_irrefl _)
structure Turn (P : Program) (w : World) (K : PySem.W.Frag) (tg : Expr) (J : It) (fp : List Addr) (it : Addr) (tn : Nat → Heap → Prop) : Prop where
  mem : it ∈ fp
  obj : ∀ i h, tn i h → ∀ b ∈ fp, ∃ o, h.get? b = some o ∧ ∀ v, o.data ≠ .cell v
  keep : ∀ i h h', tn i h → (∀ b ∈ fp, ∀ o, h.get? b = some o → h'.get? b = some o) → tn i h'
  item : ∀ (X : Cx), X.prog = P → X.w = w → X.K = K → X.calm = true → ∀ (i : Nat) (pins : List (Addr × Obj)) (s : Shared) (σ : St) (H : Hp) (E : Value → Shared → Prop), Inv X pins σ H s → (∀ b ∈ fp, FpOk X pins H b) → tn i s.heap → J.go i H →
    wpAny (model P w) X.A (pyNext (.ref it)) (fun r s1 => ∃ u, r = some u ∧
      wpAny (model P w) X.A (letOwnedTupleGo tg (.ref it) u) (fun _ s2 => ∃ x H', Inv X pins σ H' s2 ∧ RelV x u ∧ J.yld i H x H' ∧ tn (i + 1) s2.heap ∧ ∀ b ∈ fp, H' b = none) E s1) E s
  done : ∀ (X : Cx), X.prog = P → X.w = w → X.K = K → X.calm = true → ∀ (i : Nat) (pins : List (Addr × Obj)) (s : Shared) (σ : St) (H : Hp) (E : Value → Shared → Prop), Inv X pins σ H s → (∀ b ∈ fp, FpOk X pins H b) → tn i s.heap → J.stop i H →
    wpAny (model P w) X.A (pyNext (.ref it)) (fun r s1 => r = none ∧ Inv X pins σ H s1) E s
  self : ∀ (A : Around) (i : Nat) (s : Shared) (Q : Value → Shared → Prop) (E : Value → Shared → Prop), tn i s.heap → Q (.ref it) s → wpAny (model P w) A (pyIter (.ref it)) Q E s
abbrev TI := St → Hp → (It → Hp → Prop) → Prop
/-- an iterator has come -/
def PIE (X : Cx) (pins : List (Addr × Obj)) (σ : St) (tg : Expr) (R : It → Hp → Prop) (itv : Value) (s2 : Shared) : Prop :=
  ∃ (it : Addr) (fp : List Addr) (tn : Nat → Heap → Prop) (J : It) (H' : Hp), itv = .ref it ∧ Inv X pins σ H' s2 ∧ Turn X.prog X.w X.K tg J fp it tn ∧ tn 0 s2.heap ∧ (∀ b ∈ fp, FpOk X pins H' b) ∧ R J H'
def PI (X : Cx) (tg iter : Expr) (wi : TI) : Prop :=
  ∀ (pins : List (Addr × Obj)) (s : Shared) (σ : St) (H : Hp) (R : It → Hp → Prop), Inv X pins σ H s → wi σ H R →
    wpAny (model X.prog X.w) X.A (eval iter X.env) (fun v s1 => wpAny (model X.prog X.w) X.A (pyIter v) (PIE X pins σ tg R) X.xe s1) X.xe s

/-- the step ahead of the store is nothing for an iterator that keeps no tuple -/
theorem go_of {M : Model} {A : Around} {E : Value → Shared → Prop} {s : Shared} {tg : Expr} {it : Addr} {u : Value} {o : Obj} {n : String} {vs : Array Value} {Q : Unit → Shared → Prop} (ho : s.heap.get? it = some o) (hc : o.cls = .type n) (hd : o.data = .fields vs)
    (hn : ["enumerate", "zip", "dict_itemiterator", "dict_reverseitemiterator", "odict_iterator", "itertools.zip_longest", "itertools.pairwise"].contains n = false) (hQ : Q () s) : wpAny M A (letOwnedTupleGo tg (.ref it) u) Q E s := by
  unfold letOwnedTupleGo
  cases tg <;> first
    | exact wpAny_pure hQ
    | (cases u <;> first
        | exact wpAny_pure hQ
        | (refine wpAny_bind (wpAny_load ho ?_)
           rw [hc, hd]
           show wpAny M A (if (["enumerate", "zip", "dict_itemiterator", "dict_reverseitemiterator", "odict_iterator", "itertools.zip_longest", "itertools.pairwise"].contains n && vs[0]? == some (rawInt _)) = true then _ else _) Q E s
           rw [if_neg (by intro h; rw [hn, Bool.false_and] at h; cases h)]
           exact wpAny_pure hQ))

/-- the list at a, as it stands at each turn (a loop may append to it) -/
def Itl (K : PySem.W.Frag) (a : Addr) : It :=
  ⟨fun i H => ∃ xs x, SqL K H a xs ∧ xs[i]? = some x, fun i H x H' => H' = H ∧ ∀ xs, SqL K H a xs → xs[i]? = some x, fun i H => ∃ xs, SqL K H a xs ∧ xs.length ≤ i⟩
/-- lo, lo + 1, .. (n of them) -/
def Itr (lo : Int) (n : Nat) : It := ⟨fun i _ => i < n, fun i H x H' => H' = H ∧ x = .int (lo + i), fun i _ => n ≤ i⟩
theorem turn_list {P : Program} {w : World} {K : PySem.W.Frag} {tg : Expr} (a it : Addr) : Turn P w K tg (Itl K a) [it] it (fun i h => h.IsListIter it a i) where
  mem := by simp
  obj := fun i h st b hb => by
    have e : b = it := by simpa using hb
    subst e
    obtain ⟨o, e, c, d⟩ := st
    exact ⟨o, e, fun v z => by rw [d] at z; cases z⟩
  keep := fun i h h' st k => st.at fun o e => k it (by simp) o e
  item := by
    intro X hP hw hK hc i pins s σ H E I hf st hg
    subst hP hw hK
    obtain ⟨xs, x, hq, hx⟩ := hg
    obtain ⟨its, rv, p, hz⟩ := I.list hq
    obtain ⟨u, hu, ru⟩ := rv.get hx
    obtain ⟨f0, f1, f2, f3, f4, f5⟩ := hf it (by simp)
    refine wpAny_pyNext_list_item st p.isList (x := u) (by simpa using hu) fun h' st' sb => ?_
    have I1 : Inv X pins σ H { s with heap := h' } := I.turned (t' := s.toks) (fun b o hb e => (sb.2 b hb).trans e) f0 f1 f3 f4 f5
    obtain ⟨o, e, c, d⟩ := id st'
    exact ⟨u, rfl, go_of (s := { s with heap := h' }) e c d (by decide) ⟨x, H, I1, ru, ⟨rfl, fun ys hy => by rw [I.list_inj hy hq]; exact hx⟩, st', fun b hb => (hf b hb).1⟩⟩
  done := by
    intro X hP hw hK hc i pins s σ H E I hf st hg
    subst hP hw hK
    obtain ⟨xs, hq, hx⟩ := hg
    obtain ⟨its, rv, p, hz⟩ := I.list hq
    obtain ⟨f0, f1, f2, f3, f4, f5⟩ := hf it (by simp)
    have hl := rv.length
    exact wpAny_pyNext_list_end (I.ok.hd hc) st p.isList (by simp; omega) fun h' eb => ⟨rfl, I.turned (t' := s.toks) (fun b o hb e => eb b o hb e) f0 f1 f3 f4 f5⟩
  self := fun _ _ _ _ _ st h => wpAny_pyIter_listiter st h
theorem turn_range {P : Program} {w : World} {K : PySem.W.Frag} {tg : Expr} (it : Addr) (lo : Int) (n : Nat) : Turn P w K tg (Itr lo n) [it] it (fun i h => IsRangeIter h it (lo + (i : Nat) * 1) ((n : Int) - (i : Nat)) 1) where
  mem := by simp
  obj := fun i h st b hb => by
    have e : b = it := by simpa using hb
    subst e
    exact ⟨_, st, fun v z => by
      have z' : Data.fields _ = Data.cell v := z
      cases z'⟩
  keep := fun i h h' st k => k it (by simp) _ st
  item := by
    intro X hP hw hK hc i pins s σ H E I hf st hg
    subst hP hw hK
    obtain ⟨f0, f1, f2, f3, f4, f5⟩ := hf it (by simp)
    have W := Walks.range (prog := X.prog) (w := X.w) (I.ok.hd hc) it lo 1 n
    refine W.item i s _ _ hg st fun v h' tk hv st' kk => ?_
    obtain ⟨t, rfl⟩ := hv
    have I1 : Inv X pins σ H { s with heap := h', toks := tk } := I.turned (fun b o hb e => kk b o (by simpa using hb) e) f0 f1 f3 f4 f5
    refine ⟨_, rfl, go_of (s := { s with heap := h', toks := tk }) (n := "range_iterator") st' rfl rfl (by decide) ⟨.int (lo + i), H, I1, ⟨t, ?_⟩, ⟨rfl, rfl⟩, st', fun b hb => (hf b hb).1⟩⟩
    rw [Int.mul_one]
  done := by
    intro X hP hw hK hc i pins s σ H E I hf st hg
    subst hP hw hK
    obtain ⟨f0, f1, f2, f3, f4, f5⟩ := hf it (by simp)
    exact wpAny_pyNext_range_end (I.ok.hd hc) st (by have : n ≤ i := hg; omega) fun h' eb => ⟨rfl, I.turned (t' := s.toks) (fun b o hb e => eb b o hb e) f0 f1 f3 f4 f5⟩
  self := fun _ _ _ _ _ st h => wpAny_pyIter_rangeiter st h
end L2

namespace L2
open PySem PySem.Spec PyProof.Rows
section
variable {X : Cx} {tg : Expr}
/-- a range object just made, walked -/
theorem range_it {pins : List (Addr × Obj)} {σ : St} {H : Hp} {s : Shared} {R : It → Hp → Prop} {E : Value → Shared → Prop} {lo hi : Int} {t u v : Tok} {tk : Nat} (I : Inv X pins σ H s) (h1 : -(2 ^ 62) ≤ lo) (h2 : lo < 2 ^ 62) (h3 : -(2 ^ 62) ≤ hi) (h4 : hi < 2 ^ 62)
    (q : R (Itr lo (hi - lo).toNat) H) : wpAny (model X.prog X.w) X.A (pyIter (.ref s.heap.objs.size)) (PIE X pins σ tg R) E { s with heap := s.heap.push { cls := .type "range", data := .fields #[.int lo t, .int hi u, .int 1 v] }, toks := tk } := by
  refine wpAny_pyIter_range (IsRange.new ..) (small_one h1 h2 h3 h4) ?_
  have I1 : Inv X pins σ H { s with heap := s.heap.push { cls := .type "range", data := .fields #[.int lo t, .int hi u, .int 1 v] }, toks := tk } := I.kept fun b o e => Heap.get?_push_of_some _ e
  refine ⟨(s.heap.push { cls := .type "range", data := .fields #[.int lo t, .int hi u, .int 1 v] }).objs.size, [(s.heap.push { cls := .type "range", data := .fields #[.int lo t, .int hi u, .int 1 v] }).objs.size], _, _, H, rfl,
    I1.kept (t' := tk) fun b o e => Heap.get?_push_of_some _ e, turn_range _ lo (hi - lo).toNat, ?_, fun b hb => ?_, q⟩
  · have e1 : lo + ((0 : Nat) : Int) * 1 = lo := by simp
    have e2 : (((hi - lo).toNat : Nat) : Int) - ((0 : Nat) : Int) = Builtin.Range.rangeSize lo hi 1 := by rw [rangeSize_one]; split <;> omega
    show IsRangeIter _ _ (lo + ((0 : Nat) : Int) * 1) ((((hi - lo).toNat : Nat) : Int) - ((0 : Nat) : Int)) 1
    rw [e1, e2]
    exact Heap.get?_push_size _ rfl
  · have e : b = (s.heap.push { cls := .type "range", data := .fields #[.int lo t, .int hi u, .int 1 v] }).objs.size := by simpa using hb
    subst e
    exact I1.fpOk (Nat.le_refl _) (I1.hok.fresh (Nat.le_refl _))
inductive IRng1I (R : It → Hp → Prop) (vs : List V) (H1 : Hp) : Prop where
  | mk (j : Int) (c1 : vs = [.int j]) (c2 : -(2 ^ 62) ≤ j) (c3 : j < 2 ^ 62) (c4 : R (Itr 0 j.toNat) H1)
def iRng1 (ta : TA) : TI := fun σ H R => ta σ H fun vs H1 => IRng1I R vs H1
theorem pi_range1 {a : Expr} {ta : TA} {p pos : Pos} (hg : Gl X "range") (hm : X.mg "range" = none) (ha : PA X [a] ta) (hs : starEach [a] X.env = [(false, eval a X.env)] := by rfl) : PI X tg (.Call (.Name "range" p) [a] [] pos) (iRng1 ta) := by
  intro pins s σ H R I h
  refine Call_ (ld_blt I hg hm boot_range (PyProof.Rows.callWith_type1 (thn (ha pos pins s σ H _ I h) fun us s1 ⟨vs, H1, I1, r1, q1⟩ => ?_) hs rfl))
  obtain ⟨j, e, q1, q2, q⟩ := q1
  subst e
  cases r1 with
  | cons r rr =>
    cases rr
    obtain ⟨t, rfl⟩ := r
    exact call_range_1 (range_it I1 (by omega) (by omega) q1 q2 (by simpa using q))

/-! ### for -/
/-- W: the invariant by the turn and a measure; N: what the body is to reach -/
def tFor (wi : TI) (g : TG) (tb : TS) : TS := fun D σ H => wi σ H fun J H1 => ∃ W : Nat → Nat → St → Hp → Prop, (∃ m, W 0 m σ H1) ∧ ∀ i m σ H, W i m σ H →
  (J.stop i H ∧ D.nx σ H) ∨ (J.go i H ∧ ∃ N : St → Hp → Prop, (∀ σ' H', N σ' H' → ∃ m', m' < m ∧ W (i + 1) m' σ' H') ∧ ∀ x H', J.yld i H x H' → g x σ H' fun σ2 H2 => tb { D with nx := N, ct := N, bk := D.nx } σ2 H2)
/-- the records at fp as they stand -/
def pinsAt (fp : List Addr) (h : Heap) : List (Addr × Obj) := fp.filterMap fun b => (h.get? b).map fun o => (b, o)
theorem mem_pinsAt {fp : List Addr} {h : Heap} {b : Addr} {o : Obj} (hb : b ∈ fp) (e : h.get? b = some o) : (b, o) ∈ pinsAt fp h := List.mem_filterMap.mpr ⟨b, hb, by rw [e]; rfl⟩
theorem of_pinsAt {fp : List Addr} {h : Heap} {p : Addr × Obj} (hp : p ∈ pinsAt fp h) : p.1 ∈ fp ∧ h.get? p.1 = some p.2 := by
  obtain ⟨b, hb, e⟩ := List.mem_filterMap.mp hp
  cases q : h.get? b with
  | none => rw [q] at e; cases e
  | some o =>
    rw [q] at e
    have e' : (b, o) = p := Option.some.inj e
    subst e'
    exact ⟨hb, q⟩
theorem Inv.pinned {pins : List (Addr × Obj)} {σ : St} {H : Hp} {s : Shared} {fp : List Addr} (I : Inv X pins σ H s) (hf : ∀ b ∈ fp, FpOk X pins H b) (ho : ∀ b ∈ fp, ∃ o, s.heap.get? b = some o ∧ ∀ v, o.data ≠ .cell v) : Inv X (pins ++ pinsAt fp s.heap) σ H s :=
  I.pins_of fun p hp => (List.mem_append.mp hp).elim (fun z => I.pin p (List.mem_append_right _ z)) fun z => by
    obtain ⟨hb, e⟩ := of_pinsAt z
    obtain ⟨f0, f1, f2, _⟩ := hf p.1 hb
    obtain ⟨o, e', d⟩ := ho p.1 hb
    rw [e] at e'; cases e'
    exact ⟨e, f0, f1, f2, d⟩
theorem Inv.unpinned {pins pl : List (Addr × Obj)} {σ : St} {H : Hp} {s : Shared} (I : Inv X (pins ++ pl) σ H s) : Inv X pins σ H s := I.pins_of fun p hp => I.pin p (List.mem_append_right _ (List.mem_append_left _ hp))
theorem ps_for {iter : Expr} {body : List Stmt} {wi : TI} {g : TG} {tb : TS} {pos : Pos} (hp : PassesOwn (model X.prog X.w) X.A X.env X.xe) (hc : X.calm = true) (hi : PI X tg iter wi) (hg : PG X tg g) (hb : PSs X body tb)
    (hs : ∀ x, foldedSetIterable iter X.env x = pure x := by intro _; rfl) : PS X (.For tg iter body [] pos) (tFor wi g tb) := by
  intro pins s σ H D I h
  refine wpAny_For (thn (hi pins s σ H _ I h) fun v s1 h1 => thn h1 fun itv s2 h2 => ?_) hs
  obtain ⟨it, fp, tn, J, H2, e, I2, T, st2, f2, W, ⟨m0, w0⟩, turn⟩ := h2
  subst e
  -- what stays true of the iterator's objects through the loop
  have stat : ∀ {H' : Hp}, (∀ b ∈ fp, H' b = none) → ∀ b ∈ fp, FpOk X pins H' b := fun hn b hb => ⟨hn b hb, (f2 b hb).2⟩
  refine codeAny_forLoop_any (fun n s' => ∃ i σ' H', Inv X pins σ' H' s' ∧ tn i s'.heap ∧ (∀ b ∈ fp, H' b = none) ∧ W i n σ' H') ?_ m0 ⟨0, σ, H2, I2, st2, fun b hb => (f2 b hb).1, w0⟩
  rintro n s3 ⟨i, σ3, H3, I3, st3, fr3, w3⟩
  rcases turn i n σ3 H3 w3 with ⟨stop, qn⟩ | ⟨go, N, hN, step⟩
  · refine wpAny_passesOwn hp (thn (T.done X rfl rfl rfl hc i pins s3 σ3 H3 X.xe I3 (stat fr3) st3 stop) fun r s4 ⟨hr, I4⟩ => ?_)
    subst hr
    exact wpAny_execs_nil ⟨σ3, H3, I4, qn⟩
  · refine wpAny_passesOwn hp (thn (T.item X rfl rfl rfl hc i pins s3 σ3 H3 X.xe I3 (stat fr3) st3 go) fun r s4 ⟨u, hr, h4⟩ => ?_)
    subst hr
    refine wpAny_passesOwn hp (thn h4 fun _ s5 ⟨x, H5, I5, r5, y5, st5, fr5⟩ => ?_)
    have I5' := I5.pinned (stat fr5) (T.obj _ _ st5)
    refine wpAny_passesOwn hp (thn (hg _ s5 σ3 H5 x u _ I5' r5 (step x H5 y5)) fun _ s6 ⟨σ6, H6, I6, q6⟩ => ?_)
    refine wpAny_passesOwn hp (thn (hb _ s6 σ6 H6 _ I6 q6) fun f s7 q7 => ?_)
    have again : ∀ {σ7 : St} {H7 : Hp}, Inv X (pins ++ pinsAt fp s5.heap) σ7 H7 s7 → N σ7 H7 → ∃ m, m < n ∧ ∃ i σ' H', Inv X pins σ' H' s7 ∧ tn i s7.heap ∧ (∀ b ∈ fp, H' b = none) ∧ W i m σ' H' := fun {σ7 H7} I7 n7 => by
      obtain ⟨m', hm, w7⟩ := hN σ7 H7 n7
      refine ⟨m', hm, i + 1, σ7, H7, I7.unpinned, T.keep _ _ _ st5 fun b hb o e => (I7.pin (b, o) (List.mem_append_right _ (List.mem_append_right _ (mem_pinsAt hb e)))).1, fun b hb => ?_, w7⟩
      obtain ⟨o, e, d⟩ := T.obj _ _ st5 b hb
      exact (I7.pin (b, o) (List.mem_append_right _ (List.mem_append_right _ (mem_pinsAt hb e)))).2.1
    cases f with
    | next => obtain ⟨σ7, H7, I7, n7⟩ := q7; exact again I7 n7
    | cont => obtain ⟨σ7, H7, I7, n7⟩ := q7; exact again I7 n7
    | brk => obtain ⟨σ7, H7, I7, q7⟩ := q7; exact ⟨σ7, H7, I7.unpinned, q7⟩
    | ret v => obtain ⟨x7, σ7, H7, I7, r7, q7⟩ := q7; exact ⟨x7, σ7, H7, I7.unpinned, r7, q7⟩
end

/-! ### the forms one uses -/
theorem for_range {lo : Int} {n : Nat} {g : TG} {tb : TS} {D : Ends} {σ : St} {H : Hp} (Pv : Nat → St → Hp → Prop) (h0 : Pv 0 σ H)
    (hs : ∀ i σ H, i < n → Pv i σ H → g (.int (lo + i)) σ H fun σ2 H2 => tb { D with nx := Pv (i + 1), ct := Pv (i + 1), bk := D.nx } σ2 H2) (hd : ∀ σ H, Pv n σ H → D.nx σ H) :
    ∃ W : Nat → Nat → St → Hp → Prop, (∃ m, W 0 m σ H) ∧ ∀ i m σ H, W i m σ H →
      ((Itr lo n).stop i H ∧ D.nx σ H) ∨ ((Itr lo n).go i H ∧ ∃ N : St → Hp → Prop, (∀ σ' H', N σ' H' → ∃ m', m' < m ∧ W (i + 1) m' σ' H') ∧ ∀ x H', (Itr lo n).yld i H x H' → g x σ H' fun σ2 H2 => tb { D with nx := N, ct := N, bk := D.nx } σ2 H2) := by
  refine ⟨fun i m σ H => m = n - i ∧ i ≤ n ∧ Pv i σ H, ⟨n, by simp, Nat.zero_le _, h0⟩, ?_⟩
  rintro i m σ H ⟨rfl, hi, p⟩
  by_cases hlt : i < n
  · refine .inr ⟨hlt, Pv (i + 1), fun σ' H' p' => ⟨n - (i + 1), by omega, rfl, hlt, p'⟩, fun x H' y => ?_⟩
    obtain ⟨e, y⟩ := y
    subst e y
    exact hs i σ _ hlt p
  · have e : i = n := by omega
    subst e
    exact .inl ⟨Nat.le_refl _, hd σ H p⟩
end L2

namespace L2
open PySem PySem.Spec PyProof.Rows

abbrev R2 := V → V → Hp → VK → Prop
/-- a two-place operation on values: f is binaryOp op, inplaceOp op or compareOp op -/
def OpR (X : Cx) (f : Value → Value → Sem Value) (r : R2) : Prop :=
  ∀ (pins : List (Addr × Obj)) (s : Shared) (σ : St) (H : Hp) (x y : V) (v u : Value) (Q : VK), Inv X pins σ H s → RelV x v → RelV y u → r x y H Q →
    wpAny (model X.prog X.w) X.A (f v u) (EP X pins σ Q) X.xe s
/-- a one-place operation -/
def UnR (X : Cx) (f : Value → Sem Value) (r : V → Hp → VK → Prop) : Prop :=
  ∀ (pins : List (Addr × Obj)) (s : Shared) (σ : St) (H : Hp) (x : V) (v : Value) (Q : VK), Inv X pins σ H s → RelV x v → r x H Q →
    wpAny (model X.prog X.w) X.A (f v) (EP X pins σ Q) X.xe s
/-- a call of a value that is known (a builtin, a type) with values -/
def CallR (X : Cx) (f : Value) (r : List V → Hp → VK → Prop) : Prop :=
  ∀ (pins : List (Addr × Obj)) (s : Shared) (σ : St) (H : Hp) (xs : List V) (us : List Value) (Q : VK), Inv X pins σ H s → Vals xs us → r xs H Q →
    wpAny (model X.prog X.w) X.A (call f us) (EP X pins σ Q) X.xe s
/-- a value's truth -/
def TruR (X : Cx) (r : V → Hp → (Bool → Hp → Prop) → Prop) : Prop :=
  ∀ (pins : List (Addr × Obj)) (s : Shared) (σ : St) (H : Hp) (x : V) (v : Value) (Q : Bool → Hp → Prop), Inv X pins σ H s → RelV x v → r x H Q →
    wpAny (model X.prog X.w) X.A (truthy v) (TP X pins σ Q) X.xe s

def tOp (r : R2) (ta tb : TE) : TE := fun σ H Q => ta σ H fun x H1 => tb σ H1 fun y H2 => r x y H2 Q
def tUn (r : V → Hp → VK → Prop) (ta : TE) : TE := fun σ H Q => ta σ H fun x H1 => r x H1 Q
/-- ints in, under C, and a value out -/
inductive RII (C : Int → Int → Prop) (g : Int → Int → V) (x : V) (y : V) (H : Hp) (Q : VK) : Prop where
  | mk (i : _) (j : _) (c1 : x = .int i) (c2 : y = .int j) (c3 : C i j) (c4 : Q (g i j) H)
def rI (C : Int → Int → Prop) (g : Int → Int → V) : R2 := fun x y H Q => RII C g x y H Q
inductive RI0I (g : Int → Int → V) (x : V) (y : V) (H : Hp) (Q : VK) : Prop where
  | mk (i : _) (j : _) (c1 : x = .int i) (c2 : y = .int j) (c3 : Q (g i j) H)
def rI0 (g : Int → Int → V) : R2 := fun x y H Q => RI0I g x y H Q
inductive RUI (g : Int → V) (x : V) (H : Hp) (Q : VK) : Prop where
  | mk (i : _) (c1 : x = .int i) (c2 : Q (g i) H)
def rU (g : Int → V) : V → Hp → VK → Prop := fun x H Q => RUI g x H Q

section
variable {X : Cx} {a b c : Expr} {ta tb tc : TE} {pos : Pos}

theorem binT (ha : PE X a ta) (hb : PE X b tb) {pins : List (Addr × Obj)} {s : Shared} {σ : St} {H : Hp} {R : V → V → Hp → Prop} (I : Inv X pins σ H s)
    (h : ta σ H fun x H1 => tb σ H1 fun y H2 => R x y H2) {Q : Value → Shared → Prop} {f : Value → Value → Sem Value}
    (hf : ∀ v u s2 x y H2, Inv X pins σ H2 s2 → RelV x v → RelV y u → R x y H2 → wpAny (model X.prog X.w) X.A (f v u) Q X.xe s2) :
    wpAny (model X.prog X.w) X.A (eval a X.env) (fun v s₁ => wpAny (model X.prog X.w) X.A (eval b X.env) (fun u s₂ => wpAny (model X.prog X.w) X.A (f v u) Q X.xe s₂) X.xe s₁) X.xe s := by
  refine thn (ha pins s σ H _ I h) fun v s1 ⟨x, H1, I1, r1, q1⟩ => ?_
  refine thn (hb pins s1 σ H1 _ I1 q1) fun u s2 ⟨y, H2, I2, r2, q2⟩ => ?_
  exact hf v u s2 x y H2 I2 r1 r2 q2

theorem pe_op {op : Operator} {r : R2} (ho : OpR X (binaryOp op) r) (ha : PE X a ta) (hb : PE X b tb) : PE X (.BinOp a op b pos) (tOp r ta tb) := by
  intro pins s σ H Q I h
  exact wpAny_BinOp (binT ha hb I h fun v u s2 x y H2 I2 rx ry q => ho pins s2 σ H2 x y v u Q I2 rx ry q)
theorem pe_un {op : UnaryOp} {r : V → Hp → VK → Prop} (ho : UnR X (unaryOp op) r) (ha : PE X a ta) : PE X (.UnaryOp op a pos) (tUn r ta) := by
  intro pins s σ H Q I h
  exact UnaryOp_ (thn (ha pins s σ H _ I h) fun v s1 ⟨x, H1, I1, r1, q1⟩ => ho pins s1 σ H1 x v Q I1 r1 q1)

/-! ### ints -/
theorem opI {f : Value → Value → Sem Value} {C : Int → Int → Prop} {g : Int → Int → Int}
    (rule : ∀ (i j : Int) (t u : Tok) (s : Shared) (Q : Value → Shared → Prop) (E : Value → Shared → Prop), C i j → Q (.int (g i j) s.toks) { s with toks := s.toks + 1 } → wpAny (model X.prog X.w) X.A (f (.int i t) (.int j u)) Q E s) :
    OpR X f (rI C fun i j => .int (g i j)) := by
  intro pins s σ H x y v u Q I rx ry h
  obtain ⟨i, j, rfl, rfl, hc, q⟩ := h
  obtain ⟨t, rfl⟩ := rx
  obtain ⟨t', rfl⟩ := ry
  exact rule i j t t' s _ _ hc ⟨.int (g i j), H, I.tok _, ⟨_, rfl⟩, q⟩
theorem opI0 {f : Value → Value → Sem Value} {g : Int → Int → Int}
    (rule : ∀ (i j : Int) (t u : Tok) (s : Shared) (Q : Value → Shared → Prop) (E : Value → Shared → Prop), Q (.int (g i j) s.toks) { s with toks := s.toks + 1 } → wpAny (model X.prog X.w) X.A (f (.int i t) (.int j u)) Q E s) :
    OpR X f (rI0 fun i j => .int (g i j)) := by
  intro pins s σ H x y v u Q I rx ry h
  obtain ⟨i, j, rfl, rfl, q⟩ := h
  obtain ⟨t, rfl⟩ := rx
  obtain ⟨t', rfl⟩ := ry
  exact rule i j t t' s _ _ ⟨.int (g i j), H, I.tok _, ⟨_, rfl⟩, q⟩
theorem opB0 {f : Value → Value → Sem Value} {g : Int → Int → Bool}
    (rule : ∀ (i j : Int) (t u : Tok) (s : Shared) (Q : Value → Shared → Prop) (E : Value → Shared → Prop), Q (.bool (g i j)) s → wpAny (model X.prog X.w) X.A (f (.int i t) (.int j u)) Q E s) :
    OpR X f (rI0 fun i j => .bl (g i j)) := by
  intro pins s σ H x y v u Q I rx ry h
  obtain ⟨i, j, rfl, rfl, q⟩ := h
  obtain ⟨t, rfl⟩ := rx
  obtain ⟨t', rfl⟩ := ry
  exact rule i j t t' s _ _ ⟨.bl (g i j), H, I, rfl, q⟩

def CDiv (i j : Int) : Prop := 0 < j ∧ j < 1073741824
def CPow (i j : Int) : Prop := 0 ≤ j ∧ j ≤ 1000000 ∧ i.natAbs < 2 ^ 64
def CMul (i j : Int) : Prop := (-(2 ^ 64) < i ∧ i < 2 ^ 64) ∨ (-(2 ^ 64) < j ∧ j < 2 ^ 64)
theorem CMul.ok {i j : Int} (h : CMul i j) : IntMulOk i j := by
  rcases h with ⟨h1, h2⟩ | ⟨h1, h2⟩
  · exact .of_left (intBits_le_64 h1 h2)
  · exact .of_right (intBits_le_64 h1 h2)

theorem op_add : OpR X (binaryOp .Add) (rI0 fun i j => .int (i + j)) := opI0 fun _ _ _ _ _ _ _ q => add_int q
theorem op_sub : OpR X (binaryOp .Sub) (rI0 fun i j => .int (i - j)) := opI0 fun _ _ _ _ _ _ _ q => sub_int q
/-- // by a positive divisor -/
theorem op_fdiv : OpR X (binaryOp .FloorDiv) (rI CDiv fun i j => .int (i / j)) := opI fun i j _ _ _ _ _ hc q => by
  have h1 : (0 : Int) < j := hc.1
  have h2 : j < 1073741824 := hc.2
  exact floordiv_int (by omega) (by rw [Int.fdiv_eq_ediv_of_nonneg i (by omega)]; exact q) (.inl (PyProof.noPylong_small (by omega)))
/-- % by a positive divisor of any size -/
theorem op_mod : OpR X (binaryOp .Mod) (rI (fun _ j => 0 < j) fun i j => .int (i % j)) := opI fun i j _ _ _ _ _ hc q => by
  have h1 : (0 : Int) < j := hc
  exact mod_int' (by omega) (by rw [Int.fmod_eq_emod_of_nonneg i (by omega)]; exact q)
theorem op_pow : OpR X (binaryOp .Pow) (rI CPow fun i j => .int (i ^ j.toNat)) := opI fun _ _ _ _ _ _ _ hc q => pow_int_small hc.1 hc.2.1 hc.2.2 q


theorem unI {f : Value → Sem Value} {g : Int → Int}
    (rule : ∀ (i : Int) (t : Tok) (s : Shared) (Q : Value → Shared → Prop) (E : Value → Shared → Prop), Q (.int (g i) s.toks) { s with toks := s.toks + 1 } → wpAny (model X.prog X.w) X.A (f (.int i t)) Q E s) :
    UnR X f (rU fun i => .int (g i)) := by
  intro pins s σ H x v Q I rx h
  obtain ⟨i, rfl, q⟩ := h
  obtain ⟨t, rfl⟩ := rx
  exact rule i t s _ _ ⟨.int (g i), H, I.tok _, ⟨_, rfl⟩, q⟩
theorem un_neg : UnR X (unaryOp .USub) (rU fun i => .int (-i)) := unI fun _ _ _ _ _ q => neg_int q

/-! ### bools among ints: n += (a < b) -/
end

/-! ### comparisons -/
/-- the scalars that == tells apart as data does -/
def scal : V → V → Bool
  | .non, .non => true | .non, .int _ => true | .int _, .non => true | .non, .bl _ => true | .bl _, .non => true | .non, .str _ => true | .str _, .non => true
  | .int _, .int _ => true | .bl _, .bl _ => true | .str _, .str _ => true | .byt _, .byt _ => true
  | .int _, .str _ => true | .str _, .int _ => true | .bl _, .str _ => true | .str _, .bl _ => true
  | _, _ => false
inductive REqI (x : V) (y : V) (H : Hp) (Q : VK) : Prop where
  | mk (c1 : scal x y = true) (c2 : Q (.bl (decide (x = y))) H)
def rEq : R2 := fun x y H Q => REqI x y H Q
inductive RNeI (x : V) (y : V) (H : Hp) (Q : VK) : Prop where
  | mk (c1 : scal x y = true) (c2 : Q (.bl (!decide (x = y))) H)
def rNe : R2 := fun x y H Q => RNeI x y H Q

theorem dec_int {i j : Int} : decide (V.int i = V.int j) = (i == j) := by
  rw [Bool.eq_iff_iff]
  simp
theorem dec_bl {i j : Bool} : decide (V.bl i = V.bl j) = (i == j) := by
  rw [Bool.eq_iff_iff]
  simp
theorem dec_str {i j : Str} : decide (V.str i = V.str j) = (i == j) := by
  rw [Bool.eq_iff_iff]
  simp
theorem dec_byt {i j : Array UInt8} : decide (V.byt i = V.byt j) = (i.toList == j.toList) := by
  rw [Bool.eq_iff_iff]
  cases i
  cases j
  simp

section
variable {X : Cx} {a b c : Expr} {ta tb tc : TE} {pos : Pos}
theorem fin_bl {pins : List (Addr × Obj)} {σ : St} {H : Hp} {s : Shared} {Q : VK} {k k' : Bool} (I : Inv X pins σ H s) (q : Q (.bl k) H) (e : k = k') : EP X pins σ Q (.bool k') s := by
  subst e
  exact ⟨.bl k, H, I, rfl, q⟩
theorem op_eq : OpR X (compareOp .Eq) rEq := by
  intro pins s σ H x y v u Q I rx ry h
  obtain ⟨hs, q⟩ := h
  cases x with
  | non =>
    cases rx
    cases y with
    | non => cases ry; exact PySem.EqNone.eq_none_none (fin_bl I q (by simp))
    | bl j => cases ry; exact PySem.EqNone.eq_none_bool (fin_bl I q (by simp))
    | int j => obtain ⟨t', rfl⟩ := ry; exact PySem.EqNone.eq_none_int (fin_bl I q (by simp))
    | str j => obtain ⟨t', rfl⟩ := ry; exact PySem.EqNone.eq_none_str (fin_bl I q (by simp))
    | _ => exact absurd (show false = true from hs) Bool.false_ne_true
  | bl i =>
    cases rx
    cases y with
    | non => cases ry; exact PySem.EqNone.eq_bool_none (fin_bl I q (by simp))
    | bl j => cases ry; exact eq_bool (fin_bl I q dec_bl)
    | str j => obtain ⟨t', rfl⟩ := ry; exact PySem.EqMixed.eq_bool_str (fin_bl I q (by simp))
    | _ => exact absurd (show false = true from hs) Bool.false_ne_true
  | int i =>
    obtain ⟨t, rfl⟩ := rx
    cases y with
    | non => cases ry; exact PySem.EqNone.eq_int_none (fin_bl I q (by simp))
    | int j => obtain ⟨t', rfl⟩ := ry; exact eq_int (fin_bl I q dec_int)
    | str j => obtain ⟨t', rfl⟩ := ry; exact PySem.EqMixed.eq_int_str (fin_bl I q (by simp))
    | _ => exact absurd (show false = true from hs) Bool.false_ne_true
  | str i =>
    obtain ⟨t, rfl⟩ := rx
    cases y with
    | non => cases ry; exact PySem.EqNone.eq_str_none (fin_bl I q (by simp))
    | bl j => cases ry; exact PySem.EqMixed.eq_str_bool (fin_bl I q (by simp))
    | int j => obtain ⟨t', rfl⟩ := ry; exact PySem.EqMixed.eq_str_int (fin_bl I q (by simp))
    | str j => obtain ⟨t', rfl⟩ := ry; exact eq_str (fin_bl I q dec_str)
    | _ => exact absurd (show false = true from hs) Bool.false_ne_true
  | byt i =>
    obtain ⟨t, rfl⟩ := rx
    cases y with
    | byt j => obtain ⟨t', rfl⟩ := ry; exact PySem.W.eq_bytes (fin_bl I q dec_byt)
    | _ => exact absurd (show false = true from hs) Bool.false_ne_true
  | _ => cases y <;> exact absurd (show false = true from hs) Bool.false_ne_true
theorem op_ne : OpR X (compareOp .NotEq) rNe := by
  intro pins s σ H x y v u Q I rx ry h
  obtain ⟨hs, q⟩ := h
  cases x with
  | non =>
    cases rx
    cases y with
    | non => cases ry; exact PySem.EqNone.ne_none_none (fin_bl I q (by simp))
    | bl j => cases ry; exact PySem.EqNone.ne_none_bool (fin_bl I q (by simp))
    | int j => obtain ⟨t', rfl⟩ := ry; exact PySem.EqNone.ne_none_int (fin_bl I q (by simp))
    | str j => obtain ⟨t', rfl⟩ := ry; exact PySem.EqNone.ne_none_str (fin_bl I q (by simp))
    | _ => exact absurd (show false = true from hs) Bool.false_ne_true
  | bl i =>
    cases rx
    cases y with
    | non => cases ry; exact PySem.EqNone.ne_bool_none (fin_bl I q (by simp))
    | bl j => cases ry; exact ne_bool (fin_bl I q (congrArg not dec_bl))
    | str j => obtain ⟨t', rfl⟩ := ry; exact PySem.EqMixed.ne_bool_str (fin_bl I q (by simp))
    | _ => exact absurd (show false = true from hs) Bool.false_ne_true
  | int i =>
    obtain ⟨t, rfl⟩ := rx
    cases y with
    | non => cases ry; exact PySem.EqNone.ne_int_none (fin_bl I q (by simp))
    | int j => obtain ⟨t', rfl⟩ := ry; exact ne_int (fin_bl I q (congrArg not dec_int))
    | str j => obtain ⟨t', rfl⟩ := ry; exact PySem.EqMixed.ne_int_str (fin_bl I q (by simp))
    | _ => exact absurd (show false = true from hs) Bool.false_ne_true
  | str i =>
    obtain ⟨t, rfl⟩ := rx
    cases y with
    | non => cases ry; exact PySem.EqNone.ne_str_none (fin_bl I q (by simp))
    | bl j => cases ry; exact PySem.EqMixed.ne_str_bool (fin_bl I q (by simp))
    | int j => obtain ⟨t', rfl⟩ := ry; exact PySem.EqMixed.ne_str_int (fin_bl I q (by simp))
    | str j => obtain ⟨t', rfl⟩ := ry; exact ne_str (fin_bl I q (congrArg not dec_str))
    | _ => exact absurd (show false = true from hs) Bool.false_ne_true
  | byt i =>
    obtain ⟨t, rfl⟩ := rx
    cases y with
    | byt j => obtain ⟨t', rfl⟩ := ry; exact PySem.W.ne_bytes (fin_bl I q (congrArg not dec_byt))
    | _ => exact absurd (show false = true from hs) Bool.false_ne_true
  | _ => cases y <;> exact absurd (show false = true from hs) Bool.false_ne_true

theorem op_lt : OpR X (compareOp .Lt) (rI0 fun i j => .bl (decide (i < j))) := opB0 fun _ _ _ _ _ _ _ q => lt_int q
theorem op_gt : OpR X (compareOp .Gt) (rI0 fun i j => .bl (decide (j < i))) := opB0 fun _ _ _ _ _ _ _ q => gt_int q
theorem op_ge : OpR X (compareOp .GtE) (rI0 fun i j => .bl (decide (j ≤ i))) := opB0 fun _ _ _ _ _ _ _ q => ge_int q
/-- the one string within the other -/
theorem op_in_str : OpR X (compareOp .In) (fun x y H Q => ∃ i j, x = .str i ∧ y = .str j ∧ Q (.bl (!(Builtin.Str.occurrences j i 0 j.length 1).isEmpty)) H) := by
  intro pins s σ H x y v u Q I rx ry h
  obtain ⟨i, j, rfl, rfl, q⟩ := h
  obtain ⟨t, rfl⟩ := rx
  obtain ⟨t', rfl⟩ := ry
  exact in_str (fin_bl I q rfl)

/-- is None, is not None: the right side a value none -/
theorem op_isN : OpR X (compareOp .Is) (fun x y H Q => y = .non ∧ Q (.bl (decide (x = .non))) H) := by
  intro pins s σ H x y v u Q I rx ry h
  obtain ⟨rfl, q⟩ := h
  cases ry
  refine is_none_gen (fin_bl I q ?_)
  cases x <;> first
    | (cases rx; rfl)
    | (obtain ⟨t, rfl⟩ := rx; rfl)

theorem op_notin_str : OpR X (compareOp .NotIn) (fun x y H Q => ∃ i j, x = .str i ∧ y = .str j ∧ Q (.bl (!(!(Builtin.Str.occurrences j i 0 j.length 1).isEmpty))) H) := by
  intro pins s σ H x y v u Q I rx ry h
  obtain ⟨i, j, rfl, rfl, q⟩ := h
  obtain ⟨t, rfl⟩ := rx
  obtain ⟨t', rfl⟩ := ry
  exact notIn_str (fin_bl I q rfl)

/-- two rules for one operation: by cases -/
theorem OpR.or {f : Value → Value → Sem Value} {r r' : R2} (h : OpR X f r) (h' : OpR X f r') : OpR X f (fun x y H Q => r x y H Q ∨ r' x y H Q) := by
  intro pins s σ H x y v u Q I rx ry q
  rcases q with q | q
  · exact h pins s σ H x y v u Q I rx ry q
  · exact h' pins s σ H x y v u Q I rx ry q

theorem nomark (b : Expr) {op : CmpOp} (h : op ≠ .In := by decide) (h2 : op ≠ .NotIn := by decide) : behindInMarks op b = false := by
  have e1 : (op == CmpOp.In) = false := by cases op <;> first | rfl | exact absurd rfl h
  have e2 : (op == CmpOp.NotIn) = false := by cases op <;> first | rfl | exact absurd rfl h2
  cases b <;> simp [behindInMarks, e1, e2]
/-- a comparison as a value; hm: nomark b, or (for in, not in) by with_unfolding_all rfl -/
theorem pe_cmpR {op : CmpOp} {r : R2} (ho : OpR X (compareOp op) r) (ha : PE X a ta) (hb : PE X b tb) (hm : behindInMarks op b = false) : PE X (.Compare a [op] [b] pos) (tOp r ta tb) := by
  intro pins s σ H Q I h
  exact wpAny_Compare1 (binT ha hb I h fun v u s2 x y H2 I2 rx ry q => ho pins s2 σ H2 x y v u Q I2 rx ry q) hm
/-- a reading of a value as a test -/
inductive TTestI (x : V) (H' : Hp) (Q : Bool → Hp → Prop) : Prop where
  | mk (k : _) (c1 : x = .bl k) (c2 : Q k H')
def tTest (t : TE) : TT := fun σ H Q => t σ H fun x H' => TTestI x H' Q
theorem pt_cmpR {op : CmpOp} {r : R2} (ho : OpR X (compareOp op) r) (ha : PE X a ta) (hb : PE X b tb) (hm : behindInMarks op b = false) : PT X (.Compare a [op] [b] pos) (tTest (tOp r ta tb)) := by
  intro pins s σ H Q I h
  refine wpAny_isTrue_Compare1 (thn (ha pins s σ H _ I h) fun v s1 ⟨x, H1, I1, r1, q1⟩ => thn (hb pins s1 σ H1 _ I1 q1) fun u s2 ⟨y, H2, I2, r2, q2⟩ =>
    thn (ho pins s2 σ H2 x y v u _ I2 r1 r2 q2) fun c s3 ⟨z, H3, I3, r3, k, e, q3⟩ => ?_) hm
  subst e
  cases r3
  exact wpAny_truthy_bool ⟨H3, I3, q3⟩

/-! ### truth -/
/-- a value's truth by the abstract heap -/
def TruV (K : PySem.W.Frag) (x : V) (H : Hp) (k : Bool) : Prop :=
  match x with
  | .non => k = false
  | .bl b => k = b
  | .int i => k = (i != 0)
  | .str y => y.length ≤ sizeLine ∧ k = ((y.length : Int) != 0)
  | .byt y => y.size ≤ sizeLine ∧ k = ((y.size : Int) != 0)
  | .ref p => (∃ xs, SqL K H p xs ∧ k = !xs.isEmpty) ∨ (∃ xs, SqT K H p xs ∧ k = !xs.isEmpty) ∨ ∃ kvs, H p = some (.dK kvs) ∧ k = !kvs.isEmpty
  | _ => False
theorem isEmpty_kv {κ : Type} {kvs : List (κ × V)} {vs : List (κ × Value)} (r : KV kvs vs) : (!vs.isEmpty) = !kvs.isEmpty := by
  cases r <;> rfl
theorem isEmpty_of {xs : List V} {its : List Value} (r : Vals xs its) : (!its.toArray.isEmpty) = !xs.isEmpty := by
  cases r <;> simp
theorem line63 : (sizeLine : Nat) < 2 ^ 63 := by rw [sizeLine_eq]; decide
theorem tru_ok : TruR X (fun x H Q => ∃ k, TruV X.K x H k ∧ Q k H) := by
  intro pins s σ H x v Q I rx h
  obtain ⟨k, e, q⟩ := h
  have hl := line63
  have hs : sizeLine = 16777216 := sizeLine_eq
  cases x with
  | non =>
    cases rx
    have e' : k = false := e
    subst e'
    exact truthy_none ⟨H, I, q⟩
  | bl b =>
    cases rx
    have e' : k = b := e
    subst e'
    exact wpAny_truthy_bool ⟨H, I, q⟩
  | int i =>
    obtain ⟨t, rfl⟩ := rx
    have e' : k = (i != 0) := e
    subst e'
    exact PySem.P.truthy_int ⟨H, I, q⟩
  | str y =>
    obtain ⟨t, rfl⟩ := rx
    obtain ⟨hy, e'⟩ : y.length ≤ sizeLine ∧ k = ((y.length : Int) != 0) := e
    subst e'
    exact PySem.P.truthy_str (by omega) ⟨H, I.tok _, q⟩
  | byt y =>
    obtain ⟨t, rfl⟩ := rx
    obtain ⟨hy, e'⟩ : y.size ≤ sizeLine ∧ k = ((y.size : Int) != 0) := e
    subst e'
    exact PySem.W.truthy_bytes (by omega) ⟨H, I.tok _, q⟩
  | ref p =>
    cases rx
    have e' : (∃ xs, SqL X.K H p xs ∧ k = !xs.isEmpty) ∨ (∃ xs, SqT X.K H p xs ∧ k = !xs.isEmpty) ∨ ∃ kvs, H p = some (.dK kvs) ∧ k = !kvs.isEmpty := e
    rcases e' with ⟨xs, hx, e'⟩ | ⟨xs, hx, e'⟩ | ⟨kvs, hx, e'⟩
    · subst e'
      obtain ⟨its, r, pl, hz⟩ := I.list hx
      have hlen := r.length
      exact wpAny_truthy_list pl.isList (by simp only [List.size_toArray]; omega) ⟨H, I.tok _, by rw [isEmpty_of r]; exact q⟩
    · subst e'
      obtain ⟨its, r, pl, hz⟩ := I.tuple hx
      have hlen := r.length
      exact truthy_tuple pl (by simp only [List.size_toArray]; omega) ⟨H, I.tok _, by rw [isEmpty_of r]; exact q⟩
    · subst e'
      obtain ⟨hz, hS, vs, r, m⟩ : kvs.length ≤ sizeLine ∧ (p == sysModules) = false ∧ ∃ vs, KV kvs vs ∧ s.heap.DictOf (mixKind X.prog X.w) p vs := I.hok p _ hx
      have hlen : kvs.length = vs.length := Paired.length r
      exact wpAny_truthy_dict hS m (by omega) ⟨H, I.tok _, by rw [isEmpty_kv r]; exact q⟩
  | _ => exact (show False from e).elim
/-- any expression whose test is its value's truth (a name, a call, a subscript, a field ..: he by fun _ => rfl) -/
theorem pt_truth (ha : PE X a ta) (he : ∀ whole, isTrue a X.env whole = (do let v ← whole; standAt a.pos; holding [v] (truthy v))) :
    PT X a (fun σ H Q => ta σ H fun x H' => ∃ k, TruV X.K x H' k ∧ Q k H') := by
  intro pins s σ H Q I h
  exact isTrue_plain (thn (ha pins s σ H _ I h) fun v s1 ⟨x, H1, I1, r1, q1⟩ => tru_ok pins s1 σ H1 x v Q I1 r1 q1) (he _)

/-! ### strs and bytes -/
theorem op_add_str : OpR X (binaryOp .Add) (fun x y H Q => ∃ i j, x = .str i ∧ y = .str j ∧ i.length + j.length ≤ sizeLine ∧ Q (.str (i ++ j)) H) := by
  intro pins s σ H x y v u Q I rx ry h
  obtain ⟨i, j, rfl, rfl, hz, q⟩ := h
  obtain ⟨t, rfl⟩ := rx
  obtain ⟨t', rfl⟩ := ry
  exact add_str (fun t' tk => ⟨.str (i ++ j), H, I.tok _, ⟨_, rfl⟩, q⟩) hz


/-! ### scalar builtins, by CallR -/
theorem vals1 {x : V} {us : List Value} (r : Vals [x] us) : ∃ u, us = [u] ∧ RelV x u := by
  cases r with
  | cons r1 r2 => cases r2; exact ⟨_, rfl, r1⟩
theorem vals2 {x y : V} {us : List Value} (r : Vals [x, y] us) : ∃ u w', us = [u, w'] ∧ RelV x u ∧ RelV y w' := by
  cases r with
  | cons r1 r2 =>
    cases r2 with
    | cons r3 r4 => cases r4; exact ⟨_, _, rfl, r1, r3⟩
theorem call_abs : CallR X (.builtin "abs") (fun xs H Q => ∃ i, xs = [.int i] ∧ Q (.int (if i < 0 then -i else i)) H) := by
  intro pins s σ H xs us Q I r h
  obtain ⟨i, rfl, q⟩ := h
  obtain ⟨u, rfl, t, rfl⟩ := vals1 r
  exact call_abs_int fun u tk => ⟨.int (if i < 0 then -i else i), H, I.tok _, ⟨_, rfl⟩, q⟩
theorem call_int1 : CallR X (.type "int") (fun xs H Q => (∃ i, xs = [.int i] ∧ Q (.int i) H) ∨ ∃ k, xs = [.bl k] ∧ Q (.int (if k then 1 else 0)) H) := by
  intro pins s σ H xs us Q I r h
  rcases h with ⟨i, rfl, q⟩ | ⟨k, rfl, q⟩
  · obtain ⟨u, rfl, t, rfl⟩ := vals1 r
    exact call_int_int ⟨.int i, H, I, ⟨_, rfl⟩, q⟩
  · obtain ⟨u, rfl, r1⟩ := vals1 r
    cases r1
    exact call_int_bool ⟨.int (if k then 1 else 0), H, I.tok _, ⟨_, rfl⟩, q⟩
end
end L2

namespace L2
open PySem PySem.Spec PyProof.Rows

/-! ### an instance, its attributes a map -/
structure ObjM (h : Heap) (x dx C : Addr) (mA : Str → Option Value) : Prop where
  obj : h.get? x = some (PySem.W.instObj C dx)
  ns : h.Ns1 dx mA
  ne : dx ≠ x

theorem lookIn_ns {h : Heap} {dx : Addr} {mA : Str → Option Value} (n : h.Ns1 dx mA) : ∃ od, h.get? dx = some od ∧ ∀ name, PySem.W.lookIn name od = some (mA name) := by
  obtain ⟨o, es, ep, ho, hd, hk, _, hm⟩ := n
  refine ⟨o, ho, fun name => ?_⟩
  have e := hm name
  unfold nsFind findBy at e
  rw [← Array.find?_toList] at e
  unfold PySem.W.lookIn
  rw [hd]
  dsimp only
  split
  · rename_i y q
    rw [q] at e
    exact congrArg some e
  · rename_i q
    rw [q] at e
    have a : es.toList.any (·.refKey) = false := by
      rw [List.any_eq_false]
      intro y hy
      obtain ⟨z, t, hkey⟩ := hk y (Array.mem_toList_iff.mp hy)
      simp [DictEntry.refKey, hkey]
    have a' : ¬ es.toList.any (·.refKey) = true := by rw [a]; exact Bool.false_ne_true
    rw [if_neg a']
    exact congrArg some e

theorem ObjM.look {h : Heap} {x dx C : Addr} {mA : Str → Option Value} (I : ObjM h x dx C mA) : ∃ od, PySem.W.InstAt h x (PySem.W.instObj C dx) C (some od) ∧ ∀ name, PySem.W.lookIn name od = some (mA name) :=
  let ⟨od, ho, hl⟩ := lookIn_ns I.ns
  ⟨od, ⟨I.obj, rfl, rfl, ho⟩, hl⟩

section
variable {prog : Program} {w : World} {A : Around} {E : Value → Shared → Prop} {s : Shared} {K : PySem.W.Frag} {x dx C f : Addr} {mA : Str → Option Value} {name : Str} {v : Value}

theorem get_map {expr : Bool} {Q : Value → Shared → Prop} (X : K.In s.heap) (I : ObjM s.heap x dx C mA) (hg : PySem.W.plainGet K C name = true) (hh : PySem.W.hasDictIn K C = true)
    (ha : PySem.W.findIn K (.ref C) name = some none) (hv : mA name = some v) (hv' : PySem.W.handedIn v = true) (h : Q v { s with toks := s.toks + 1 }) :
    wpAny (model prog w) A (getAttr (.ref x) name expr) Q E s := by
  obtain ⟨od, J, hl⟩ := I.look
  exact PySem.W.get_value X J (PySem.W.plainGet_of hg).1 (PySem.W.findObj_own hh ha rfl (by rw [hl, hv])) hv' h


theorem get_meth {pl : Sem Bool} {Q : Value × List Value → Shared → Prop} (X : K.In s.heap) (I : ObjM s.heap x dx C mA) (hg : PySem.W.plainGet K C name = true)
    (hf : PySem.W.findIn K (.ref C) name = some (some (.ref f))) (ht : PySem.W.isFn K (.ref f) = true) (hv : mA name = none) (h : Q (.ref f, [.ref x]) s) :
    wpAny (model prog w) A (getMethod (.ref x) name pl) Q E s := by
  obtain ⟨od, J, hl⟩ := I.look
  exact PySem.W.method_fn X J (PySem.W.plainGet_of hg).1 (PySem.W.plainGet_of hg).2 hf (beq_iff_eq.mp ht) (by show (PySem.W.lookIn name od).map (·.isSome) = some false; rw [hl, hv]; rfl) h

theorem set_map {ns : List Str} {Q : Unit → Shared → Prop} (X : K.In s.heap) (I : ObjM s.heap x dx C mA)
    (hs : PySem.W.findIn K (.ref C) "__setattr__" = some (some (.builtin "object.__setattr__"))) (hp : PySem.W.plainOver K C = true) (ht : PySem.W.takerIn K C name = some none) (hh : PySem.W.hasDictIn K C = true)
    (hw : PySem.Within mA ns) (hsz : ns.length ≤ sizeLine)
    (h : ∀ h', ObjM h' x dx C (fun y => if y = name then some v else mA y) → Heap.SameBut dx s.heap h' → Q () { s with heap := h', toks := s.toks + 2 }) :
    wpAny (model prog w) A (setAttr (.ref x) name v) Q E s := by
  obtain ⟨od, J, hl⟩ := I.look
  refine PySem.W.set_plain X J hs (PySem.W.osa_open (s := { s with toks := s.toks + 1 }) (r := none) X J hp ht fun b => ?_)
  obtain ⟨cd, hc, hd'⟩ := PySem.W.any_some hh
  have hx : s.heap.get? x = some ⟨.ref C, some dx, .plain, #[]⟩ := I.obj
  refine wpAny_bind (wpAny_pure (wpAny_bind (wpAny_bind (wpAny_loadPart hx (wpAny_bind (PySem.W.Looks.here (s := { s with toks := s.toks + 1 }) (PySem.W.looks_clsIn X hc) ?_))))))
  rw [hd']
  refine wpAny_pure (a := some dx) (wpAny_bind (wpAny_pure (wpAny_bind ?_)))
  refine wpAny_nsSet1 (s := { s with toks := s.toks + 1 }) I.ns fun h' hn2 hs2 => ?_
  obtain ⟨oD, esD, epD, hoD, hdD, hcD⟩ := hn2.count (PySem.Within.cons name v hw)
  refine wpAny_bind (wpAny_lookBehind hoD (by rw [hdD]; exact pastItsLine_dict (Nat.le_trans hcD (by rw [List.length_cons]; omega))) ?_)
  exact wpAny_pure (h _ ⟨(hs2.2 _ (Ne.symm I.ne)).trans I.obj, hn2, I.ne⟩ hs2)

/-- C(..): the dict at the heap's end, the instance behind it; then its __init__ -/
theorem make_map {R : Result → Shared → Prop} {vs : List Value} {kw : List (Str × Value)} (X : K.In s.heap) (hm : PySem.W.makesIn K C = true)
    (hi : PySem.W.findIn K (.ref C) "__init__" = some (some (.ref f))) (hf : PySem.W.typeIn K (.ref f) = some (.type "function"))
    (h : codeAny (model prog w) (A.under (.builtin "type.__call__" ⟨.ref C :: vs, kw⟩)) (.call (.ref f) ⟨.ref (s.heap.objs.size + 1) :: vs, kw⟩) (PySem.W.InitBack (s.heap.objs.size + 1) R)
      { s with heap := (s.heap.push PySem.W.emptyDict).push (PySem.W.instObj C s.heap.objs.size) }) :
    codeAny (model prog w) A (.call (.ref C) ⟨vs, kw⟩) R s := by
  obtain ⟨hh, g, d, t, os⟩ := s
  exact PySem.W.make_core (PySem.W.makes_of X hm) (PySem.W.looks_findIn X hi) (fun self => PySem.W.bind_fn X self hf) (.inl rfl) h
end

/-! ### the attributes as a list of pairs -/
def putF (f : Str) (v : V) : List (Str × V) → List (Str × V)
  | [] => [(f, v)]
  | (g, x) :: r => if g = f then (g, v) :: r else (g, x) :: putF f v r
theorem lookup_putF (f g : Str) (v : V) : ∀ fs : List (Str × V), (putF f v fs).lookup g = if g = f then some v else fs.lookup g
  | [] => by
    show List.lookup g [(f, v)] = _
    by_cases h : g = f
    · have hb : (g == f) = true := beq_iff_eq.mpr h
      simp only [List.lookup, hb, if_pos h]
    · have hb : (g == f) = false := beq_eq_false_iff_ne.mpr h
      simp only [List.lookup, hb, if_neg h]
  | (k, x) :: r => by
    have ih := lookup_putF f g v r
    rw [show putF f v ((k, x) :: r) = (if k = f then (k, v) :: r else (k, x) :: putF f v r) from rfl]
    by_cases hk : k = f
    · rw [if_pos hk]
      by_cases h : g = k
      · have hb : (g == k) = true := beq_iff_eq.mpr h
        simp only [List.lookup, hb, if_pos (h.trans hk)]
      · have hb : (g == k) = false := beq_eq_false_iff_ne.mpr h
        simp only [List.lookup, hb, if_neg (fun e : g = f => h (e.trans hk.symm))]
    · rw [if_neg hk]
      by_cases h : g = k
      · have hb : (g == k) = true := beq_iff_eq.mpr h
        simp only [List.lookup, hb, if_neg (fun e : g = f => hk (h.symm.trans e))]
      · have hb : (g == k) = false := beq_eq_false_iff_ne.mpr h
        simp only [List.lookup, hb]
        exact ih
theorem keys_putF (f : Str) (v : V) : ∀ fs : List (Str × V), f ∈ (putF f v fs).map (·.1) ∧ ∀ g, g ∈ fs.map (·.1) → g ∈ (putF f v fs).map (·.1)
  | [] => ⟨by simp [putF], fun g h => by simp at h⟩
  | (k, x) :: r => by
    obtain ⟨i1, i2⟩ := keys_putF f v r
    rw [show putF f v ((k, x) :: r) = (if k = f then (k, v) :: r else (k, x) :: putF f v r) from rfl]
    by_cases hk : k = f
    · rw [if_pos hk]
      subst hk
      exact ⟨by simp, fun g h => by simpa using h⟩
    · rw [if_neg hk]
      refine ⟨?_, fun g h => ?_⟩
      · rw [List.map_cons]
        exact List.mem_cons_of_mem _ i1
      · rw [List.map_cons] at h ⊢
        rcases List.mem_cons.mp h with e | e
        · exact List.mem_cons.mpr (.inl e)
        · exact List.mem_cons_of_mem _ (i2 g e)
theorem length_putF (f : Str) (v : V) : ∀ fs : List (Str × V), (putF f v fs).length ≤ fs.length + 1
  | [] => by simp [putF]
  | (k, x) :: r => by
    have ih := length_putF f v r
    rw [show putF f v ((k, x) :: r) = (if k = f then (k, v) :: r else (k, x) :: putF f v r) from rfl]
    by_cases hk : k = f
    · rw [if_pos hk, List.length_cons, List.length_cons]; omega
    · rw [if_neg hk, List.length_cons, List.length_cons]; omega

theorem RelO.some_of {v : V} {o : Option Value} (r : RelO (some v) o) : ∃ u, o = some u ∧ RelV v u := by
  cases o with
  | none => exact (show False from r).elim
  | some u => exact ⟨u, rfl, r⟩
theorem RelO.none_of {o : Option Value} (r : RelO none o) : o = none := by
  cases o with
  | none => rfl
  | some u => exact (show False from r).elim
theorem handed_of {v : V} {u : Value} (r : RelV v u) : PySem.W.handedIn u = true := by
  cases v with
  | non => cases (show u = Value.none from r); rfl
  | bl b => cases (show u = Value.bool b from r); rfl
  | int i => obtain ⟨t, e⟩ := (show ∃ t, u = Value.int i t from r); cases e; rfl
  | str x => obtain ⟨t, e⟩ := (show ∃ t, u = Value.str x t from r); cases e; rfl
  | byt b => obtain ⟨t, e⟩ := (show ∃ t, u = Value.bytes b t from r); cases e; rfl
  | flt b => obtain ⟨t, e⟩ := (show ∃ t, u = Value.float b t from r); cases e; rfl
  | ref a => cases (show u = Value.ref a from r); rfl
  | ty n => cases (show u = Value.type n from r); rfl

section
variable {P : Program} {w : World} {H H' : Hp} {h h' : Heap} {a C dx : Addr} {fs fs' : List (Str × V)}
theorem ins_get (hok : HOk P w H h) (e : H a = some (.ins C dx fs)) : ∃ mA, ObjM h a dx C mA ∧ (∀ f, RelO (fs.lookup f) (mA f)) ∧ PySem.Within mA (fs.map (·.1)) ∧ fs.length ≤ 1000 ∧ H dx = some (.own a) := by
  obtain ⟨d, z, ne, ob, mA, n, r, q⟩ := (show ObjOk P w H h a (.ins C dx fs) from hok a _ e)
  exact ⟨mA, ⟨ob, n, ne⟩, r, q, z, d⟩
end

/-! ### what of the text a class must have -/
structure Cls (K : PySem.W.Frag) (C : Addr) : Prop where
  pg : PySem.W.plainGet K C Str.empty = true
  hd : PySem.W.hasDictIn K C = true
  po : PySem.W.plainOver K C = true
  sa : PySem.W.findIn K (.ref C) "__setattr__" = some (some (.builtin "object.__setattr__"))
theorem Cls.get {K : PySem.W.Frag} {C : Addr} (c : Cls K C) (f : Str) : PySem.W.plainGet K C f = true := c.pg
/-- no class of it has the name -/
def NoAttr (K : PySem.W.Frag) (C : Addr) (f : Str) : Prop := PySem.W.findIn K (.ref C) f = some none
theorem NoAttr.taker {K : PySem.W.Frag} {C : Addr} {f : Str} (n : NoAttr K C f) : PySem.W.takerIn K C f = some none := by
  unfold PySem.W.takerIn
  rw [show PySem.W.findIn K (.ref C) f = some none from n]
  rfl
/-- a method: a plain def of the class or of one above it -/
structure Meth (K : PySem.W.Frag) (C : Addr) (m : Str) (f : Addr) : Prop where
  at_ : PySem.W.findIn K (.ref C) m = some (some (.ref f))
  fn : PySem.W.isFn K (.ref f) = true
  kp : PySem.W.keepIn K (.ref f) = true

section
variable {X : Cx} {pins : List (Addr × Obj)} {σ : St} {H : Hp} {s : Shared} {a C dx : Addr} {fs : List (Str × V)} {f : Str} {v : V} {A : Around} {E : Value → Shared → Prop}

theorem getattr_ok {b : Bool} {Q : Value → Shared → Prop} (I : Inv X pins σ H s) (e : H a = some (.ins C dx fs)) (c : Cls X.K C) (n : NoAttr X.K C f) (l : fs.lookup f = some v)
    (h : ∀ u s', Inv X pins σ H s' → RelV v u → Q u s') : wpAny (model X.prog X.w) A (getAttr (.ref a) f b) Q E s := by
  obtain ⟨mA, O, r, _, _, _⟩ := ins_get I.hok e
  obtain ⟨u, hu, ru⟩ := RelO.some_of (v := v) (o := mA f) (by rw [← l]; exact r f)
  exact get_map I.kIn O (c.get f) c.hd n hu (handed_of ru) (h u _ (I.tok _) ru)


theorem getmeth_ok {m : Str} {g : Addr} {pl : Sem Bool} {Q : Value × List Value → Shared → Prop} (I : Inv X pins σ H s) (e : H a = some (.ins C dx fs)) (c : Cls X.K C) (k : Meth X.K C m g) (l : fs.lookup m = none)
    (h : Q (.ref g, [.ref a]) s) : wpAny (model X.prog X.w) A (getMethod (.ref a) m pl) Q E s := by
  obtain ⟨mA, O, r, _, _, _⟩ := ins_get I.hok e
  have hn : mA m = none := RelO.none_of (by rw [← l]; exact r m)
  exact get_meth I.kIn O (c.get m) k.at_ k.fn hn h

theorem setattr_ok {y : V} {u : Value} {Q : Unit → Shared → Prop} (I : Inv X pins σ H s) (e : H a = some (.ins C dx fs)) (c : Cls X.K C) (n : NoAttr X.K C f) (hl : fs.length < 1000) (ry : RelV y u)
    (h : ∀ s', Inv X pins σ (upd H a (.ins C dx (putF f y fs))) s' → Q () s') : wpAny (model X.prog X.w) A (setAttr (.ref a) f u) Q E s := by
  obtain ⟨mA, O, r, wi, _, ho⟩ := ins_get I.hok e
  have hz : (fs.map (·.1)).length ≤ sizeLine := by rw [List.length_map, sizeLine_eq]; omega
  refine set_map I.kIn O c.sa c.po n.taker c.hd wi hz fun h' O' sb => h _ ?_
  have hd : ∃ o, h'.get? dx = some o := let ⟨o, _, _, e', _⟩ := O'.ns; ⟨o, e'⟩
  refine I.write (x := a) (e := dx) (by rw [e]; exact True.intro) (.inr ho) (fun b q hb z => (sb.2 b hb).trans z) hd ?_
  refine ⟨by rw [upd_ne O.ne]; exact ho, ?_, O.ne, O'.obj, _, O'.ns, fun g => ?_, fun g hg => ?_⟩
  · have := length_putF f y fs; omega
  · show RelO ((putF f y fs).lookup g) (if g = f then some u else mA g)
    rw [lookup_putF]
    by_cases q : g = f
    · rw [if_pos q, if_pos q]; exact ry
    · rw [if_neg q, if_neg q]; exact r g
  · by_cases q : g = f
    · rw [q]; exact (keys_putF f y fs).1
    · refine (keys_putF f y fs).2 g (wi g fun z => hg ?_)
      show (if g = f then some u else mA g) = none
      rw [if_neg q]; exact z

/-- a new instance, tracked, without attributes -/
theorem Inv.made (I : Inv X pins σ H s) : Inv X pins σ (upd (upd H s.heap.objs.size (.own (s.heap.objs.size + 1))) (s.heap.objs.size + 1) (.ins C s.heap.objs.size []))
    { s with heap := (s.heap.push PySem.W.emptyDict).push (PySem.W.instObj C s.heap.objs.size) } := by
  have e1 : (s.heap.push PySem.W.emptyDict).get? s.heap.objs.size = some PySem.W.emptyDict := Heap.get?_push_size s.heap rfl
  have e2 : ((s.heap.push PySem.W.emptyDict).push (PySem.W.instObj C s.heap.objs.size)).get? (s.heap.objs.size + 1) = some (PySem.W.instObj C s.heap.objs.size) := by
    have := Heap.get?_push_size (s.heap.push PySem.W.emptyDict) (o := PySem.W.instObj C s.heap.objs.size) rfl
    rwa [Heap.size_push] at this
  have e3 : (s.heap.push PySem.W.emptyDict).Ns s.heap.objs.size (fun _ => none) := ⟨PySem.W.emptyDict, #[], _, e1, rfl, (fun e he => absurd he (by simp)), fun _ => rfl⟩
  have I1 := I.laid (a := s.heap.objs.size) (o := .own (s.heap.objs.size + 1)) (h' := s.heap.push PySem.W.emptyDict) (t' := s.toks) (fun b u q => Heap.get?_push_of_some _ q) (Nat.le_refl _) ⟨_, e1⟩
  refine I1.laid (a := s.heap.objs.size + 1) (o := .ins C s.heap.objs.size []) (t' := s.toks) (fun b u q => Heap.get?_push_of_some _ q) (Nat.le_of_eq (Heap.size_push _ _)) ?_
  have ne : s.heap.objs.size ≠ s.heap.objs.size + 1 := Nat.ne_of_lt (Nat.lt_succ_self _)
  refine ⟨by rw [upd_ne ne, upd_same], Nat.zero_le _, ne, e2, fun _ => none, (Heap.Ns1.of_empty e3).at fun o q => Heap.get?_push_of_some _ q, fun _ => True.intro, fun y hy => absurd rfl hy⟩

/-- e.f where nothing but the object is asked: through attributeBase (super) and the last hold -/
theorem attr_of {prog : Program} {w : World} {env : Env} {e : Expr} {f : Str} {pos : Pos} {s : Shared} {Q : Value → Shared → Prop} (hb : attributeBase e f env (eval e env) = eval e env)
    (h : wpAny (model prog w) A (eval e env) (fun o s₁ => wpAny (model prog w) A (getAttr o f true) Q E s₁) E s) : wpAny (model prog w) A (eval (.Attribute e f pos) env) Q E s :=
  Attribute_any_ h (by rw [arm_eval_Attribute, hb])
end

/-! ### readings and rules -/
/-- e.f, an attribute of the instance -/
inductive TFldI (K : PySem.W.Frag) (f : Str) (x : V) (H1 : Hp) (Q : VK) : Prop where
  | mk (a : _) (C : _) (dx : _) (fs : _) (v : _) (c1 : x = .ref a) (c2 : H1 a = some (.ins C dx fs)) (c3 : Cls K C) (c4 : NoAttr K C f) (c5 : fs.lookup f = some v) (c6 : Q v H1)
def tFld (K : PySem.W.Frag) (ta : TE) (f : Str) : TE := fun σ H Q => ta σ H fun x H1 => TFldI K f x H1 Q
/-- e.f = value -/
inductive SFldI (K : PySem.W.Frag) (f : Str) (D : Ends) (σ : L2.St) (y : V) (x : V) (H2 : Hp) : Prop where
  | mk (a : _) (C : _) (dx : _) (fs : _) (c1 : x = .ref a) (c2 : H2 a = some (.ins C dx fs)) (c3 : Cls K C) (c4 : NoAttr K C f) (c5 : fs.length < 1000) (c6 : D.nx σ (upd H2 a (.ins C dx (putF f y fs))))
def sFld (K : PySem.W.Frag) (ta tv : TE) (f : Str) : TS := fun D σ H => tv σ H fun y H1 => ta σ H1 fun x H2 => SFldI K f D σ y x H2
/-- an augmented operator on two values -/
def InOp (X : Cx) (op : Operator) (rd : V → V → Hp → VK → Prop) : Prop :=
  ∀ (pins : List (Addr × Obj)) (s : Shared) (σ : St) (H : Hp) (x y : V) (u v : Value) (Q : VK), Inv X pins σ H s → RelV x u → RelV y v → rd x y H Q → wpAny (model X.prog X.w) X.A (inplaceOp op u v) (EP X pins σ Q) X.xe s
/-- e.f op= value -/
def sFldAug (K : PySem.W.Frag) (ta tv : TE) (rd : V → V → Hp → VK → Prop) (f : Str) : TS := fun D σ H => ta σ H fun x H1 => ∃ a C dx fs v, x = .ref a ∧ H1 a = some (.ins C dx fs) ∧ Cls K C ∧ NoAttr K C f ∧ fs.lookup f = some v ∧
  tv σ H1 fun y H2 => rd v y H2 fun z H3 => ∃ dx' fs', H3 a = some (.ins C dx' fs') ∧ fs'.length < 1000 ∧ D.nx σ (upd H3 a (.ins C dx' (putF f z fs')))

section
variable {X : Cx} {o e value : Expr} {f : Str} {pos pos' tpos : Pos} {ta tv : TE}
theorem pe_fld (he : PE X e ta) (hb : attributeBase e f X.env (eval e X.env) = eval e X.env) : PE X (.Attribute e f pos) (tFld X.K ta f) := by
  intro pins s σ H Q I h
  refine attr_of hb (thn (he pins s σ H _ I h) fun u s1 ⟨x, H1, I1, rx, a, C, dx, fs, v, ex, ea, c, n, l, q⟩ => ?_)
  subst ex
  obtain rfl : u = Value.ref a := rx
  exact getattr_ok I1 ea c n l fun u' s2 I2 ru => ⟨v, H1, I2, ru, q⟩
theorem ps_fld (ha : PE X o ta) (hv : PE X value tv) (hs : swapsWith value (some (.Attribute o f pos')) pos.line X.env = pure false) : PS X (.Assign [.Attribute o f pos'] value pos) (sFld X.K ta tv f) := by
  intro pins s σ H D I h
  refine plainObj_wpAny_Assign_Attribute (thn (hv pins s σ H _ I h) fun u s1 ⟨y, H1, I1, ry, q⟩ => thn (ha pins s1 σ H1 _ I1 q) fun ov s2 ⟨x, H2, I2, rx, a, C, dx, fs, ex, ea, c, n, l, q2⟩ => ?_) hs
  subst ex
  obtain rfl : ov = Value.ref a := rx
  exact setattr_ok I2 ea c n l ry fun s3 I3 => ⟨σ, _, I3, q2⟩
theorem ps_fldaug {op : Operator} {rd : V → V → Hp → VK → Prop} (ha : PE X o ta) (hv : PE X value tv) (hop : InOp X op rd) : PS X (.AugAssign (.Attribute o f tpos) op value pos) (sFldAug X.K ta tv rd f) := by
  intro pins s σ H D I h
  refine wpAny_AugAssign_AttributeAny (thn (ha pins s σ H _ I h) fun ov s1 ⟨x, H1, I1, rx, a, C, dx, fs, v, ex, ea, c, n, l, q⟩ => ?_)
  subst ex
  obtain rfl : ov = Value.ref a := rx
  refine getattr_ok I1 ea c n l fun u s2 I2 ru => thn (hv pins s2 σ H1 _ I2 q) fun w3 s3 ⟨y, H2, I3, ry, q3⟩ => thn (hop pins s3 σ H2 v y u w3 _ I3 ru ry q3) fun w4 s4 ⟨z, H3, I4, rz, dx', fs', ea', l', q4⟩ => ?_
  exact setattr_ok I4 ea' c n l' rz fun s5 I5 => ⟨σ, _, I5, q4⟩
def rAdd : V → V → Hp → VK → Prop := fun x y H Q => ∃ i j, x = .int i ∧ y = .int j ∧ Q (.int (i + j)) H
theorem in_add : InOp X .Add rAdd := by
  rintro pins s σ H x y u v Q I rx ry ⟨i, j, rfl, rfl, q⟩
  obtain ⟨t, rfl⟩ := (show ∃ t, u = Value.int i t from rx)
  obtain ⟨t', rfl⟩ := (show ∃ t', v = Value.int j t' from ry)
  exact PyProof.Rows.iadd_int ⟨.int (i + j), H, I.tok _, ⟨_, rfl⟩, q⟩

/-- what is between an instance and its method: the tree of a method call -/
theorem methcall_of {pl : Sem Bool} {m : Str} {apos : Pos} {args : List Expr} {pins : List (Addr × Obj)} {s : Shared} {σ : St} {H : Hp} {Q : Value → Shared → Prop} {te : TE} (he : PE X e te) (I : Inv X pins σ H s)
    (h : te σ H fun x H1 => ∃ a C dx fs g, x = .ref a ∧ H1 a = some (.ins C dx fs) ∧ Cls X.K C ∧ Meth X.K C m g ∧ fs.lookup m = none ∧
      ∀ s1, Inv X pins σ H1 s1 → wpAny (model X.prog X.w) X.A (callWith pos (.ref g) [.ref a] (backTo pos (starEach args X.env)) (backToKw pos (keywordEach [] X.env))) Q X.xe s1)
    (ht : eval (.Call (.Attribute e m apos) args [] pos) X.env = (do
      let ov ← eval e X.env
      standAt apos.atName
      let (f, first) ← holding [ov] (getMethod ov m pl)
      callWith pos f first (backTo pos (starEach args X.env)) (backToKw pos (keywordEach [] X.env)))) :
    wpAny (model X.prog X.w) X.A (eval (.Call (.Attribute e m apos) args [] pos) X.env) Q X.xe s := by
  refine PySem.W.methodCall_KW (pl := pl) (thn (he pins s σ H _ I h) fun u s1 ⟨x, H1, I1, rx, a, C, dx, fs, g, ex, ea, c, k, l, q⟩ => ?_) ht
  subst ex
  obtain rfl : u = Value.ref a := rx
  exact getmeth_ok I1 ea c k l (q s1 I1)
end

/-! ### isinstance -/
section
variable {X : Cx} {pins : List (Addr × Obj)} {σ : St} {H : Hp} {s : Shared} {A : Around} {E : Value → Shared → Prop} {Q : Value → Shared → Prop} {c : Value} {b : Bool}
/-- the type of a value, as the fragment's deciders take it; for an instance its class -/
inductive TyOf (K : PySem.W.Frag) (H : Hp) : V → Value → Prop where
  | non : TyOf K H .non (.type "NoneType")
  | bl (x : Bool) : TyOf K H (.bl x) (.type "bool")
  | int (i : Int) : TyOf K H (.int i) (.type "int")
  | str (x : Str) : TyOf K H (.str x) (.type "str")
  | flt (x : UInt64) : TyOf K H (.flt x) (.type "float")
  | lst {a : Addr} {xs : List V} (e : H a = some (.lst xs)) : TyOf K H (.ref a) (.type "list")
  | frz {a : Addr} {o : Obj} {xs : List V} (e : H a = some (.frz o (.lst xs))) : TyOf K H (.ref a) (.type "list")
  | tup {a : Addr} {xs : List V} (e : H a = some (.tup xs)) : TyOf K H (.ref a) (.type "tuple")
  | dK {a : Addr} {kvs : List (Key × V)} (e : H a = some (.dK kvs)) : TyOf K H (.ref a) (.type "dict")
  | dT {a : Addr} {kvs : List (List Key × V)} (e : H a = some (.dT kvs)) : TyOf K H (.ref a) (.type "dict")
  | ins {a C dx : Addr} {fs : List (Str × V)} (e : H a = some (.ins C dx fs)) (cl : Cls K C) (ha : PySem.W.findIn K (.ref C) "__class__" = some (some (.builtin "object.__class__")))
      (hn : PySem.W.specialIn K (.builtin "object.__class__") "__get__" = some (some (.builtin "getset_descriptor.__get__"))) (htk : PySem.W.takesIn K (.builtin "object.__class__") = some true)
      (hm : PySem.W.mroIn K C (.type "object") = some true) : TyOf K H (.ref a) (.ref C)
/-- isinstance(x, c) for one class c, a built-in or an own one: kitOne's answer -/
theorem isinst_ok {x : V} {u t : Value} (I : Inv X pins σ H s) (rx : RelV x u) (ty : TyOf X.K H x t) (e : PySem.W.kitOne X.K t c = some b) (h : ∀ tk, Q (.bool b) { s with toks := tk }) :
    wpAny (model X.prog X.w) A (call (.builtin "isinstance") [u, c]) Q E s := by
  cases ty with
  | non => cases (show u = Value.none from rx); exact PySem.W.kia_one PySem.W.kitx_none I.kIn True.intro e (fun z => nomatch z) h
  | bl y => cases (show u = Value.bool y from rx); exact PySem.W.kia_one PySem.W.kitx_bool I.kIn True.intro e (fun z => nomatch z) h
  | int i => obtain ⟨t, q⟩ := (show ∃ t, u = Value.int i t from rx); cases q; exact PySem.W.kia_one PySem.W.kitx_int I.kIn True.intro e (fun z => nomatch z) h
  | str y => obtain ⟨t, q⟩ := (show ∃ t, u = Value.str y t from rx); cases q; exact PySem.W.kia_one PySem.W.kitx_str I.kIn True.intro e (fun z => nomatch z) h
  | flt y => obtain ⟨t, q⟩ := (show ∃ t, u = Value.float y t from rx); cases q; exact PySem.W.kia_one PySem.W.kitx_float I.kIn True.intro e (fun z => nomatch z) h
  | @lst a xs ea =>
    cases (show u = Value.ref a from rx)
    obtain ⟨_, _, n, _, h1⟩ := (show ObjOk X.prog X.w H s.heap a (.lst xs) from I.hok a _ ea)
    exact PySem.W.kia_one PySem.W.kitx_list I.kIn ⟨_, h1, rfl⟩ e (fun z => nomatch z) h
  | @frz a ob xs ea =>
    cases (show u = Value.ref a from rx)
    obtain ⟨_, _, _, n, _, h1⟩ := (show ObjOk X.prog X.w H s.heap a (.frz ob (.lst xs)) from I.hok a _ ea)
    exact PySem.W.kia_one PySem.W.kitx_list I.kIn ⟨_, h1, rfl⟩ e (fun z => nomatch z) h
  | @tup a xs ea =>
    cases (show u = Value.ref a from rx)
    obtain ⟨_, _, _, p⟩ := (show ObjOk X.prog X.w H s.heap a (.tup xs) from I.hok a _ ea)
    obtain ⟨o, h1, h2, _⟩ := p
    exact PySem.W.kia_one PySem.W.kitx_tuple I.kIn ⟨o, h1, h2⟩ e (fun z => nomatch z) h
  | @dK a kvs ea =>
    cases (show u = Value.ref a from rx)
    obtain ⟨_, _, vs, _, p⟩ := (show ObjOk X.prog X.w H s.heap a (.dK kvs) from I.hok a _ ea)
    obtain ⟨o, es, ep, h1, h2, _⟩ := p
    exact PySem.W.kia_one PySem.W.kitx_dict I.kIn ⟨o, h1, h2.1⟩ e (fun z => nomatch z) h
  | @dT a kvs ea =>
    cases (show u = Value.ref a from rx)
    obtain ⟨_, _, xs, _, o, es, ep, h1, h2, _⟩ := (show ObjOk X.prog X.w H s.heap a (.dT kvs) from I.hok a _ ea)
    exact PySem.W.kia_one PySem.W.kitx_dict I.kIn ⟨o, h1, h2.1⟩ e (fun z => nomatch z) h
  | @ins a C dx fs ea cl ha hn htk hm =>
    cases (show u = Value.ref a from rx)
    obtain ⟨mA, O, _⟩ := ins_get I.hok ea
    obtain ⟨od, J, _⟩ := O.look
    exact PySem.W.kia_one (PySem.W.kitx_own (cl.get _) cl.hd ha hn htk hm) I.kIn J e (fun z => nomatch z) h
end
end L2

namespace L2
open PySem PySem.Spec PyProof.Rows

/-! ### room -/
structure Room (k : Nat) (A : Around) : Prop where
  hd : A.handled = none
  dp : A.depth + 3 * k + 5 < recursionLimit
  un : A.units + 16 * k + 200 < cLine
theorem Room.mono {j k : Nat} {A : Around} (r : Room k A) (h : j ≤ k) : Room j A := ⟨r.hd, by have := r.dp; omega, by have := r.un; omega⟩
theorem Room.deeper {k : Nat} {A : Around} (r : Room (k + 1) A) (env : Env) : Room k (A.deeper env) :=
  ⟨r.hd, by have := r.dp; show A.depth + 1 + 3 * k + 5 < _; omega, by have := r.un; show A.units + 3 + 16 * k + 200 < _; omega⟩
theorem make_depth {A : Around} {C : Addr} {us : List Value} {kw : List (Str × Value)} : (A.under (.builtin "type.__call__" ⟨.ref C :: us, kw⟩)).depth = A.depth + 1 := by
  first | rfl | simp [Around.under, Code.weight, Code.isCreation, Code.isGuard, Code.isCaller, Code.frames, Code.isFrame, guardIds]
theorem make_units {A : Around} {C : Addr} {us : List Value} {kw : List (Str × Value)} : (A.under (.builtin "type.__call__" ⟨.ref C :: us, kw⟩)).units = A.units + 1 := by
  first | rfl | simp [Around.under, Code.cUnits, Code.frames, Code.isFrame]
theorem Room.make {k : Nat} {A : Around} (r : Room (k + 1) A) (C : Addr) (us : List Value) (kw : List (Str × Value)) : Room k (A.under (.builtin "type.__call__" ⟨.ref C :: us, kw⟩)) :=
  ⟨r.hd, by have := r.dp; rw [make_depth]; omega, by have := r.un; rw [make_units]; omega⟩
theorem Room.depth {k : Nat} {A : Around} (r : Room k A) : A.depth < recursionLimit := by have := r.dp; omega
theorem Room.units {k : Nat} {A : Around} (r : Room k A) : A.units + 64 < cLine := by have := r.un; omega
theorem Room.units0 {k : Nat} {A : Around} (r : Room k A) : A.units < cLine := by have := r.un; omega

/-! ### argument lists and displays -/
def tNil : TA := fun _ H Q => Q [] H
def tCons (ta : TE) (tr : TA) : TA := fun σ H Q => ta σ H fun x H1 => tr σ H1 fun xs H2 => Q (x :: xs) H2
section
variable {X : Cx} {e : Expr} {es : List Expr} {te : TE} {t : TA} {pos : Pos}
theorem pa_nil : PA X [] tNil := fun _ _ _ _ H Q I h => Calls.spliced_nil ⟨[], H, I, .nil, h⟩
theorem pa_cons (ha : PE X e te) (hr : PA X es t) (hs : starEach (e :: es) X.env = (false, eval e X.env) :: starEach es X.env := by rfl) : PA X (e :: es) (tCons te t) := by
  intro pos pins s σ H Q I h
  rw [hs]
  show wpAny _ _ (spliced ((false, eval e X.env) :: backTo pos (starEach es X.env))) _ _ s
  refine Calls.spliced_cons (thn (ha pins s σ H _ I h) fun u s1 ⟨x, H1, I1, r1, q1⟩ => ?_)
  exact thn (hr pos pins s1 σ H1 _ I1 q1) fun us s2 ⟨xs, H2, I2, r2, q2⟩ => ⟨x :: xs, H2, I2, .cons r1 r2, q2⟩

end

/-! ### what a def promises -/
/-- a def's promise: the bound arguments in the parameters' order, the heap, the wanted end, the wanted exception -/
abbrev Sp := List V → Hp → VK → XK → Prop
/-- how an exception lies behind a call (file 08 gives it): the callers' frames, abstract heap and state ahead of the call, the wish, the exception, the state -/
abbrev CXT := List Env → Hp → Shared → XK → Value → Shared → Prop

/-- the state at a call -/
structure Env0 (P : Program) (w : World) (K : PySem.W.Frag) (mg : Str → Option Value) (base : Heap) (A : Around) (outer : List Env) (s : Shared) (H : Hp) : Prop where
  frames : A.frames = some outer
  mod : Mod K mg base
  bs : ∀ b o, base.get? b = some o → s.heap.get? b = some o ∧ H b = none
  bsz : base.objs.size ≤ s.heap.objs.size
  funs : s.heap.FunFrames base outer
  frf : ∀ b ∈ frs outer, H b = none
  hok : HOk P w H s.heap
  bare : AllBare s.gens
/-- a call's end -/
def CE (outer : List Env) (P : Program) (w : World) (H : Hp) (s : Shared) (Q : VK) (u : Value) (s' : Shared) : Prop :=
  ∃ v H', s'.os = s.os ∧ AllBare s'.gens ∧ Un (frs outer) [] H H' s.heap s'.heap ∧ HOk P w H' s'.heap ∧ RelV v u ∧ Q v H'
def CR (CX : CXT) (outer : List Env) (P : Program) (w : World) (H : Hp) (s : Shared) (Q : VK) (E : XK) (r : Result) (s' : Shared) : Prop :=
  match r with
  | .ok (.ret u) => CE outer P w H s Q u s'
  | .ok _ => False
  | .error e => CX outer H s E e s'
structure FnOk (P : Program) (w : World) (K : PySem.W.Frag) (mg : Str → Option Value) (base : Heap) (CX : CXT) (k : Nat) (f : Addr) (fd : FuncData) (ps : List Str) (sp : Sp) : Prop where
  len : ∀ vs H Q E, sp vs H Q E → vs.length = ps.length
  run : ∀ (A : Around) (outer : List Env) (s : Shared) (H : Hp) (args : Args) (us : List Value) (vs : List V) (Q : VK) (E : XK), Room k A → Env0 P w K mg base A outer s H → BindsTo s fd args (ps.zip us) → Vals vs us → sp vs H Q E →
    codeAny (model P w) A (.call (.ref f) args) (CR CX outer P w H s Q E) s
theorem FnOk.mono {P : Program} {w : World} {K : PySem.W.Frag} {mg : Str → Option Value} {base : Heap} {CX : CXT} {j k : Nat} {f : Addr} {fd : FuncData} {ps : List Str} {sp : Sp} (F : FnOk P w K mg base CX j f fd ps sp) (h : j ≤ k) :
    FnOk P w K mg base CX k f fd ps sp := ⟨F.len, fun A outer s H args us vs Q E hr => F.run A outer s H args us vs Q E (hr.mono h)⟩
/-- a weaker promise -/
theorem FnOk.imp {P : Program} {w : World} {K : PySem.W.Frag} {mg : Str → Option Value} {base : Heap} {CX : CXT} {k : Nat} {f : Addr} {fd : FuncData} {ps : List Str} {sp sp' : Sp} (F : FnOk P w K mg base CX k f fd ps sp)
    (h : ∀ vs H Q E, sp' vs H Q E → sp vs H Q E) : FnOk P w K mg base CX k f fd ps sp' :=
  ⟨fun vs H Q E q => F.len vs H Q E (h _ _ _ _ q), fun A outer s H args us vs Q E hr he hb hv hs => F.run A outer s H args us vs Q E hr he hb hv (h _ _ _ _ hs)⟩

theorem Env0.make {P : Program} {w : World} {K : PySem.W.Frag} {mg : Str → Option Value} {base : Heap} {A : Around} {outer : List Env} {s : Shared} {H : Hp} (e : Env0 P w K mg base A outer s H) (C : Addr) (us : List Value) (kw : List (Str × Value)) :
    Env0 P w K mg base (A.under (.builtin "type.__call__" ⟨.ref C :: us, kw⟩)) outer s H := ⟨by first | exact e.frames | (simpa [Around.under, Code.envs, Code.isFrame, pushEnvs] using e.frames), e.mod, e.bs, e.bsz, e.funs, e.frf, e.hok, e.bare⟩

section
variable {X : Cx} {pins : List (Addr × Obj)} {σ : St} {H : Hp} {s s' : Shared}
/-- from a body: what a callee wants -/
theorem Inv.env0 (I : Inv X pins σ H s) : Env0 X.prog X.w X.K X.mg X.base X.A X.stack s H :=
  ⟨I.ok.frames, I.ok.mod, I.bs, Nat.le_trans I.ok.bsz I.sz, I.stack, I.stkFree, I.hok, I.bare⟩
/-- behind a call -/
theorem Inv.after {Q : VK} {u : Value} (I : Inv X pins σ H s) (h : CE X.stack X.prog X.w H s Q u s') : EP X pins σ Q u s' := by
  obtain ⟨v, H', os, bare, un, hok, r, q⟩ := h
  obtain ⟨hh, g, d, t, os'⟩ := s'
  obtain rfl : os' = s.os := os
  exact ⟨v, H', I.call (h' := hh) (g' := g) (d' := d) (t' := t) (ch := []) un hok bare (fun b z => absurd z (by simp)), r, q⟩
end

/-! ### calls -/
/-- f(..): the written arguments, then the defaults dvs; E: what is wanted of an exception -/
def tCall (sp : Sp) (dvs : List V) (E : XK) (t : TA) : TE := fun σ H Q => t σ H fun vs H1 => sp (vs ++ dvs) H1 Q E
/-- o.m(..) of an instance of the class at C -/
inductive TMethI (C : Addr) (m : Str) (sp : Sp) (dvs : List V) (E : XK) (t : TA) (σ : L2.St) (x : V) (H1 : Hp) (Q : VK) : Prop where
  | mk (a : _) (dx : _) (fs : _) (c1 : x = .ref a) (c2 : H1 a = some (.ins C dx fs)) (c3 : fs.lookup m = none) (c4 : t σ H1 fun vs H2 => sp (x :: (vs ++ dvs)) H2 Q E)
def tMeth (C : Addr) (m : Str) (sp : Sp) (dvs : List V) (E : XK) (ta : TE) (t : TA) : TE := fun σ H Q => ta σ H fun x H1 => TMethI C m sp dvs E t σ x H1 Q
/-- C(..): a new instance and its dict, then __init__ -/
def tMake (C : Addr) (sp : Sp) (dvs : List V) (E : XK) (t : TA) : TE := fun σ H Q => t σ H fun vs H1 => ∀ x dx, H1 x = none → H1 dx = none → dx ≠ x →
  sp (.ref x :: (vs ++ dvs)) (upd (upd H1 dx (.own x)) x (.ins C dx [])) (fun v H2 => v = .non ∧ Q (.ref x) H2) E

/-- how the parameters are bound: us the positional arguments, kw the keywords' values by name, ds the defaults that fill up -/
def Binds (K : PySem.W.Frag) (fd : FuncData) (ps : List Str) (ds : List Value) : Prop :=
  ∀ (s : Shared) (us : List Value), K.In s.heap → (us ++ ds).length = ps.length → BindsTo s fd ⟨us, []⟩ (ps.zip (us ++ ds))
/-- every parameter is given -/
theorem Binds.all {K : PySem.W.Frag} {fd : FuncData} {ps : List Str} (h : ∀ us : List Value, us.length = ps.length → bindArgs fd ⟨us, []⟩ = pure (ps.zip us)) : Binds K fd ps [] := fun s us _ hl => by
  rw [List.append_nil] at hl ⊢
  exact .of_eq (h us hl)

/-- an exception of a callee reaches what this body wants of exceptions -/
def Passes (CX : CXT) (X : Cx) (E : XK) : Prop := ∀ (pins : List (Addr × Obj)) (σ : St) (H : Hp) (s : Shared) (e : Value) (s' : Shared), Inv X pins σ H s → CX X.stack H s E e s' → X.xe e s'

section
variable {X : Cx} {CX : CXT} {k : Nat} {f C : Addr} {fd : FuncData} {ps : List Str} {sp : Sp} {dvs : List V} {ds : List Value} {E : XK} {x m : Str} {p pos apos : Pos} {e o : Expr} {es : List Expr} {ta : TE} {t : TA}

/-- the callee runs -/
theorem run_fn {pins : List (Addr × Obj)} {σ : St} {H : Hp} {s : Shared} {Q : VK} {us : List Value} {vs : List V} (F : FnOk X.prog X.w X.K X.mg X.base CX k f fd ps sp) (hr : Room k X.A) (hb : Binds X.K fd ps ds) (hd : Vals dvs ds) (hx : Passes CX X E)
    (I : Inv X pins σ H s) (r : Vals vs us) (h : sp (vs ++ dvs) H Q E) : wpAny (model X.prog X.w) X.A (call (.ref f) us) (EP X pins σ Q) X.xe s := by
  have r2 : Vals (vs ++ dvs) (us ++ ds) := r.append hd
  have hl : (us ++ ds).length = ps.length := by rw [← r2.length]; exact F.len _ _ _ _ h
  refine wpAny_call (codeAny_mono (F.run X.A X.stack s H ⟨us, []⟩ (us ++ ds) (vs ++ dvs) Q E hr I.env0 (hb s us I.kIn hl) r2 h) fun r s' hq => ?_)
  cases r with
  | error e => exact hx pins σ H s e s' I hq
  | ok fl =>
    cases fl with
    | ret u => exact I.after hq
    | next => exact False.elim hq
    | brk => exact False.elim hq
    | cont => exact False.elim hq

theorem pe_call (F : FnOk X.prog X.w X.K X.mg X.base CX k f fd ps sp) (hr : Room k X.A) (hg : Gl X x) (hm : X.mg x = some (.ref f)) (hk : PySem.W.keepIn X.K (.ref f) = true) (hb : Binds X.K fd ps ds) (hd : Vals dvs ds) (hx : Passes CX X E)
    (ha : PA X (e :: es) t) (hdb : (x == ("__debug__" : Str)) = false := by decide) (he : starEach (e :: es) X.env = (false, eval e X.env) :: starEach es X.env := by rfl) (hpl : (backTo pos (starEach es X.env)).any (·.1) = false := by rfl) :
    PE X (.Call (.Name x p) (e :: es) [] pos) (tCall sp dvs E t) := by
  intro pins s σ H Q I h
  refine wpAny_Call_Name_kw (ld_glob I hg hm ?_ hdb)
  refine PySem.W.callWith_K (h₀ := X.base) I.ok.mod.kin hk (thn (ha pos pins s σ H _ I h) fun us s1 ⟨vs, H1, I1, r, q⟩ => ⟨I1.kIn, ?_⟩) he hpl
  exact run_fn F hr hb hd hx I1 r q

/-- o.m(e, ..) -/
theorem pe_meth {pl : Sem Bool} (he : PE X o ta) (c : Cls X.K C) (hm : Meth X.K C m f) (F : FnOk X.prog X.w X.K X.mg X.base CX k f fd ps sp) (hr : Room k X.A) (hb : Binds X.K fd ps ds) (hd : Vals dvs ds) (hx : Passes CX X E) (ha : PA X (e :: es) t)
    (hst : starEach (e :: es) X.env = (false, eval e X.env) :: starEach es X.env := by rfl) (hpl : (backTo pos (starEach es X.env)).any (·.1) = false := by rfl)
    (ht : eval (.Call (.Attribute o m apos) (e :: es) [] pos) X.env = (do
      let ov ← eval o X.env
      standAt apos.atName
      let (f, first) ← holding [ov] (getMethod ov m pl)
      callWith pos f first (backTo pos (starEach (e :: es) X.env)) (backToKw pos (keywordEach [] X.env))) := by rfl) :
    PE X (.Call (.Attribute o m apos) (e :: es) [] pos) (tMeth C m sp dvs E ta t) := by
  intro pins s σ H Q I h
  refine PySem.W.methodCall_KW (pl := pl) (thn (he pins s σ H _ I h) fun u s1 ⟨x, H1, I1, rx, a, dx, fs, ex, ea, l, q⟩ => ?_) ht
  subst ex
  obtain rfl : u = Value.ref a := rx
  refine getmeth_ok I1 ea c hm l ?_
  refine PySem.W.callWith_K (first := [.ref a]) (h₀ := X.base) I.ok.mod.kin hm.kp (thn (ha pos pins s1 σ H1 _ I1 q) fun us s2 ⟨vs, H2, I2, r, q2⟩ => ⟨I2.kIn, ?_⟩) hst hpl
  exact run_fn (us := .ref a :: us) (vs := .ref a :: vs) F hr hb hd hx I2 (.cons rfl r) q2
/-- o.m() -/
theorem pe_meth0 {pl : Sem Bool} (he : PE X o ta) (c : Cls X.K C) (hm : Meth X.K C m f) (F : FnOk X.prog X.w X.K X.mg X.base CX k f fd ps sp) (hr : Room k X.A) (hb : Binds X.K fd ps ds) (hd : Vals dvs ds) (hx : Passes CX X E)
    (ht : eval (.Call (.Attribute o m apos) [] [] pos) X.env = (do
      let ov ← eval o X.env
      standAt apos.atName
      let (f, first) ← holding [ov] (getMethod ov m pl)
      callWith pos f first (backTo pos (starEach [] X.env)) (backToKw pos (keywordEach [] X.env))) := by rfl) :
    PE X (.Call (.Attribute o m apos) [] [] pos) (tMeth C m sp dvs E ta tNil) := by
  intro pins s σ H Q I h
  refine PySem.W.methodCall_KW (pl := pl) (thn (he pins s σ H _ I h) fun u s1 ⟨x, H1, I1, rx, a, dx, fs, ex, ea, l, q⟩ => ?_) ht
  subst ex
  obtain rfl : u = Value.ref a := rx
  refine getmeth_ok I1 ea c hm l ?_
  exact PySem.W.callWith_K0 (first := [.ref a]) I1.kIn hm.kp (run_fn (us := [.ref a]) (vs := [.ref a]) F hr hb hd hx I1 (.cons rfl .nil) q)

/-- what a class must have to be made -/
structure Mk (K : PySem.W.Frag) (C f : Addr) : Prop where
  makes : PySem.W.makesIn K C = true
  init : PySem.W.findIn K (.ref C) "__init__" = some (some (.ref f))
  fn : PySem.W.isFn K (.ref f) = true
  kp : PySem.W.keepIn K (.ref C) = true

theorem run_make {pins : List (Addr × Obj)} {σ : St} {H : Hp} {s : Shared} {Q : VK} {us : List Value} {vs : List V} (M : Mk X.K C f) (F : FnOk X.prog X.w X.K X.mg X.base CX k f fd ps sp) (hr : Room (k + 1) X.A) (hb : Binds X.K fd ps ds) (hd : Vals dvs ds)
    (hx : Passes CX X E) (I : Inv X pins σ H s) (r : Vals vs us)
    (h : ∀ x dx, H x = none → H dx = none → dx ≠ x → sp (.ref x :: (vs ++ dvs)) (upd (upd H dx (.own x)) x (.ins C dx [])) (fun v H2 => v = .non ∧ Q (.ref x) H2) E) :
    wpAny (model X.prog X.w) X.A (call (.ref C) us) (EP X pins σ Q) X.xe s := by
  have hq := h (s.heap.objs.size + 1) s.heap.objs.size (I.hok.fresh (Nat.le_succ _)) (I.hok.fresh (Nat.le_refl _)) (Nat.ne_of_lt (Nat.lt_succ_self _))
  have I2 := Inv.made (C := C) I
  have r2 : Vals (V.ref (s.heap.objs.size + 1) :: (vs ++ dvs)) (Value.ref (s.heap.objs.size + 1) :: (us ++ ds)) := .cons rfl (r.append hd)
  have hl : (Value.ref (s.heap.objs.size + 1) :: us ++ ds).length = ps.length := by
    have e := r2.length
    rw [F.len _ _ _ _ hq] at e
    exact e.symm
  refine wpAny_call (make_map (f := f) I.kIn M.makes M.init (beq_iff_eq.mp M.fn) (codeAny_mono (F.run _ X.stack _ _ ⟨Value.ref (s.heap.objs.size + 1) :: us, []⟩ (Value.ref (s.heap.objs.size + 1) :: (us ++ ds)) _ _ E (hr.make C us [])
    (I2.env0.make C us []) (hb _ (Value.ref (s.heap.objs.size + 1) :: us) I2.kIn hl) r2 hq) fun r s' hq' => ?_))
  cases r with
  | error e => exact hx pins σ _ _ e s' I2 hq'
  | ok fl =>
    cases fl with
    | ret u =>
      obtain ⟨v, H', I3, rv, ev, q3⟩ := I2.after hq'
      subst ev
      exact ⟨rv, ⟨V.ref (s.heap.objs.size + 1), H', I3, rfl, q3⟩⟩
    | next => exact False.elim hq'
    | brk => exact False.elim hq'
    | cont => exact False.elim hq'
theorem pe_make (M : Mk X.K C f) (F : FnOk X.prog X.w X.K X.mg X.base CX k f fd ps sp) (hr : Room (k + 1) X.A) (hg : Gl X x) (hm : X.mg x = some (.ref C)) (hb : Binds X.K fd ps ds) (hd : Vals dvs ds) (hx : Passes CX X E)
    (ha : PA X (e :: es) t) (hdb : (x == ("__debug__" : Str)) = false := by decide) (he : starEach (e :: es) X.env = (false, eval e X.env) :: starEach es X.env := by rfl) (hpl : (backTo pos (starEach es X.env)).any (·.1) = false := by rfl) :
    PE X (.Call (.Name x p) (e :: es) [] pos) (tMake C sp dvs E t) := by
  intro pins s σ H Q I h
  refine wpAny_Call_Name_kw (ld_glob I hg hm ?_ hdb)
  refine PySem.W.callWith_K (h₀ := X.base) I.ok.mod.kin M.kp (thn (ha pos pins s σ H _ I h) fun us s1 ⟨vs, H1, I1, r, q⟩ => ⟨I1.kIn, ?_⟩) he hpl
  exact run_make M F hr hb hd hx I1 r q
end

/-! ### keywords -/
section
variable {X : Cx} {CX : CXT} {k : Nat} {f C : Addr} {fd : FuncData} {ps ks : List Str} {sp : Sp} {E : XK} {x m : Str} {p pos apos kpos : Pos} {e o : Expr} {es : List Expr} {kws : List Keyword} {te ta : TE} {t tk : TA} {nm : Option Str}

variable {g : List Value → List Value → List Value} {gV : List V → List V → List V}
end

/-! ### a def's body keeps its promise -/
/-- names: the parameters first -/
structure FnScope (N P : List Str) (sc : Scope) : Prop where
  kind : sc.kind = .function
  co : sc.isCoroutine = false
  gen : sc.isGenerator = false
  nd : N.Nodup
  pre : N.take P.length = P
  par : ∀ x ∈ P, sc.names.lookup x = some .local ∨ sc.names.lookup x = some .cell
  nofree : ∀ y ∈ sc.names, y.2 ≠ .free

theorem bindL_out {kindOf : Str → Option NameKind} {x : Str} : ∀ {binds : List (Str × Value)} {m : Str → Option Value}, (∀ v, (x, v) ∉ binds) → bindL kindOf binds m x = m x
  | [], _, _ => rfl
  | (n, v) :: r, m, h => by
    unfold bindL
    rw [bindL_out fun w hw => h w (List.mem_cons_of_mem _ hw)]
    split
    · have : x ≠ n := by rintro rfl; exact h v List.mem_cons_self
      simp [this]
    · rfl
theorem bindC_out {kindOf : Str → Option NameKind} {x : Str} : ∀ {binds : List (Str × Value)} {m : Str → Option Value}, (∀ v, (x, v) ∉ binds) → bindC kindOf binds m x = m x
  | [], _, _ => rfl
  | (n, v) :: r, m, h => by
    unfold bindC
    rw [bindC_out fun w hw => h w (List.mem_cons_of_mem _ hw)]
    split
    · rfl
    · have : x ≠ n := by rintro rfl; exact h v List.mem_cons_self
      simp [this]
theorem bindL_get {kindOf : Str → Option NameKind} {x : Str} {v : Value} : ∀ {P : List Str} {vs : List Value} {i : Nat} {m : Str → Option Value}, P.Nodup → P[i]? = some x → vs[i]? = some v → kindOf x = some .local →
    bindL kindOf (P.zip vs) m x = some v
  | [], _, _, _, _, h, _, _ => by simp at h
  | _ :: _, [], _, _, _, _, h, _ => by simp at h
  | p :: P, w :: vs, 0, m, nd, h1, h2, hk => by
    simp at h1 h2; subst h1; subst h2
    show bindL kindOf ((p, w) :: P.zip vs) m p = _
    unfold bindL
    rw [bindL_out fun v hv => (List.nodup_cons.mp nd).1 (List.of_mem_zip hv).1, if_pos hk]
    simp
  | p :: P, w :: vs, i + 1, m, nd, h1, h2, hk => by
    show bindL kindOf ((p, w) :: P.zip vs) m x = _
    unfold bindL
    exact bindL_get (i := i) (List.nodup_cons.mp nd).2 (by simpa using h1) (by simpa using h2) hk
theorem bindC_get {kindOf : Str → Option NameKind} {x : Str} {v : Value} : ∀ {P : List Str} {vs : List Value} {i : Nat} {m : Str → Option Value}, P.Nodup → P[i]? = some x → vs[i]? = some v → kindOf x ≠ some .local →
    bindC kindOf (P.zip vs) m x = some v
  | [], _, _, _, _, h, _, _ => by simp at h
  | _ :: _, [], _, _, _, _, h, _ => by simp at h
  | p :: P, w :: vs, 0, m, nd, h1, h2, hk => by
    simp at h1 h2; subst h1; subst h2
    show bindC kindOf ((p, w) :: P.zip vs) m p = _
    unfold bindC
    rw [bindC_out fun v hv => (List.nodup_cons.mp nd).1 (List.of_mem_zip hv).1, if_neg hk]
    simp
  | p :: P, w :: vs, i + 1, m, nd, h1, h2, hk => by
    show bindC kindOf ((p, w) :: P.zip vs) m x = _
    unfold bindC
    exact bindC_get (i := i) (List.nodup_cons.mp nd).2 (by simpa using h1) (by simpa using h2) hk

/-- the names' values at the entry -/
def start (N : List Str) (vs : List V) : St := vs.map some ++ List.replicate (N.length - vs.length) none

/-- the context of a def's body, at its entry; an exception leaves the frame, then lies as CX says -/
def cxOf (CX : CXT) (P : Program) (w : World) (K : PySem.W.Frag) (mg : Str → Option Value) (base : Heap) (N : List Str) (qual : Str) (scope : Scope) (f : Addr) (cd : Value) (A : Around) (outer : List Env) (s : Shared) (H : Hp) (E : XK) : Cx where
  prog := P
  w := w
  K := K
  mg := mg
  base := base
  A := A.deeper (envOfC qual scope s.heap.objs.size f cd)
  N := N
  s₀ := s
  H₀ := H
  env := envOfC qual scope s.heap.objs.size f cd
  outer := outer
  stack := envOfC qual scope s.heap.objs.size f cd :: outer
  ex := []
  calm := true
  fn := fun _ => true
  pn := []
  xe := fun e s' => wpAny (model P w) (A.deeper (envOfC qual scope s.heap.objs.size f cd)) (leaving (envOfC qual scope s.heap.objs.size f cd) e) (fun _ s'' => CX outer H s E e s'') (fun e' s'' => CX outer H s E e' s'') s'

theorem cell_has {sc : Scope} {n : Nat} {x : Str} (h : sc.names.lookup x = some .cell) : ∃ c, (cellsFrom n sc.names []).lookup x = some c := by
  have q := PySem.W.cellsFrom_some sc.names n [] (.inl h)
  exact Option.isSome_iff_exists.mp q

theorem inv_start {CX : CXT} {P : Program} {w : World} {K : PySem.W.Frag} {mg : Str → Option Value} {base : Heap} {N ps : List Str} {qual : Str} {scope : Scope} {f : Addr} {cd : Value} {A : Around} {outer : List Env} {s s1 : Shared} {H : Hp} {E : XK} {us : List Value} {vs : List V}
    (S : FnScope N ps scope) (hd : A.handled = none) (e0 : Env0 P w K mg base A outer s H) (hl : vs.length = ps.length) (r : Vals vs us)
    (x : InCallC s s.heap.objs.size (bindL (envOfC qual scope s.heap.objs.size f cd).kindOf (ps.zip us) fun _ => none) (cellsFrom (s.heap.objs.size + 1) scope.names []) (bindC (envOfC qual scope s.heap.objs.size f cd).kindOf (ps.zip us) fun _ => none) s1) :
    Inv (cxOf CX P w K mg base N qual scope f cd A outer s H E) [] (start N vs) H s1 := by
  have hpl : ps.length ≤ N.length := by have := congrArg List.length S.pre; rw [List.length_take] at this; omega
  obtain ⟨h1, tk, rfl, hk⟩ := x.done
  have noA : ∀ b : Addr, b ∉ (cxOf CX P w K mg base N qual scope f cd A outer s H E).ex := fun b z => absurd (show b ∈ ([] : List Addr) from z) (by simp)
  refine ⟨⟨e0.mod, S.kind, rfl, rfl, Nat.le_refl _, fun y z c h1 h2 => ?_, fun y hy => ?_, fun y c _ h => ?_, fun _ => hd, Around.frames_deeper e0.frames, .inr ⟨rfl, rfl⟩, fun b z => absurd z (noA b), e0.bs, e0.bsz, fun b _ _ => noA b, fun b z => absurd z (noA b), e0.funs, e0.frf⟩,
    rfl, e0.bare, Un.kept hk, ⟨_, x.toInCall.ns, fun i y v h1 h2 h3 => ?_⟩, fun y c h => ⟨_, x.cell y c h⟩, e0.hok.fresh (Nat.le_refl _), fun y c h => ?_, fun p hp => absurd (show p ∈ ([] : List (Addr × Obj)) from hp) (by simp), e0.hok.kept hk, ?_⟩
  · exact name_of_addr x.apart (PySem.mem_of_lookup h1) (PySem.mem_of_lookup h2)
  · have hy : scope.names.lookup y = some .cell ∨ scope.names.lookup y = some .free := hy
    rcases hy with hy | hy
    · exact cell_has hy
    · exact absurd rfl (S.nofree _ (PySem.mem_of_lookup hy))
  · exact Nat.le_of_lt (x.above y c (PySem.mem_of_lookup h))
  · have hi : i < vs.length := by
      unfold start at h2
      by_cases hi : i < vs.length
      · exact hi
      · rw [List.getElem?_append_right (by simpa using hi)] at h2
        rw [List.getElem?_replicate] at h2
        split at h2 <;> cases h2
    have ha : vs[i]? = some v := by
      unfold start at h2
      rw [List.getElem?_append_left (by simpa using hi), List.getElem?_map] at h2
      cases e : vs[i]? with
      | none => rw [e] at h2; cases h2
      | some a => rw [e] at h2; cases h2; rfl
    obtain ⟨u, hu, rv⟩ := r.get ha
    have hp : ps[i]? = some y := by
      rw [← S.pre, List.getElem?_take_of_lt (by omega)]; exact h1
    have ndP : ps.Nodup := by rw [← S.pre]; exact S.nd.sublist (List.take_sublist _ _)
    refine ⟨u, rv, ?_⟩
    rcases S.par y (List.mem_of_getElem? hp) with k | k
    · exact .inl ⟨k, bindL_get ndP hp hu k⟩
    · obtain ⟨c, e⟩ := cell_has (n := s.heap.objs.size + 1) k
      refine .inr ⟨.inl k, c, e, ?_⟩
      have q := x.cell y c e
      rw [bindC_get ndP hp hu (by show scope.names.lookup y ≠ _; rw [k]; decide)] at q
      exact q
  · exact e0.hok.fresh (Nat.le_of_lt (x.above y c (PySem.mem_of_lookup h)))
  · unfold start
    show _ = N.length
    rw [List.length_append, List.length_map, List.length_replicate]
    omega

/-- THE RULE: a def (or a method) of the text, by its body. The body's reading t is chosen for each entry; it is run at the parameters' values -/
theorem fn_of {CX : CXT} {P : Program} {w : World} {K : PySem.W.Frag} {mg : Str → Option Value} {base : Heap} {k : Nat} {f : Addr} {name qual : Str} {params : Arguments} {body : List Stmt} {scope : Scope} {dV kV doc pm cdv ct oc : Value} {an od : Option Addr}
    {osl : Array (Option Value)} {N ps : List Str} {sp : Sp} (lk : K.lookup f = some ⟨oc, od, .func (PySem.W.fnOf name qual params body scope dV kV doc pm an cdv ct), osl⟩) (hcd : PySem.W.codeIn K cdv qual = true) (S : FnScope N ps scope)
    (len : ∀ vs H Q E, sp vs H Q E → vs.length = ps.length)
    (hbody : ∀ (A : Around) (outer : List Env) (s : Shared) (H : Hp) (vs : List V) (Q : VK) (E : XK), Room k (A.deeper (envOfC qual scope s.heap.objs.size f cdv)) → sp vs H Q E →
      ∃ t, PSs (cxOf CX P w K mg base N qual scope f cdv A outer s H E) body t ∧ t { nx := fun _ H' => Q .non H', rt := Q } (start N vs) H) :
    FnOk P w K mg base CX (k + 1) f (PySem.W.fnOf name qual params body scope dV kV doc pm an cdv ct) ps sp := by
  refine ⟨len, fun A outer s H args us vs Q E hr e0 hb r hsp => ?_⟩
  have hl := len _ _ _ _ hsp
  have KX : K.In s.heap := e0.mod.kin.keeps fun b o e => (e0.bs b o e).1
  have lim : s.heap.NoLimit := e0.mod.nolimit.keeps fun b o e => (e0.bs b o e).1
  have hkind : ∀ y ∈ ps.zip us, scope.names.lookup y.1 = some .local ∨ (scope.names.lookup y.1 = some .cell ∧ ((cellsFrom (s.heap.objs.size + 1) scope.names []).lookup y.1).isSome = true) := fun ⟨n, v⟩ hy => by
    rcases S.par n (List.of_mem_zip hy).1 with q | q
    · exact .inl q
    · exact .inr ⟨q, PySem.W.cellsFrom_some _ _ _ (.inl q)⟩
  refine codeAny_call_function hr.depth (KX _ _ lk) rfl S.co S.gen rfl (PySem.W.codeRec_of KX hcd) (hb _ _ _ _ ?_)
  refine wpAny_newFunctionEnv_cells S.kind hkind fun env he s1 x => ?_
  subst he
  refine ⟨lim.keeps x.toInCall.keep, codeAny_func ?_⟩
  obtain ⟨t, ht, hq⟩ := hbody A outer s H vs Q E (hr.deeper _) hsp
  have I : Inv (cxOf CX P w K mg base N qual scope f cdv A outer s H E) [] (start N vs) H s1 := inv_start S hr.hd e0 hl r x
  refine wpAny_mono (ht [] s1 (start N vs) H _ I hq) (fun fl s' hs => ?_) fun e s' hs => hs
  have fin : ∀ {σ' : St} {H' : Hp} {v : V} {u : Value}, Inv (cxOf CX P w K mg base N qual scope f cdv A outer s H E) [] σ' H' s' → RelV v u → Q v H' → CE outer P w H s Q u s' :=
    fun {σ' H' v u} J rv q => ⟨v, H', J.os, J.bare, J.base, J.hok, rv, q⟩
  cases fl with
  | ret u =>
    obtain ⟨v, σ', H', J, rv, q⟩ := hs
    exact fin J rv q
  | next =>
    obtain ⟨σ', H', J, q⟩ := hs
    exact fin (v := V.non) (u := Value.none) J rfl q
  | brk =>
    obtain ⟨_, _, _, q⟩ := hs
    exact False.elim q
  | cont =>
    obtain ⟨_, _, _, q⟩ := hs
    exact False.elim q
end L2

namespace L2
open PySem PySem.Spec PyProof.Rows
section
variable {X : Cx} {x : Str} {p pos : Pos} {e : Expr} {es : List Expr} {t : TA} {id T : String} {r : List V → Hp → VK → Prop}

def tCB (r : List V → Hp → VK → Prop) (t : TA) : TE := fun σ H Q => t σ H fun vs H1 => r vs H1 Q
/-- f(e, ..), f a built-in function -/
theorem pe_callB (hc : CallR X (.builtin id) r) (hg : Gl X x) (hm : X.mg x = none) (hv : bootBuiltins x = some (.builtin id)) (ha : PA X (e :: es) t) (hn : x ≠ "__name__" := by decide) (hdb : (x == ("__debug__" : Str)) = false := by decide)
    (he : starEach (e :: es) X.env = (false, eval e X.env) :: starEach es X.env := by rfl) (hpl : (backTo pos (starEach es X.env)).any (·.1) = false := by rfl) : PE X (.Call (.Name x p) (e :: es) [] pos) (tCB r t) := by
  intro pins s σ H Q I h
  refine wpAny_Call_Name_kw (ld_blt I hg hm hv ?_ hn hdb)
  exact PyProof.Rows.callWith_builtin1 (thn (ha pos pins s σ H _ I h) fun us s1 ⟨vs, H1, I1, r1, q1⟩ => hc pins s1 σ H1 vs us Q I1 r1 q1) he hpl
/-- T(e, ..), T a built-in type -/
theorem pe_callTy (hc : CallR X (.type T) r) (hg : Gl X x) (hm : X.mg x = none) (hv : bootBuiltins x = some (.type T)) (ha : PA X (e :: es) t) (hn : x ≠ "__name__" := by decide) (hdb : (x == ("__debug__" : Str)) = false := by decide)
    (he : starEach (e :: es) X.env = (false, eval e X.env) :: starEach es X.env := by rfl) (hpl : (backTo pos (starEach es X.env)).any (·.1) = false := by rfl) : PE X (.Call (.Name x p) (e :: es) [] pos) (tCB r t) := by
  intro pins s σ H Q I h
  refine wpAny_Call_Name_kw (ld_blt I hg hm hv ?_ hn hdb)
  exact PyProof.Rows.callWith_type1 (thn (ha pos pins s σ H _ I h) fun us s1 ⟨vs, H1, I1, r1, q1⟩ => hc pins s1 σ H1 vs us Q I1 r1 q1) he hpl
end
end L2

namespace HT
open PySem PyProof.Rows



section
open PySem.SeqAt
open PySem.AutoSeq1 (wpAny_loadPart')
open PySem.MeetsSeq PySem.MeetsSeq2 PySem.MeetsSeq3

end

section
variable {prog : Program} {w : World} {A : Around} {E : Value → Shared → Prop} {s : Shared}



/-! ### t[a:b], not the whole -/
/-- a slice's bound as a place among n (d where it is left out) -/
def sIx (n d : Nat) : Option Int → Nat
  | none => d
  | some v => if v < 0 then (v + (n : Int)).toNat else min v.toNat n
theorem sIx_nat (n d k : Nat) : sIx n d (some (k : Int)) = min k n := by
  show (if (k : Int) < 0 then ((k : Int) + (n : Int)).toNat else min (k : Int).toNat n) = min k n
  rw [if_neg (by omega), Int.toNat_natCast]

end
end HT

namespace L2
open PySem PySem.Spec PyProof.Rows

/-! ### the parts of a slice -/
abbrev TO := St → Hp → (Option Int → Hp → Prop) → Prop
/-- a slice's part (left out, or an int) -/
def PO (X : Cx) (e : Option Expr) (t : TO) : Prop :=
  ∀ (pins : List (Addr × Obj)) (s : Shared) (σ : St) (H : Hp) (Q : Option Int → Hp → Prop), Inv X pins σ H s → t σ H Q →
    wpAny (model X.prog X.w) X.A (evalPart e X.env) (fun u s' => ∃ o H', Inv X pins σ H' s' ∧ IsPart u o ∧ Q o H') X.xe s
def tNoPart : TO := fun _ H Q => Q none H
inductive TPartI (x : V) (H1 : Hp) (Q : Option Int → Hp → Prop) : Prop where
  | mk (i : _) (c1 : x = .int i) (c2 : Q (some i) H1)
def tPart (t : TE) : TO := fun σ H Q => t σ H fun x H1 => TPartI x H1 Q


section
variable {X : Cx} {e : Expr} {te : TE} {lo hi : Option Expr} {tl th : TO} {pos p2 : Pos}

theorem po_none : PO X none tNoPart := by
  intro pins s σ H Q I h
  rw [evalPart_none]
  exact wpAny_pure ⟨none, H, I, .none, h⟩
theorem po_some (h : PE X e te) : PO X (some e) (tPart te) := by
  intro pins s σ H Q I hw
  rw [evalPart_some]
  refine thn (h pins s σ H _ I hw) fun u s1 ⟨x, H1, I1, r1, q1⟩ => ?_
  obtain ⟨i, rfl, q⟩ := q1
  obtain ⟨t, rfl⟩ := r1
  exact ⟨some i, H1, I1, .int i t, q⟩

/-- what a slice of a value is, by values: the slice object stands at sl -/
def SlR (X : Cx) (r : V → Option Int → Option Int → Hp → VK → Prop) : Prop :=
  ∀ (pins : List (Addr × Obj)) (s : Shared) (σ : St) (H : Hp) (x : V) (v vl vu : Value) (lo hi : Option Int) (sl : Addr) (Q : VK), Inv X pins σ H s → RelV x v → s.heap.IsSliceOf sl vl vu .none → IsPart vl lo → IsPart vu hi → r x lo hi H Q →
    ∃ T id, typeLookup (.type T) "__getitem__" = pure (some (.builtin id)) ∧ s.TypeIs v T ∧ wpAny (model X.prog X.w) X.A (getItem v (.ref sl)) (EP X pins σ Q) X.xe s
theorem SlR.or {r r' : V → Option Int → Option Int → Hp → VK → Prop} (h : SlR X r) (h' : SlR X r') : SlR X (fun x lo hi H Q => r x lo hi H Q ∨ r' x lo hi H Q) := by
  intro pins s σ H x v vl vu lo hi sl Q I rx hs pl pu q
  rcases q with q | q
  · exact h pins s σ H x v vl vu lo hi sl Q I rx hs pl pu q
  · exact h' pins s σ H x v vl vu lo hi sl Q I rx hs pl pu q
def tSl (r : V → Option Int → Option Int → Hp → VK → Prop) (te : TE) (tl th : TO) : TE := fun σ H Q => te σ H fun x H1 => tl σ H1 fun l H2 => th σ H2 fun u H3 => r x l u H3 Q
/-- a[lo:hi], any a -/
theorem pe_slice {r : V → Option Int → Option Int → Hp → VK → Prop} (hr : SlR X r) (he : PE X e te) (hl : PO X lo tl) (hu : PO X hi th) : PE X (.Subscript e (.Slice lo hi none p2) pos) (tSl r te tl th) := by
  intro pins s σ H Q I h
  refine Subscript_ (thn (he pins s σ H _ I h) fun v s1 ⟨x, H1, I1, r1, q1⟩ => ?_)
  refine wpAny_Slice (thn (hl pins s1 σ H1 _ I1 q1) fun vl s2 ⟨l, H2, I2, pl, q2⟩ => thn (hu pins s2 σ H2 _ I2 q2) fun vu s3 ⟨u, H3, I3, pu, q3⟩ => ?_)
  rw [evalPart_none]
  refine wpAny_pure ?_
  have I4 : Inv X pins σ H3 { s3 with heap := s3.heap.push { cls := .type "slice", data := .fields #[vl, vu, .none] } } := I3.kept (t' := s3.toks) fun b ob q => Heap.get?_push_of_some _ q
  obtain ⟨T, id, hT, ht, hg⟩ := hr pins { s3 with heap := s3.heap.push { cls := .type "slice", data := .fields #[vl, vu, .none] } } σ H3 x v vl vu l u s3.heap.objs.size Q I4 r1 (Heap.IsSliceOf.new ..) pl pu q3
  show wpAny (model X.prog X.w) X.A (subscriptTail e (.Slice lo hi none p2) v (.ref s3.heap.objs.size)) (EP X pins σ Q) X.xe { s3 with heap := s3.heap.push { cls := .type "slice", data := .fields #[vl, vu, .none] } }
  exact tail_any (ops := [.ref s3.heap.objs.size, v]) ht hT hg (by with_unfolding_all rfl)

/-- the items of xs[lo:hi] -/
def cutV (xs : List V) (lo hi : Option Int) : List V := (xs.drop (HT.sIx xs.length 0 lo)).take (HT.sIx xs.length xs.length hi - HT.sIx xs.length 0 lo)
theorem cutV_length (xs : List V) (lo hi : Option Int) : (cutV xs lo hi).length ≤ xs.length := by
  unfold cutV
  rw [List.length_take, List.length_drop]
  omega

/-! ### t < u, t + u -/
end
end L2

namespace L2
open PySem PySem.Spec PyProof.Rows

/-! ### places -/
/-- the place that an index of any sign means -/
def ixN (n : Nat) (i : Int) : Option Nat := if 0 ≤ i then (if i < n then some i.toNat else none) else if -(n : Int) ≤ i then some (i + n).toNat else none
def atI {α : Type} (xs : List α) (i : Int) : Option α := (ixN xs.length i).bind fun j => xs[j]?
theorem ixN_seq {n : Nat} {i : Int} {j : Nat} (h : ixN n i = some j) : seqIndex? i n = some j ∧ j < n ∧ -(n : Int) ≤ i ∧ i < n := by
  unfold ixN at h
  by_cases h0 : 0 ≤ i
  · rw [if_pos h0] at h
    by_cases h1 : i < n
    · rw [if_pos h1] at h
      have e : i.toNat = j := Option.some.inj h
      exact ⟨by rw [seqIndex_of h0 h1, e], by omega, by omega, h1⟩
    · rw [if_neg h1] at h; cases h
  · rw [if_neg h0] at h
    by_cases h1 : -(n : Int) ≤ i
    · rw [if_pos h1] at h
      have e : (i + n).toNat = j := Option.some.inj h
      exact ⟨by rw [seqIndex_neg (by omega) h1, e], by omega, h1, by omega⟩
    · rw [if_neg h1] at h; cases h
theorem atI_get {α : Type} {xs : List α} {i : Int} {v : α} (h : atI xs i = some v) : ∃ j, seqIndex? i xs.length = some j ∧ xs[j]? = some v ∧ j < xs.length ∧ -(xs.length : Int) ≤ i ∧ i < xs.length := by
  unfold atI at h
  cases e : ixN xs.length i with
  | none => rw [e] at h; cases h
  | some j =>
    rw [e] at h
    obtain ⟨h1, h2, h3, h4⟩ := ixN_seq e
    exact ⟨j, h1, h, h2, h3, h4⟩
theorem atI_nat {α : Type} {xs : List α} {j : Nat} {v : α} (h : xs[j]? = some v) : atI xs (j : Int) = some v := by
  have hj : j < xs.length := (List.getElem?_eq_some_iff.mp h).1
  have e : ixN xs.length (j : Int) = some j := by
    unfold ixN
    rw [if_pos (by omega), if_pos (by omega)]; simp
  unfold atI; rw [e]; exact h

/-! ### what may be subscripted -/
/-- what stands as an index of a plain subscript -/
def PlainIx (b : Expr) : Prop := ∀ o i, subscripted b false o i = operate [o, i] (getItem o i)
/-- a subscript by values -/
def IxR (X : Cx) (r : R2) : Prop :=
  ∀ (value slice : Expr) (pins : List (Addr × Obj)) (s : Shared) (σ : St) (H : Hp) (x y : V) (v u : Value) (Q : VK), Inv X pins σ H s → RelV x v → RelV y u → r x y H Q →
    subscripted slice false v u = operate [v, u] (getItem v u) → wpAny (model X.prog X.w) X.A (subscriptTail value slice v u) (EP X pins σ Q) X.xe s
/-- a call of a builtin's method by values: the receiver, the arguments -/
def MtR (X : Cx) (id : String) (r : V → List V → Hp → VK → Prop) : Prop :=
  ∀ (pins : List (Addr × Obj)) (s : Shared) (σ : St) (H : Hp) (x : V) (xs : List V) (v : Value) (us : List Value) (Q : VK), Inv X pins σ H s → RelV x v → Vals xs us → r x xs H Q →
    wpAny (model X.prog X.w) X.A (call (.builtin id) (v :: us)) (EP X pins σ Q) X.xe s
section
variable {X : Cx} {a b : Expr} {ta tb : TE} {pos : Pos}
theorem IxR.or {r r' : R2} (h : IxR X r) (h' : IxR X r') : IxR X (fun x y H Q => r x y H Q ∨ r' x y H Q) := by
  intro value slice pins s σ H x y v u Q I rx ry q hs
  rcases q with q | q
  · exact h value slice pins s σ H x y v u Q I rx ry q hs
  · exact h' value slice pins s σ H x y v u Q I rx ry q hs
theorem MtR.or {id : String} {r r' : V → List V → Hp → VK → Prop} (h : MtR X id r) (h' : MtR X id r') : MtR X id (fun x xs H Q => r x xs H Q ∨ r' x xs H Q) := by
  intro pins s σ H x xs v us Q I rx rs q
  rcases q with q | q
  · exact h pins s σ H x xs v us Q I rx rs q
  · exact h' pins s σ H x xs v us Q I rx rs q
/-- a[b] -/
theorem pe_ix {r : R2} (hr : IxR X r) (ha : PE X a ta) (hb : PE X b tb) (hs : PlainIx b) : PE X (.Subscript a b pos) (tOp r ta tb) := by
  intro pins s σ H Q I h
  exact Subscript_ (binT ha hb I h fun v u s2 x y H2 I2 rx ry q => hr a b pins s2 σ H2 x y v u Q I2 rx ry q (hs _ _))

inductive RIxLI (K : PySem.W.Frag) (x : V) (y : V) (H : Hp) (Q : VK) : Prop where
  | mk (p : _) (xs : _) (i : _) (v : _) (c1 : x = .ref p) (c2 : y = .int i) (c3 : SqL K H p xs) (c4 : atI xs i = some v) (c5 : Q v H)
def rIxL (K : PySem.W.Frag) : R2 := fun x y H Q => RIxLI K x y H Q
inductive RIxTI (K : PySem.W.Frag) (x : V) (y : V) (H : Hp) (Q : VK) : Prop where
  | mk (p : _) (xs : _) (i : _) (v : _) (c1 : x = .ref p) (c2 : y = .int i) (c3 : SqT K H p xs) (c4 : atI xs i = some v) (c5 : Q v H)
def rIxT (K : PySem.W.Frag) : R2 := fun x y H Q => RIxTI K x y H Q
inductive RIxSI (x : V) (y : V) (H : Hp) (Q : VK) : Prop where
  | mk (z : _) (i : _) (c : _) (c1 : x = .str z) (c2 : y = .int i) (c3 : z.length ≤ sizeLine) (c4 : atI z.cps.toList i = some c) (c5 : Q (.str ⟨#[c]⟩) H)
def rIxS : R2 := fun x y H Q => RIxSI x y H Q
theorem ix_list : IxR X (rIxL X.K) := by
  intro value slice pins s σ H x y v u Q I rx ry h hs
  obtain ⟨p, xs, i, z, rfl, rfl, hq, he, q⟩ := h
  cases rx
  obtain ⟨t, rfl⟩ := ry
  obtain ⟨its, r, pl, hz⟩ := I.list hq
  obtain ⟨j, h1, h2, h3, h4, h5⟩ := atI_get he
  obtain ⟨w, ew, rw'⟩ := r.get h2
  have hl := r.length
  have hn := line63
  have fin : EP X pins σ Q w s := ⟨z, H, I, rw', q⟩
  by_cases h0 : 0 ≤ i
  · have hj : i.toNat = j := by
      rw [seqIndex_of h0 h5] at h1
      exact Option.some.inj h1
    exact item_listR pl.isList h0 (by omega) (by rw [hj]; simpa using ew) fin hs
  · have hj : (i + (its.toArray.size : Int)).toNat = j := by
      rw [seqIndex_neg (by omega) h4] at h1
      rw [List.size_toArray, ← hl]
      exact Option.some.inj h1
    exact subscriptTail_builtinR (x := w) pl.isList.typeIs slot_list_getitem.lookup
      (wpAny_getItem_list_neg (Q := fun r s' => r = w ∧ EP X pins σ Q r s') pl.isList (by omega) (by rw [List.size_toArray] <;> omega) (by omega) (by rw [hj]; simpa using ew) ⟨rfl, fin⟩) hs
theorem ix_tup : IxR X (rIxT X.K) := by
  intro value slice pins s σ H x y v u Q I rx ry h hs
  obtain ⟨p, xs, i, z, rfl, rfl, hq, he, q⟩ := h
  cases rx
  obtain ⟨t, rfl⟩ := ry
  obtain ⟨its, r, pl, hz⟩ := I.tuple hq
  obtain ⟨j, h1, h2, h3, h4, h5⟩ := atI_get he
  obtain ⟨w, ew, rw'⟩ := r.get h2
  have hl := r.length
  have hn := line63
  have fin : EP X pins σ Q w s := ⟨z, H, I, rw', q⟩
  exact subscriptTail_builtinR (x := w) pl.typeIs slot_tuple_getitem.lookup
    (getItem_tuple (j := j) (Q := fun r s' => r = w ∧ EP X pins σ Q r s') pl (by omega) (by omega) (by rw [List.size_toArray, ← hl]; exact h1) (by simpa using ew) ⟨rfl, fin⟩) hs
theorem ix_str : IxR X rIxS := by
  intro value slice pins s σ H x y v u Q I rx ry h hs
  obtain ⟨z, i, c, rfl, rfl, hz, he, q⟩ := h
  obtain ⟨t, rfl⟩ := rx
  obtain ⟨t', rfl⟩ := ry
  obtain ⟨j, h1, h2, h3, h4, h5⟩ := atI_get he
  have hl : z.cps.toList.length = z.length := by simp [Str.length]
  rw [hl] at h1 h4 h5
  have hn := line63
  exact tail_any (typeIs_str s z t) slot_str_getitem.lookup (getItem_str (c := c) (by
    have e1 : decide (i < -(2 ^ 63 : Int)) = false := decide_eq_false (by omega)
    have e2 : decide (i ≥ 2 ^ 63) = false := decide_eq_false (by omega)
    rw [e1, e2, Bool.or_false]) (by rw [h1]; simpa using h2) ⟨.str ⟨#[c]⟩, H, I.tok _, ⟨_, rfl⟩, q⟩) hs

/-! ### xs[i] = v, any sign -/
theorem Inv.lst {pins : List (Addr × Obj)} {σ : St} {H : Hp} {s : Shared} {p : Addr} {xs : List V} (I : Inv X pins σ H s) (h : H p = some (.lst xs)) :
    ∃ (its : List Value) (n : Nat), Vals xs its ∧ s.heap.get? p = some { cls := .type "list", data := .seq its.toArray n } ∧ xs.length ≤ sizeLine := by
  obtain ⟨z, its, n, r, e⟩ := I.hok p _ h
  exact ⟨its, n, r, e, z⟩

/-! ### slices -/
theorem slice_bounds (lo hi : Option Int) (n : Nat) : (sliceBounds lo hi none n).1 = ((HT.sIx n 0 lo : Nat) : Int) ∧ (sliceBounds lo hi none n).2.1 = ((HT.sIx n n hi : Nat) : Int) ∧ (sliceBounds lo hi none n).2.2 = 1 := by
  refine ⟨?_, ?_, rfl⟩
  · cases lo with
    | none => simp [sliceBounds, HT.sIx]
    | some i =>
      simp only [sliceBounds, HT.sIx, Option.getD_none, show (1 : Int) > 0 by decide, if_true]
      by_cases h : i < 0
      · simp only [h, if_true] <;> omega
      · simp only [h, if_false] <;> omega
  · cases hi with
    | none => simp [sliceBounds, HT.sIx]
    | some i =>
      simp only [sliceBounds, HT.sIx, Option.getD_none, show (1 : Int) > 0 by decide, if_true]
      by_cases h : i < 0
      · simp only [h, if_true] <;> omega
      · simp only [h, if_false] <;> omega
theorem slicePick_cut (its : List Value) (lo hi : Option Int) : slicePick its.toArray lo hi none = ((its.drop (HT.sIx its.length 0 lo)).take (HT.sIx its.length its.length hi - HT.sIx its.length 0 lo)).toArray := by
  obtain ⟨h1, h2, h3⟩ := slice_bounds lo hi its.toArray.size
  unfold slicePick
  rw [h1, h2, h3]
  simp only [sliceRange_one, pick_run, List.size_toArray] <;> rfl
/-- xs[lo:hi] of a list: a new list -/
inductive RSlLI (K : PySem.W.Frag) (x : V) (lo : Option Int) (hi : Option Int) (H : Hp) (Q : VK) : Prop where
  | mk (a : _) (xs : _) (c1 : x = .ref a) (c2 : SqL K H a xs) (c3 : ∀ p, H p = none → Q (.ref p) (upd H p (.lst (cutV xs lo hi))))
def rSlL (K : PySem.W.Frag) : V → Option Int → Option Int → Hp → VK → Prop := fun x lo hi H Q => RSlLI K x lo hi H Q
theorem sl_list : SlR X (rSlL X.K) := by
  intro pins s σ H x v vl vu lo hi sl Q I rx hs pl pu h
  obtain ⟨a, xs, rfl, hx, q⟩ := h
  cases rx
  obtain ⟨its, r, ht, hz⟩ := I.list hx
  have hlen := r.length
  refine ⟨"list", _, slot_list_getitem.lookup, ht.isList.typeIs, ?_⟩
  refine wpAny_getItem_list_slice ht.isList hs pl pu .none (by simp) ?_ (by rw [List.size_toArray] <;> omega)
  rw [slicePick_cut, ← hlen]
  refine ⟨.ref s.heap.objs.size, _, I.laid (t' := s.toks) (o := .lst (cutV xs lo hi)) (fun b ob q => Heap.get?_push_of_some _ q) (Nat.le_refl _) ?_, rfl, q _ (I.hok.fresh (Nat.le_refl _))⟩
  exact ⟨Nat.le_trans (cutV_length xs lo hi) hz, _, 0, (r.drop (HT.sIx xs.length 0 lo)).take (HT.sIx xs.length xs.length hi - HT.sIx xs.length 0 lo), Heap.get?_push_size _ rfl⟩

/-! ### in, not in: flat items -/

/-! ### len, list(x), tuple(x) of any list or tuple that is read -/
theorem call_len_seq : CallR X (.builtin "len") (fun xs H Q => ∃ p ys, xs = [.ref p] ∧ (SqL X.K H p ys ∨ SqT X.K H p ys) ∧ Q (.int ys.length) H) := by
  intro pins s σ H xs us Q I r h
  obtain ⟨p, ys, rfl, hq, q⟩ := h
  obtain ⟨u, rfl, rx⟩ := vals1 r
  cases rx
  have hn := line63
  rcases hq with hq | hq
  · obtain ⟨its, r', pl, hz⟩ := I.list hq
    have hlen := r'.length
    exact Calls.call_len_list pl.isList (by simp only [List.size_toArray] <;> omega) ⟨.int ys.length, H, I.tok _, ⟨s.toks + 1, by rw [List.size_toArray, hlen]⟩, q⟩
  · obtain ⟨its, r', pl, hz⟩ := I.tuple hq
    have hlen := r'.length
    exact len_tuple pl (by simp only [List.size_toArray] <;> omega) ⟨.int ys.length, H, I.tok _, ⟨s.toks + 1, by rw [List.size_toArray, hlen]⟩, q⟩
theorem call_len_str : CallR X (.builtin "len") (fun xs H Q => ∃ z, xs = [.str z] ∧ z.length ≤ sizeLine ∧ Q (.int z.length) H) := by
  intro pins s σ H xs us Q I r h
  obtain ⟨z, rfl, hz, q⟩ := h
  obtain ⟨u, rfl, t, rfl⟩ := vals1 r
  have hn := line63
  exact len_str (by omega) ⟨.int z.length, H, I.tok _, ⟨_, rfl⟩, q⟩
theorem CallR.or {f : Value} {r r' : List V → Hp → VK → Prop} (h : CallR X f r) (h' : CallR X f r') : CallR X f (fun xs H Q => r xs H Q ∨ r' xs H Q) := by
  intro pins s σ H xs us Q I rs q
  rcases q with q | q
  · exact h pins s σ H xs us Q I rs q
  · exact h' pins s σ H xs us Q I rs q

/-! ### the call of a builtin's method: o.m(..) -/
/-- the value is of that builtin type -/
def tyV (K : PySem.W.Frag) (T : String) (x : V) (H : Hp) : Prop := match x with
  | .str _ => T = "str"
  | .int _ => T = "int"
  | .ref p => (T = "list" ∧ ∃ xs, SqL K H p xs) ∨ (T = "tuple" ∧ ∃ o, K.lookup p = some o ∧ o.cls = .type "tuple" ∧ o.dict = none) ∨
      (T = "dict" ∧ ((∃ kvs, H p = some (.dK kvs)) ∨ ∃ kvs, H p = some (.dT kvs))) ∨ (T = "set" ∧ ∃ S n, H p = some (.set S n))
  | _ => False
theorem tyV_is {pins : List (Addr × Obj)} {σ : St} {H : Hp} {s : Shared} {T : String} {x : V} {v : Value} (I : Inv X pins σ H s) (r : RelV x v) (ty : tyV X.K T x H) :
    s.TypeIs v T ∧ ∀ a, v = .ref a → ∃ ob, s.heap.get? a = some ob ∧ ob.dict = none := by
  cases x with
  | str z =>
    obtain ⟨t, rfl⟩ := r
    cases (show T = "str" from ty)
    exact ⟨typeIs_str s z t, fun _ e => nomatch e⟩
  | int i =>
    obtain ⟨t, rfl⟩ := r
    cases (show T = "int" from ty)
    exact ⟨typeIs_int s i t, fun _ e => nomatch e⟩
  | ref p =>
    cases r
    rcases ty with ⟨rfl, xs, hq⟩ | ⟨rfl, o, hk, hc, hd⟩ | ⟨rfl, hk⟩ | ⟨rfl, S, n, hk⟩
    · obtain ⟨its, _, pl, _⟩ := I.list hq
      refine ⟨pl.isList.typeIs, fun a e => ?_⟩
      cases e
      obtain ⟨o, n, e, c, hd, _⟩ := pl
      exact ⟨o, e, hd⟩
    · refine ⟨⟨o, I.kIn p o hk, hc⟩, fun a e => ?_⟩
      cases e
      exact ⟨o, I.kIn _ o hk, hd⟩
    · have z : ∃ o, s.heap.get? p = some o ∧ o.ExactDict := by
        rcases hk with ⟨kvs, hk⟩ | ⟨kvs, hk⟩
        · obtain ⟨_, _, _, _, o, _, _, e, ex, _⟩ := I.hok p _ hk
          exact ⟨o, e, ex⟩
        · obtain ⟨_, _, _, _, o, _, _, e, ex, _⟩ := I.hok p _ hk
          exact ⟨o, e, ex⟩
      obtain ⟨o, e, ex⟩ := z
      refine ⟨⟨o, e, ex.1⟩, fun a e2 => ?_⟩
      cases e2
      exact ⟨o, e, ex.2.1⟩
    · obtain ⟨o, _, _, _, e, ex, _⟩ := I.hok p _ hk
      refine ⟨⟨o, e, ex.1⟩, fun a e2 => ?_⟩
      cases e2
      exact ⟨o, e, ex.2.1⟩
  | _ => exact False.elim ty
inductive TBM0I (K : PySem.W.Frag) (T : String) (r : V → List V → Hp → VK → Prop) (x : V) (H1 : Hp) (Q : VK) : Prop where
  | mk (c1 : tyV K T x H1) (c2 : r x [] H1 Q)
def tBM0 (K : PySem.W.Frag) (T : String) (r : V → List V → Hp → VK → Prop) (to : TE) : TE := fun σ H Q => to σ H fun x H1 => TBM0I K T r x H1 Q
inductive TBMI (K : PySem.W.Frag) (T : String) (r : V → List V → Hp → VK → Prop) (t : TA) (σ : L2.St) (x : V) (H1 : Hp) (Q : VK) : Prop where
  | mk (c1 : tyV K T x H1) (c2 : t σ H1 fun xs H2 => r x xs H2 Q)
def tBM (K : PySem.W.Frag) (T : String) (r : V → List V → Hp → VK → Prop) (to : TE) (t : TA) : TE := fun σ H Q => to σ H fun x H1 => TBMI K T r t σ x H1 Q
variable {o e : Expr} {es : List Expr} {to : TE} {t : TA} {name : Str} {apos cpos : Pos} {T id : String} {r : V → List V → Hp → VK → Prop}
theorem pe_bm0 (pa : PlainAttrs T) (slot : Slot T name id) (hty : typeOf (.builtin id) = pure (.type "method_descriptor")) (hm : MtR X id r) (ho : PE X o to)
    (hbase : attributeBase o name X.env (eval o X.env) = eval o X.env := by rfl) (hline : (apos.endLine == cpos.line) = true := by rfl) : PE X (.Call (.Attribute o name apos) [] [] cpos) (tBM0 X.K T r to) := by
  intro pins s σ H Q I h
  refine wpAny_Call_method0_late hbase hline (thn (ho pins s σ H _ I h) fun v s1 ⟨x, H1, I1, r1, ty, q1⟩ => ?_)
  obtain ⟨h1, h2⟩ := tyV_is I1 r1 ty
  exact ⟨T, id, pa, slot, hty, h1, h2, Calls.callWith_builtin rfl (PySem.evalArgs_none (hm pins s1 σ H1 x [] v [] Q I1 r1 .nil q1))⟩
theorem pe_bm (pa : PlainAttrs T) (slot : Slot T name id) (hty : typeOf (.builtin id) = pure (.type "method_descriptor")) (hm : MtR X id r) (ho : PE X o to) (ha : PA X (e :: es) t)
    (hbase : attributeBase o name X.env (eval o X.env) = eval o X.env := by rfl)
    (hfew : ((backTo cpos (starEach (e :: es) X.env)).all (fun x => !x.1) && (backToKw cpos (keywordEach [] X.env)).all (fun x => x.1.isSome)
      && decide ((e :: es).length + ([] : List Keyword).length + (if ([] : List Keyword).isEmpty then 0 else 1) < 30)) = true := by rfl)
    (hline : (apos.endLine == cpos.line) = true := by rfl) (hs : starEach (e :: es) X.env = (false, eval e X.env) :: starEach es X.env := by rfl) (hplain : (backTo cpos (starEach es X.env)).any (·.1) = false := by rfl) :
    PE X (.Call (.Attribute o name apos) (e :: es) [] cpos) (tBM X.K T r to t) := by
  intro pins s σ H Q I h
  refine wpAny_Call_method_late hbase hfew hline rfl (thn (ho pins s σ H _ I h) fun v s1 ⟨x, H1, I1, r1, ty, q1⟩ => ?_)
  obtain ⟨h1, h2⟩ := tyV_is I1 r1 ty
  refine ⟨T, id, pa, slot, hty, h1, h2, ?_⟩
  have hA := ha cpos pins s1 σ H1 _ I1 q1
  rw [hs] at hA ⊢
  refine Calls.callWith_builtin (by show (false || (backTo cpos (starEach es X.env)).any (·.1)) = false; rw [hplain] <;> rfl) (Calls.evalArgs_plain ?_)
  exact thn hA fun us s2 ⟨vs, H2, I2, r2, q2⟩ => hm pins s2 σ H2 x vs v us Q I2 r1 r2 q2
/- xs.append(e), list.index on a module's tuple .. are MtR facts of 06m -/
end
end L2

namespace L2
open PySem PySem.Spec PyProof.Rows

def MtM (X : Cx) (id : String) (r : V → List V → Hp → VK → Prop) : Prop :=
  ∀ (pins : List (Addr × Obj)) (s : Shared) (σ : St) (H : Hp) (x : V) (xs : List V) (v : Value) (us : List Value) (Q : VK), Inv X pins σ H s → RelV x v → Vals xs us → r x xs H Q →
    wpAny (model X.prog X.w) X.A (call (.builtin id) (v :: us)) (EP X pins σ Q) X.xe s

/-! ### lists of values -/
theorem Vals.one : ∀ {x : V} {us : List Value}, Vals [x] us → ∃ u, us = [u] ∧ RelV x u
  | _, _, .cons r .nil => ⟨_, rfl, r⟩
theorem Vals.two : ∀ {x y : V} {us : List Value}, Vals [x, y] us → ∃ u v, us = [u, v] ∧ RelV x u ∧ RelV y v
  | _, _, _, .cons r (.cons q .nil) => ⟨_, _, rfl, r, q⟩
theorem Vals.zero : ∀ {us : List Value}, Vals [] us → us = []
  | _, .nil => rfl
theorem Vals.dropLast {xs : List V} {us : List Value} (h : Vals xs us) : Vals xs.dropLast us.dropLast := by
  induction h with
  | nil => exact .nil
  | cons r t ih =>
    cases t with
    | nil => exact .nil
    | cons q t' => exact .cons r ih
theorem Vals.eraseIdx : ∀ {xs : List V} {us : List Value} (i : Nat), Vals xs us → Vals (xs.eraseIdx i) (us.eraseIdx i)
  | _, _, _, .nil => .nil
  | _, _, 0, .cons _ t => t
  | _, _, i + 1, .cons r t => .cons r (Vals.eraseIdx i t)
theorem Vals.reverse {xs : List V} {us : List Value} (h : Vals xs us) : Vals xs.reverse us.reverse := by
  induction h with
  | nil => exact .nil
  | cons r t ih => rw [List.reverse_cons, List.reverse_cons]; exact Vals.append ih (.cons r .nil)
theorem erase_last {α : Type} (l : List α) : l.eraseIdx (l.length - 1) = l.dropLast := by
  induction l with
  | nil => rfl
  | cons a r ih =>
    cases r with
    | nil => rfl
    | cons b r =>
      have e : (a :: b :: r).length - 1 = ((b :: r).length - 1) + 1 := by
        have h1 : (a :: b :: r).length = r.length + 2 := rfl
        have h2 : (b :: r).length = r.length + 1 := rfl
        omega
      rw [e, List.eraseIdx_cons_succ, ih]
      all_goals rfl

section
variable {X : Cx} {pins : List (Addr × Obj)} {σ : St} {H : Hp} {s : Shared} {l b : Addr} {xs ys zs : List V}

/-! ### the two steps: a tracked list is rewritten, a new list is laid -/
theorem Inv.lset {its its' : List Value} {n : Nat} {f : Array Value → Array Value} {t' : Nat} (I : Inv X pins σ H s) (hH : H l = some (.lst xs))
    (e : s.heap.get? l = some { cls := .type "list", data := .seq its.toArray n }) (hf : f its.toArray = its'.toArray) (hv : Vals ys its') (hz : ys.length ≤ sizeLine) :
    Inv X pins σ (upd H l (.lst ys)) { s with heap := s.heap.update l (Obj.mapSeq f), toks := t' } := by
  have q := PySem.IsL.update e f
  rw [hf] at q
  refine I.write (x := l) (e := l) (by rw [hH]; exact trivial) (.inl rfl) (fun b' u hb hu => (Heap.get?_update_other s.heap (Obj.mapSeq f) (Ne.symm hb)).trans hu) ⟨_, q⟩ ?_
  exact ⟨hz, its', _, hv, q⟩
theorem Inv.lnew {its : List Value} {t' : Nat} (I : Inv X pins σ H s) (hv : Vals ys its) (hz : ys.length ≤ sizeLine) :
    Inv X pins σ (upd H s.heap.objs.size (.lst ys)) { s with heap := s.heap.push { cls := .type "list", data := .seq its.toArray }, toks := t' } :=
  I.laid (fun _ _ q => Heap.get?_push_of_some _ q) (Nat.le_refl _) ⟨hz, its, 0, hv, Heap.get?_push_size _ rfl⟩
theorem Inv.fresh (I : Inv X pins σ H s) : H s.heap.objs.size = none := I.hok.fresh (Nat.le_refl _)
theorem Inv.lstM (I : Inv X pins σ H s) (hH : H l = some (.lst xs)) : xs.length ≤ sizeLine ∧ ∃ (its : List Value) (n : Nat), Vals xs its ∧ xs.length = its.length ∧ s.heap.get? l = some { cls := .type "list", data := .seq its.toArray n } := by
  obtain ⟨z, its, n, r, e⟩ := I.hok l _ hH
  exact ⟨z, its, n, r, r.length, e⟩

theorem notLongL {n : Nat} (h : n ≤ sizeLine) : Builtin.List.listTooLong n = false := by
  unfold Builtin.List.listTooLong
  exact decide_eq_false (by omega)
end

section
variable {X : Cx}

/-! ### methods -/
def rAppend : V → List V → Hp → VK → Prop := fun x vs H Q => ∃ l xs y, x = .ref l ∧ vs = [y] ∧ H l = some (.lst xs) ∧ xs.length < sizeLine ∧ Q .non (upd H l (.lst (xs ++ [y])))
theorem mt_append : MtM X "list.append" rAppend := by
  intro pins s σ H x vs v us Q I rx rv h
  obtain ⟨l, xs, y, rfl, rfl, hH, hz, q⟩ := h
  cases rx
  obtain ⟨u, rfl, ru⟩ := rv.one
  obtain ⟨z, its, n, r, hl, e⟩ := I.lstM hH
  refine call_meets F.slot_list_append ⟨_, e, rfl⟩ F.entry_list_append (F.args_list_append_2 _ _) (PySem.list_append l its.toArray n u (by rw [List.size_toArray]; omega)) ⟨e, ?_⟩
  refine ⟨.non, _, I.lset (its' := its ++ [u]) hH e (by simp) (r.append (.cons ru .nil)) ?_, rfl, q⟩
  rw [List.length_append, List.length_singleton]
  omega

def rExtend : V → List V → Hp → VK → Prop := fun x vs H Q => ∃ l b xs zs, x = .ref l ∧ vs = [.ref b] ∧ H l = some (.lst xs) ∧ H b = some (.lst zs) ∧ xs.length + zs.length ≤ sizeLine ∧ Q .non (upd H l (.lst (xs ++ zs)))
theorem mt_extend : MtM X "list.extend" rExtend := by
  intro pins s σ H x vs v us Q I rx rv h
  obtain ⟨l, b, xs, zs, rfl, rfl, hH, hB, hz, q⟩ := h
  cases rx
  obtain ⟨u, rfl, ru⟩ := rv.one
  cases ru
  obtain ⟨z, its, n, r, hl, e⟩ := I.lstM hH
  obtain ⟨z2, its2, n2, r2, hl2, e2⟩ := I.lstM hB
  have hsz : its.toArray.size + its2.toArray.size ≤ sizeLine := by rw [List.size_toArray, List.size_toArray]; omega
  have hlong : ¬ (!its.toArray.isEmpty && Builtin.List.listTooLong (its.toArray.size + its2.toArray.size)) = true := by
    rw [notLongL hsz, Bool.and_false]
    exact Bool.false_ne_true
  refine call_meets F.slot_list_extend ⟨_, e, rfl⟩ F.entry_list_extend (F.args_list_extend_2 _ _)
    (AutoSeq1.list_extend_list_list_0 l its.toArray n b its2.toArray n2 hlong (by rw [List.size_toArray]; omega) (by omega)) ⟨e, e2, ?_⟩
  refine ⟨.non, _, I.lset (its' := its ++ its2) hH e (by simp) (r.append r2) ?_, rfl, q⟩
  rw [List.length_append]
  omega

def rPop : V → List V → Hp → VK → Prop := fun x vs H Q => ∃ l xs y, x = .ref l ∧ vs = [] ∧ H l = some (.lst xs) ∧ xs[xs.length - 1]? = some y ∧ Q y (upd H l (.lst xs.dropLast))
theorem mt_pop : MtM X "list.pop" rPop := by
  intro pins s σ H x vs v us Q I rx rv h
  obtain ⟨l, xs, y, rfl, rfl, hH, hy, q⟩ := h
  cases rx
  have hus := rv.zero
  subst hus
  obtain ⟨z, its, n, r, hl, e⟩ := I.lstM hH
  obtain ⟨u, hu, ru⟩ := r.get hy
  have hy' : its.toArray[its.toArray.size - 1]? = some u := by
    show its.toArray[its.length - 1]? = some u
    rw [← Array.getElem?_toList, ← hl]
    exact hu
  refine call_meets F.slot_list_pop ⟨_, e, rfl⟩ F.entry_list_pop (F.args_list_pop_1 _) (MeetsSeq.list_pop_last l its.toArray n u hy' (by rw [List.size_toArray]; omega)) ⟨e, ?_⟩
  refine ⟨y, _, I.lset (its' := its.dropLast) hH e ?_ r.dropLast ?_, ru, q⟩
  · show its.toArray.eraseIdxIfInBounds (its.toArray.size - 1) = its.dropLast.toArray
    rw [List.size_toArray, List.eraseIdxIfInBounds_toArray, erase_last]
  · rw [List.length_dropLast]
    omega




/-! ### list + list, list += list, list * int -/
def rCat : R2 := fun x y H Q => ∃ l b xs zs, x = .ref l ∧ y = .ref b ∧ H l = some (.lst xs) ∧ H b = some (.lst zs) ∧ xs.length + zs.length ≤ sizeLine ∧ ∀ p, H p = none → Q (.ref p) (upd H p (.lst (xs ++ zs)))
theorem op_cat : OpR X (binaryOp .Add) rCat := by
  intro pins s σ H x y v u Q I rx ry h
  obtain ⟨l, b, xs, zs, rfl, rfl, hH, hB, hz, q⟩ := h
  cases rx
  cases ry
  obtain ⟨z, its, n, r, hl, e⟩ := I.lstM hH
  obtain ⟨z2, its2, n2, r2, hl2, e2⟩ := I.lstM hB
  refine PySem.P.add_list e e2 ?_ (by rw [List.size_toArray, List.size_toArray]; omega)
  have ea : its.toArray ++ its2.toArray = (its ++ its2).toArray := by simp
  rw [ea]
  exact ⟨.ref _, _, I.lnew (t' := s.toks) (r.append r2) (by rw [List.length_append]; omega), rfl, q _ I.fresh⟩

/-! ### del xs[i] -/
end

/-! ### xs[a:b] = ys -/
section
variable {prog : Program} {w : World} {A : Around} {E : Value → Shared → Prop} {s : Shared}
set_option maxRecDepth 100000 in
end

section
variable {X : Cx}
end
end L2


namespace L2
open PySem PySem.Spec PyProof.Rows

/-! ### lists of pairs as tables -/
section
variable {κ : Type} [DecidableEq κ]
def valV (kvs : List (κ × V)) (k : κ) : Option V := (kvs.find? fun kv => decide (kv.1 = k)).map (·.2)
/-- in its place, or at the end -/
def putK (kvs : List (κ × V)) (k : κ) (v : V) : List (κ × V) :=
  if (kvs.any fun kv => decide (kv.1 = k)) = true then kvs.map (fun kv => if kv.1 = k then (kv.1, v) else kv) else kvs ++ [(k, v)]
def dropK (kvs : List (κ × V)) (k : κ) : List (κ × V) := kvs.filter fun kv => decide (kv.1 ≠ k)

theorem valV_pos {p : κ × V} {r : List (κ × V)} {k : κ} (e : p.1 = k) : valV (p :: r) k = some p.2 := by simp [valV, List.find?_cons, e]
theorem valV_neg {p : κ × V} {r : List (κ × V)} {k : κ} (e : ¬ p.1 = k) : valV (p :: r) k = valV r k := by simp [valV, List.find?_cons, e]
theorem valV_any (k : κ) : ∀ kvs : List (κ × V), (kvs.any fun kv => decide (kv.1 = k)) = (valV kvs k).isSome
  | [] => rfl
  | p :: r => by
    rw [List.any_cons]
    by_cases e : p.1 = k
    · simp only [valV_pos e, decide_eq_true e, Bool.true_or, Option.isSome_some]
    · rw [valV_neg e, decide_eq_false e, Bool.false_or]; exact valV_any k r

theorem RelO.isSome_eq {o : Option V} {u : Option Value} (r : RelO o u) : o.isSome = u.isSome := by
  cases o with
  | none => cases u with
    | none => rfl
    | some _ => exact (show False from r).elim
  | some _ => cases u with
    | none => exact (show False from r).elim
    | some _ => rfl
theorem RelO.getD {o : Option V} {u : Option Value} {d : V} {d' : Value} (r : RelO o u) (rd : RelV d d') : RelV (o.getD d) (u.getD d') := by
  cases o with
  | none => cases u with
    | none => exact rd
    | some _ => exact (show False from r).elim
  | some _ => cases u with
    | none => exact (show False from r).elim
    | some _ => exact r

/-- raw tables of the same keys -/
theorem KV.val {kvs : List (κ × V)} {vs : List (κ × Value)} (r : KV kvs vs) (k : κ) : RelO (valV kvs k) (valueAt vs k) := by
  unfold KV at r
  induction r with
  | nil => exact True.intro
  | @cons p q ps qs h t ih =>
    obtain ⟨h1, h2⟩ := h
    by_cases e : p.1 = k
    · have e' : q.1 = k := h1.symm.trans e
      have b : valueAt (q :: qs) k = some q.2 := by simp [valueAt, List.find?_cons, e']
      rw [valV_pos e, b]; exact h2
    · have e' : ¬ q.1 = k := fun z => e (h1.trans z)
      have b : valueAt (q :: qs) k = valueAt qs k := by simp [valueAt, List.find?_cons, e']
      rw [valV_neg e, b]; exact ih
theorem KV.any {kvs : List (κ × V)} {vs : List (κ × Value)} (r : KV kvs vs) (k : κ) : (kvs.any fun kv => decide (kv.1 = k)) = vs.any fun kv => decide (kv.1 = k) := by
  unfold KV at r
  induction r with
  | nil => rfl
  | cons h t ih => rw [List.any_cons, List.any_cons, ih, h.1]
theorem KV.repl {kvs : List (κ × V)} {vs : List (κ × Value)} (r : KV kvs vs) (k : κ) {y : V} {u : Value} (ry : RelV y u) :
    KV (kvs.map fun kv => if kv.1 = k then (kv.1, y) else kv) (vs.map fun kv => if kv.1 = k then (kv.1, u) else kv) := by
  unfold KV at r ⊢
  induction r with
  | nil => exact .nil
  | @cons p q ps qs h t ih =>
    rw [List.map_cons, List.map_cons]
    refine .cons ?_ ih
    obtain ⟨h1, h2⟩ := h
    by_cases e : p.1 = k
    · rw [if_pos e, if_pos (h1.symm.trans e)]; exact ⟨h1, ry⟩
    · rw [if_neg e, if_neg (fun z => e (h1.trans z))]; exact ⟨h1, h2⟩
theorem KV.put {kvs : List (κ × V)} {vs : List (κ × Value)} (r : KV kvs vs) (k : κ) {y : V} {u : Value} (ry : RelV y u) : KV (putK kvs k y) (stored vs k u) := by
  unfold putK stored
  rw [r.any k]
  by_cases e : (vs.any fun kv => decide (kv.1 = k)) = true
  · rw [if_pos e, if_pos e]; exact r.repl k ry
  · rw [if_neg e, if_neg e]; exact Paired.snoc r ⟨rfl, ry⟩
theorem KV.drop {kvs : List (κ × V)} {vs : List (κ × Value)} (r : KV kvs vs) (k : κ) : KV (dropK kvs k) (without vs k) := by
  unfold KV at r ⊢
  unfold dropK without
  induction r with
  | nil => exact .nil
  | @cons p q ps qs h t ih =>
    obtain ⟨h1, h2⟩ := h
    rw [List.filter_cons, List.filter_cons]
    by_cases e : p.1 = k
    · have a : ¬ decide (p.1 ≠ k) = true := by simp [e]
      have b : ¬ decide (q.1 ≠ k) = true := by simp [h1.symm.trans e]
      rw [if_neg a, if_neg b]; exact ih
    · have e' : ¬ q.1 = k := fun z => e (h1.trans z)
      have a : decide (p.1 ≠ k) = true := by simp [e]
      have b : decide (q.1 ≠ k) = true := by simp [e']
      rw [if_pos a, if_pos b]; exact .cons ⟨h1, h2⟩ ih
theorem KV.keys {kvs : List (κ × V)} {vs : List (κ × Value)} (r : KV kvs vs) : kvs.map (·.1) = vs.map (·.1) := by
  unfold KV at r
  induction r with
  | nil => rfl
  | cons h t ih => rw [List.map_cons, List.map_cons, ih, h.1]
theorem KV.length {kvs : List (κ × V)} {vs : List (κ × Value)} (r : KV kvs vs) : kvs.length = vs.length := Paired.length r
end


/-! ### a tracked dict, its keys ints and texts or tuples of these -/

/-- raw entries of a dict with tuple keys -/
abbrev KT (H : Hp) : List (List Key × V) → List (List Key × Addr × Value) → Prop := Paired fun p q => p.1 = q.1 ∧ H q.2.1 = some (.tup (p.1.map kV)) ∧ RelV p.2 q.2.2
theorem KT.val {H : Hp} {kvs : List (List Key × V)} {xs : List (List Key × Addr × Value)} (r : KT H kvs xs) (k : List Key) : RelO (valV kvs k) ((atKey xs k).map (·.2)) := by
  induction r with
  | nil => exact True.intro
  | @cons p q ps qs h t ih =>
    obtain ⟨h1, _, h2⟩ := h
    by_cases e : p.1 = k
    · have e' : q.1 = k := h1.symm.trans e
      have b : atKey (q :: qs) k = some q.2 := by simp [atKey, List.find?_cons, e']
      rw [valV_pos e, b]; exact h2
    · have e' : ¬ q.1 = k := fun z => e (h1.trans z)
      have b : atKey (q :: qs) k = atKey qs k := by simp [atKey, List.find?_cons, e']
      rw [valV_neg e, b]; exact ih
theorem KT.repl {H : Hp} {kvs : List (List Key × V)} {xs : List (List Key × Addr × Value)} (r : KT H kvs xs) (k : List Key) {y : V} {u : Value} (ry : RelV y u) :
    KT H (kvs.map fun kv => if kv.1 = k then (kv.1, y) else kv) (xs.map (putAt k u)) := by
  induction r with
  | nil => exact .nil
  | @cons p q ps qs h t ih =>
    rw [List.map_cons, List.map_cons]
    refine .cons ?_ ih
    obtain ⟨h1, h2, h3⟩ := h
    unfold putAt
    by_cases e : p.1 = k
    · rw [if_pos e, if_pos (h1.symm.trans e)]; exact ⟨h1, h2, ry⟩
    · rw [if_neg e, if_neg (fun z => e (h1.trans z))]; exact ⟨h1, h2, h3⟩
theorem KT.put {H : Hp} {kvs : List (List Key × V)} {xs : List (List Key × Addr × Value)} (r : KT H kvs xs) (k : List Key) {b : Addr} {y : V} {u : Value} (hb : H b = some (.tup (k.map kV))) (ry : RelV y u) :
    KT H (putK kvs k y) (storedH xs k b u) := by
  have e : (kvs.any fun kv => decide (kv.1 = k)) = (atKey xs k).isSome := by
    rw [valV_any, (r.val k).isSome_eq, Option.isSome_map]
  unfold putK storedH
  rw [e]
  by_cases q : (atKey xs k).isSome = true
  · rw [if_pos q, if_pos q]; exact r.repl k ry
  · rw [if_neg q, if_neg q]; exact Paired.snoc r ⟨rfl, hb, ry⟩
theorem KT.keeps {H H' : Hp} {kvs : List (List Key × V)} {xs : List (List Key × Addr × Value)} (r : KT H kvs xs) (ht : ∀ b ys, H b = some (.tup ys) → H' b = some (.tup ys)) : KT H' kvs xs :=
  Paired.mapP r fun _ _ z => ⟨z.1, ht _ _ z.2.1, z.2.2⟩

section
variable {P : Program} {w : World} {H : Hp} {h : Heap} {a : Addr}
end

/-- what the dict at a holds at the key y -/
def DGet (H : Hp) (a : Addr) (y : V) (r : Option V) : Prop :=
  (∃ kvs k, Rd H a (.dK kvs) ∧ y = kV k ∧ r = valV kvs k) ∨ ∃ kvs k b, Rd H a (.dT kvs) ∧ y = .ref b ∧ H b = some (.tup (k.map kV)) ∧ r = valV kvs k
/-- the heap behind a[y] = v -/
def DPut (H : Hp) (a : Addr) (y v : V) (H' : Hp) : Prop :=
  (∃ kvs k, H a = some (.dK kvs) ∧ y = kV k ∧ kvs.length < sizeLine ∧ H' = upd H a (.dK (putK kvs k v))) ∨
  ∃ kvs k b, H a = some (.dT kvs) ∧ y = .ref b ∧ H b = some (.tup (k.map kV)) ∧ kvs.length < sizeLine ∧ H' = upd H a (.dT (putK kvs k v))
theorem DGet.k {H : Hp} {a : Addr} {kvs : List (Key × V)} {k : Key} (e : H a = some (.dK kvs)) : DGet H a (kV k) (valV kvs k) := .inl ⟨kvs, k, .inl e, rfl, rfl⟩
theorem DGet.t {H : Hp} {a b : Addr} {kvs : List (List Key × V)} {k : List Key} (e : H a = some (.dT kvs)) (eb : H b = some (.tup (k.map kV))) : DGet H a (.ref b) (valV kvs k) := .inr ⟨kvs, k, b, .inl e, rfl, eb, rfl⟩
theorem DPut.k {H : Hp} {a : Addr} {kvs : List (Key × V)} {k : Key} {v : V} (e : H a = some (.dK kvs)) (hl : kvs.length < sizeLine) : DPut H a (kV k) v (upd H a (.dK (putK kvs k v))) := .inl ⟨kvs, k, e, rfl, hl, rfl⟩
theorem DPut.t {H : Hp} {a b : Addr} {kvs : List (List Key × V)} {k : List Key} {v : V} (e : H a = some (.dT kvs)) (eb : H b = some (.tup (k.map kV))) (hl : kvs.length < sizeLine) :
    DPut H a (.ref b) v (upd H a (.dT (putK kvs k v))) := .inr ⟨kvs, k, b, e, rfl, eb, hl, rfl⟩


section
variable {X : Cx} {pins : List (Addr × Obj)} {σ : St} {H : Hp} {s : Shared} {a : Addr} {y v : V} {u r : Value} {o : Option V} {A : Around} {E : Value → Shared → Prop}


end

section
variable {X : Cx} {pins : List (Addr × Obj)} {σ : St} {H : Hp} {s : Shared} {a : Addr} {kvs : List (Key × V)} {k : Key} {u : Value} {A : Around} {E : Value → Shared → Prop}
end


/-! ### readings and rules -/



section
variable {X : Cx} {o i e value : Expr} {pos pos' tpos : Pos} {td ty tv : TE}
end


/-! ### displays -/
section
variable {X : Cx} {pos : Pos}
end




/-! ### methods -/
/-- a method call o.m(e) of a built-in, with one argument: what must be seen of the text -/
structure M1 (X : Cx) (o : Expr) (m : Str) (apos : Pos) (e : Expr) (cpos : Pos) : Prop where
  base : attributeBase o m X.env (eval o X.env) = eval o X.env
  few : ((backTo cpos (starEach [e] X.env)).all (fun x => !x.1) && (backToKw cpos (keywordEach [] X.env)).all (fun x => x.1.isSome)
    && decide (([e] : List Expr).length + ([] : List Keyword).length + (if ([] : List Keyword).isEmpty then 0 else 1) < 30)) = true
  line : (apos.endLine == cpos.line) = true
  trees : backTo cpos (starEach [e] X.env) = [(false, eval e X.env)]
structure M2 (X : Cx) (o : Expr) (m : Str) (apos : Pos) (e f : Expr) (cpos : Pos) : Prop where
  base : attributeBase o m X.env (eval o X.env) = eval o X.env
  few : ((backTo cpos (starEach [e, f] X.env)).all (fun x => !x.1) && (backToKw cpos (keywordEach [] X.env)).all (fun x => x.1.isSome)
    && decide (([e, f] : List Expr).length + ([] : List Keyword).length + (if ([] : List Keyword).isEmpty then 0 else 1) < 30)) = true
  line : (apos.endLine == cpos.line) = true
  trees : backTo cpos (starEach [e, f] X.env) = [(false, eval e X.env), (false, eval f X.env)]


section
variable {X : Cx} {pins : List (Addr × Obj)} {σ : St} {H : Hp} {s : Shared} {a : Addr} {y d : V} {u r : Value} {o : Option V} {A : Around} {E : Value → Shared → Prop}
end

section
variable {X : Cx} {o e f : Expr} {apos cpos : Pos} {td ty tx : TE}
end

/-! ### dict(d): a copy -/
section
variable {X : Cx} {pins : List (Addr × Obj)} {σ : St} {H : Hp} {s : Shared} {a : Addr} {kvs : List (Key × V)} {A : Around} {E : Value → Shared → Prop}
end


section
variable {X : Cx} {pins : List (Addr × Obj)} {σ : St} {H : Hp} {s : Shared} {a : Addr} {y : V} {u : Value} {A : Around} {E : Value → Shared → Prop}
end
end L2

namespace Att
open PySem PySem.W PySem.Calls PyProof.Rows

/-! ### the script -/
theorem ints_of_wellAll {P : Params} {h : Heap} : ∀ (ns : List Int) (vs : List Value), WellAll P h vs (ns.map WData.int) → IntsAre vs ns := by
  intro ns
  induction ns with
  | nil =>
    intro vs w
    rw [List.map_nil] at w
    cases w
    exact .nil
  | cons n ns ih =>
    intro vs w
    rw [List.map_cons] at w
    cases w with
    | cons a b =>
      cases a
      exact .cons _ _ (ih _ b)

theorem script_of {l : OpenLaw} {n : Nat} (hn : l.most = some n) {P : Params} {h : Heap} {args : List WData} {vals : List Value}
    (hpre : l.row.toRowW.claim.pre args = true) (hwl : WellAll P h vals args) :
    ∃ a vs ns, vals = [Value.ref a] ∧ args = [WData.list (ns.map WData.int)] ∧ h.get? a = some { cls := .type "list", data := .seq vs.toArray } ∧ IntsAre vs ns ∧ ns.length ≤ n := by
  have hsh : WShape.hasAll [] args [.list .int] = true := (pre_splitW hpre).1
  have hc : l.pre.holds [] { args := args } = true := (pre_splitW hpre).2
  obtain ⟨d, r, rfl, h1, h2⟩ := hasAllW_cons hsh
  obtain rfl := hasAllW_nil h2
  obtain ⟨xs, rfl, h3⟩ := hasW_list h1
  obtain ⟨ns, rfl⟩ := items_int h3
  have hlen : ns.length ≤ n := by
    unfold OpenLaw.pre at hc
    have h4 : (WTm.not (.lt (.lit (.int (n : Int))) (.len (.arg 0)))).holds [] { args := [.list (ns.map .int)] } = true := by
      have h4 := (holds_andW hc).1
      rw [hn] at h4
      exact h4
    have h5 := condW_of h4 (w_not (w_lt w_lit (w_len_list (w_arg rfl))))
    rw [List.length_map] at h5
    refine Nat.le_of_not_lt fun q => ?_
    have q' : (n : Int) < ((ns.length : Nat) : Int) := by omega
    first
      | (rw [decide_eq_true q'] at h5; exact absurd h5 (by decide))
      | (simp at h5; omega)
  cases hwl with
  | cons w1 w2 =>
    cases w2
    cases w1 with
    | list ho hall => exact ⟨_, _, ns, rfl, rfl, ho, ints_of_wellAll ns _ hall, hlen⟩

theorem post_true (l : OpenLaw) (args : List WData) : l.row.toRowW.claim.post args (.bool true) args = true :=
  postW_of (r := l.row.toRowW) (X := (true == true))
    (show WShape.has [] (.bool true) .bool = true by first | rfl | decide | simp [WShape.has, WShape.arms, WShape.armsAll])
    (show (WTm.eq .res (.lit (.bool true))).value [] { args := args, res := some (.bool true), after := args } = some (.bool (true == true)) from w_eq_bool (w_res rfl) w_lit) rfl

/-! ### the attachment: holds_open's last premise (the goal 'hc' behind k_head) from a wpAny of the law's body -/

/-- the same from a codeAny of the CALL (for a layer whose function contracts speak of calls) -/
theorem attach_call {l : OpenLaw} {n : Nat} {q : Program} {loose : List Str} {XP : (Str → Option Value) → Heap → Prop} {YP : World → Heap → Prop} {d : DefRec}
    (hn : l.most = some n) (hdf : d.params.defaults = [])
    (call : ∀ (w : World) (s₀ s₁ : Shared) (mg mb : Str → Option Value) (fa : Addr) (o : Obj) (pm cd doc : Value) (a : Addr) (vs : List Value) (ns : List Int),
      Ground q loose [] XP w s₀ mg mb s₁.heap → YP w s₁.heap →
      s₁.heap.get? fa = some o → o.data = .func (docDef d.name d.params d.body d.scope pm cd doc) → s₁.heap.CodeRec cd d.name → mg d.name = some (.ref fa) →
      s₁.heap.get? a = some { cls := .type "list", data := .seq vs.toArray } → IntsAre vs ns → ns.length ≤ n → s₁.gens = #[] →
      codeAny (model l.prog w) callerA (.call (.ref fa) ⟨[.ref a], []⟩) (fun r s' => r = .ok (.ret (.bool true)) ∧ OldK s₁.heap s'.heap ∧ s'.os = s₁.os ∧ AllBare s'.gens) s₁) :
    WalkO q loose XP YP l.row.toRowW d [] (fun f vs => PySem.call f vs) := by
  intro w s₀ s₁ mg mb G Y fa o pm cd doc dV kV ho hd hcd hD hmg hg args vals as hpre hlay hrd hwl hlo
  obtain rfl : dV = .none := Dflts.none hD hdf
  obtain rfl : kV = .none := Dflts.noKw hD
  obtain ⟨a, vs, ns, rfl, rfl, hobj, hints, hlen⟩ := script_of hn hpre hwl
  refine enter_call (codeAny_mono (call w s₀ s₁ mg mb fa o pm cd doc a vs ns G Y ho (fd_plain hd) hcd hmg hobj hints hlen hg) fun r s' hq => ?_)
  obtain ⟨rfl, h2, h3, h4⟩ := hq
  exact ⟨.inl ⟨.bool true, .bool true, [], rfl, fun _ => rfl, .bool true, post_true l _, fun _ => ⟨List.Pairwise.nil, fun _ hm => (nomatch hm)⟩⟩, h2, h3, h4⟩


/-! ### rules over ANY heap (no ledger) from facts about the written part K: the library's own take a ledger (News) for what they write -/
section
variable {prog : Program} {w : World} {A : Around} {E : Value → Shared → Prop} {s : Shared} {K : Frag}


/-- C(..): dict at size, instance at size + 1, then __init__ -/
theorem make_obj {R : Result → Shared → Prop} {C fI : Addr} {rest : List Value} {kw : List (Str × Value)}
    (X : K.In s.heap) (hm : makesIn K C = true) (hi : findIn K (.ref C) "__init__" = some (some (.ref fI))) (hf : isFn K (.ref fI) = true)
    (h : codeAny (model prog w) (A.under (.builtin "type.__call__" ⟨.ref C :: rest, kw⟩)) (.call (.ref fI) ⟨.ref (s.heap.objs.size + 1) :: rest, kw⟩) (InitBack (s.heap.objs.size + 1) R)
      { s with heap := (s.heap.push emptyDict).push (instObj C s.heap.objs.size) }) : codeAny (model prog w) A (.call (.ref C) ⟨rest, kw⟩) R s := by
  obtain ⟨hh, g, d, t, os⟩ := s
  exact make_core (makes_of X hm) (looks_findIn X hi) (fun self => bind_fn X self (beq_iff_eq.mp hf)) (.inl rfl) h

/-- x.name where the instance's dict holds the name and the class does not -/
theorem get_field {x C : Addr} {ox : Obj} {es : List DictEntry} {n : Nat} {name : Str} {expr : Bool} {v : Value} {Q : Value → Shared → Prop}
    (X : K.In s.heap) (I : PySem.W.InstAt s.heap x ox C (some (dictOf es n))) (hg : plainGet K C name = true) (hh : hasDictIn K C = true) (ha : findIn K (.ref C) name = some none)
    (hl : getL name es = some (some v)) (hv : handedIn v = true) (h : Q v { s with toks := s.toks + 1 }) : wpAny (model prog w) A (getAttr (.ref x) name expr) Q E s :=
  get_value X I (plainGet_of hg).1 (findObj_own hh ha rfl hl) hv h


/-! the whole heap as the ledger: makes every rule that writes through a ledger a rule over any heap -/
def ledger (h : Heap) (L d : Addr) : List (Addr × Obj) := (List.range h.objs.size).filterMap fun a => if a = L ∨ a = d then none else (h.get? a).map fun o => (a, o)

end
end Att

namespace L2
open PySem PySem.Spec PyProof.Rows

theorem vals_ints : ∀ {vs : List Value} {ns : List Int}, IntsAre vs ns → Vals (ns.map V.int) vs
  | _, _, .nil => .nil
  | _, _, .cons n t h => .cons ⟨t, rfl⟩ (vals_ints h)

/-- nothing is tracked but the script, known to the object (or it is an object of the module) -/
def Only (H : Hp) : Prop := ∀ b, H b = none ∨ ∃ o xs, H b = some (.frz o (.lst xs))

/-- THE HEAD: the law's promise, at the heap behind the top. F, the promise of the law's def, may use that base is part of the heap (so K.In base, base.Ns mainGlobals mg stand in Mod) -/
theorem law_call {P : Program} {w : World} {K : PySem.W.Frag} {mg mb : Str → Option Value} {CX : CXT} {k : Nat} {fa a : Addr} {fd : FuncData} {x : Str} {sp : Sp} {s₁ : Shared} {vs : List Value} {ns : List Int}
    (KX : K.In s₁.heap) (hns : s₁.heap.Ns mainGlobals mg) (hb : s₁.heap.Ns builtinsNs mb) (hbb : ∀ x : Str, x ≠ "__name__" → mb x = bootBuiltins x) (hlim : s₁.heap.NoLimit) (hg : s₁.gens = #[])
    (ha : s₁.heap.get? a = some { cls := .type "list", data := .seq vs.toArray }) (hi : IntsAre vs ns) (hl : ns.length ≤ sizeLine) (hr : Room k callerA)
    (F : ∀ base : Heap, K.In base → base.Ns mainGlobals mg → FnOk P w K mg base CX k fa fd [x] sp) (hbind : ∀ (s : Shared) (u : Value), BindsTo s fd ⟨[u], []⟩ [(x, u)])
    (hsp : ∀ H : Hp, Only H → SqL K H a (ns.map V.int) → sp [.ref a] H (fun v _ => v = .bl true) fun _ _ _ => False)
    (hCX : ∀ H e s', CX [] H s₁ (fun _ _ _ => False) e s' → False) :
    codeAny (model P w) callerA (.call (.ref fa) ⟨[.ref a], []⟩) (fun r s' => r = .ok (.ret (.bool true)) ∧ OldK s₁.heap s'.heap ∧ s'.os = s₁.os ∧ AllBare s'.gens) s₁ := by
  have rv := vals_ints hi
  have lenV := hi.length
  -- from an abstract heap in which nothing but the script may be tracked
  have core : ∀ H : Hp, Only H → SqL K H a (ns.map V.int) → HOk P w H s₁.heap → (∀ b, H b ≠ none → b = a) → (H a ≠ none → K.lookup a = none) →
      codeAny (model P w) callerA (.call (.ref fa) ⟨[.ref a], []⟩) (fun r s' => r = .ok (.ret (.bool true)) ∧ OldK s₁.heap s'.heap ∧ s'.os = s₁.os ∧ AllBare s'.gens) s₁ := by
    intro H hO hS hok hA hK
    have base_of : ∀ {b : Addr} {o : Obj}, s₁.heap.get? b = some o → H b = none → (hidT s₁.heap H).get? b = some o := fun e n => hidT_get e n
    have noA : ∀ {b : Addr} {o : Obj} {es : Array DictEntry} {ep : Nat}, s₁.heap.get? b = some o → o.data = .dict es ep → H b = none := fun {b o es ep} e d => by
      cases q : H b with
      | none => rfl
      | some u =>
        have e' : b = a := hA b (by rw [q]; simp)
        subst e'
        rw [ha] at e; cases e
        have d' : Data.seq vs.toArray _ = Data.dict es ep := d
        cases d'
    have nsK : ∀ {b : Addr} {m : Str → Option Value}, s₁.heap.Ns b m → (hidT s₁.heap H).Ns b m := fun {b m} ⟨o, es, ep, e, d, r⟩ => ⟨o, es, ep, base_of e (noA e d), d, r⟩
    have hKb : K.In (hidT s₁.heap H) := fun b o e => base_of (KX b o e) (by
      cases q : H b with
      | none => rfl
      | some u =>
        have e' : b = a := hA b (by rw [q]; simp)
        subst e'
        rw [hK (by rw [q]; simp)] at e; cases e)
    have hM : Mod K mg (hidT s₁.heap H) := ⟨hKb, nsK hns, ⟨mb, nsK hb, hbb⟩, let ⟨mc, h1, h2⟩ := hlim; ⟨mc, nsK h1, h2⟩⟩
    have e0 : Env0 P w K mg (hidT s₁.heap H) callerA [] s₁ H := ⟨rfl, hM, fun b o e => of_hidT e, Nat.le_of_eq (hidT_size _ _), trivial, fun b hb => absurd (show b ∈ ([] : List Addr) from hb) (by simp), hok, .of_eq hg⟩
    refine codeAny_mono ((F _ hKb (nsK hns)).run callerA [] s₁ H ⟨[.ref a], []⟩ [.ref a] [.ref a] _ _ hr e0 (hbind s₁ (.ref a)) (.cons rfl .nil) (hsp H hO hS)) fun r s' h => ?_
    cases r with
    | error e => exact (hCX H e s' h).elim
    | ok fl =>
      cases fl with
      | next => exact False.elim h
      | brk => exact False.elim h
      | cont => exact False.elim h
      | ret u =>
        obtain ⟨v, H', os, bare, un, hok', r', q⟩ := h
        have q' : v = .bl true := q
        subst q'
        obtain rfl : u = Value.bool true := r'
        refine ⟨rfl, OldK.of_keep fun b o e => ?_, os, bare⟩
        cases q : H b with
        | none => exact un.keep b o e q (by intro z; exact absurd (show b ∈ ([] : List Addr) from z) (by simp)) (by simp)
        | some u =>
          rcases hO b with z | ⟨ob, xs, z⟩
          · rw [q] at z; cases z
          · have z2 := un.frzs b ob _ z
            obtain ⟨e1, _⟩ := hok b _ z
            obtain ⟨e2, _⟩ := hok' b _ z2
            rw [e] at e1; cases e1
            exact e2
  cases hk : K.lookup a with
  | some o =>
    -- the script is one of the module's own objects
    have e := KX a o hk
    rw [ha] at e
    cases e
    refine core (fun _ => none) (fun _ => .inl rfl) (.inr ⟨_, vs.toArray, _, hk, rfl, rfl, rfl, by rw [List.size_toArray, lenV]; exact hl, by simpa using rv⟩) (fun b u z => by have z' : (none : Option HO) = some u := z; cases z') (fun b z => absurd rfl z) fun z => absurd rfl z
  | none =>
    refine core (fun b => if b = a then some (.frz { cls := .type "list", data := .seq vs.toArray } (.lst (ns.map V.int))) else none) (fun b => ?_) (.inl (.inr ⟨{ cls := .type "list", data := .seq vs.toArray }, if_pos rfl⟩)) (fun b u z => ?_) (fun b z => ?_) fun _ => hk
    · by_cases hb : b = a
      · exact .inr ⟨_, _, if_pos hb⟩
      · exact .inl (if_neg hb)
    · by_cases hb : b = a
      · have z' := (if_pos hb).symm.trans z
        cases z'
        subst hb
        exact ⟨ha, by rw [List.length_map]; exact hl, vs, _, rv, ha⟩
      · have z' := (if_neg hb).symm.trans z
        cases z'
    · by_cases hb : b = a
      · exact hb
      · exact absurd (if_neg hb) z
end L2

namespace L2
open PySem PySem.Spec PyProof.Rows


/-- the goal that k_head leaves (case hc), from the law's promise. F gives the function object fd (K's own) once, then the promise over every base -/
theorem walk_of {l : PySem.W.OpenLaw} {n k : Nat} {q : Program} {loose : List Str} {XP : (Str → Option Value) → Heap → Prop} {YP : World → Heap → Prop} {d : DefRec} {K : Params → PySem.W.Frag} {CX : World → CXT} {sp : World → Sp} {x : Str}
    (hn : l.most = some n) (hn2 : n ≤ sizeLine) (hdf : d.params.defaults = []) (hr : Room k callerA)
    (hY : ∀ (w : World) (h : Heap), YP w h → (K w.params).In h)
    (F : ∀ (w : World) (mg : Str → Option Value) (fa : Addr) (h : Heap), (K w.params).In h → h.Ns mainGlobals mg → mg d.name = some (.ref fa) →
      ∃ fd : FuncData, (∀ (s : Shared) (u : Value), BindsTo s fd ⟨[u], []⟩ [(x, u)]) ∧
        ∀ base : Heap, (K w.params).In base → base.Ns mainGlobals mg → FnOk l.prog w (K w.params) mg base (CX w) k fa fd [x] (sp w))
    (hsp : ∀ (w : World) (H : Hp) (a : Addr) (ns : List Int), ns.length ≤ n → Only H → SqL (K w.params) H a (ns.map V.int) → sp w [.ref a] H (fun v _ => v = .bl true) fun _ _ _ => False)
    (hCX : ∀ (w : World) (H : Hp) (s : Shared) (e : Value) (s' : Shared), CX w [] H s (fun _ _ _ => False) e s' → False) :
    PySem.W.WalkO q loose XP YP l.row.toRowW d [] (fun f vs => PySem.call f vs) := by
  refine Att.attach_call hn hdf fun w s₀ s₁ mg mb fa o pm cd doc a vs ns G Y ho hd hcd hmg hobj hints hlen hg => ?_
  have KX := hY w _ Y
  obtain ⟨fd, hb, hF⟩ := F w mg fa _ KX G.T.g hmg
  exact law_call KX G.T.g G.T.b G.T.builtins G.T.nolimit hg hobj hints (Nat.le_trans hlen hn2) hr hF hb (fun H hO hS => hsp w H a ns hlen hO hS) fun H e s' => hCX w H s₁ e s'
end L2



/-! SHORT WORDS over the layer: a def of the text, its body, what a loop and a test want. -/
namespace L2
open PySem PySem.Spec PyProof.Rows

/-! ### the text by places -/
/-- the j-th statement of a class's body -/
def inClass (s : Stmt) (j : Nat) : Stmt := match s with
  | .ClassDef _ _ _ body _ _ _ _ _ _ _ => body.getD j (.Pass ⟨0, 0, 0, 0⟩)
  | _ => .Pass ⟨0, 0, 0, 0⟩
def defArgs (s : Stmt) : Arguments := match s with
  | .FunctionDef _ a _ _ _ _ _ _ _ _ => a
  | _ => { posonlyargs := [], args := [], vararg := none, kwonlyargs := [], kw_defaults := [], kwarg := none, defaults := [] }
def defBody (s : Stmt) : List Stmt := match s with
  | .FunctionDef _ _ b _ _ _ _ _ _ _ => b
  | _ => []
def defScope (s : Stmt) : Scope := match s with
  | .FunctionDef _ _ _ _ _ _ sc _ _ _ => sc
  | _ => { kind := .function, names := [], isGenerator := false, isCoroutine := false }

/-! ### no exception leaves a def -/
abbrev CX0 : CXT := fun _ _ _ _ _ _ => False
abbrev E0 : XK := fun _ _ _ => False
theorem pass0 {X : Cx} : Passes CX0 X E0 := fun _ _ _ _ _ _ _ h => h.elim

/-! ### a def (or method) of the text as it stands behind the top -/
structure Fun (K : PySem.W.Frag) (x qual : Str) (st : Stmt) (f : Addr) (fd : FuncData) : Prop where
  ex : ∃ (oc : Value) (od : Option Addr) (kV doc pm : Value) (an : Option Addr) (cdv ct : Value) (osl : Array (Option Value)),
    fd = PySem.W.fnOf x qual (defArgs st) (defBody st) (defScope st) .none kV doc pm an cdv ct ∧ K.lookup f = some ⟨oc, od, .func fd, osl⟩ ∧ PySem.W.codeIn K cdv qual = true
  kp : PySem.W.keepIn K (.ref f) = true
section
variable {P : Program} {w : World} {K : PySem.W.Frag} {mg : Str → Option Value} {base : Heap}
/-- THE RULE for a def: its body as a term of rules, and the reading of that term -/
theorem Fun.ok {x qual : Str} {st : Stmt} {f : Addr} {fd : FuncData} {N ps : List Str} {k : Nat} {sp : Sp} (F : Fun K x qual st f fd) (S : FnScope N ps (defScope st)) (len : ∀ vs H Q E, sp vs H Q E → vs.length = ps.length)
    (hbody : ∀ (cdv : Value) (A : Around) (outer : List Env) (s : Shared) (H : Hp) (vs : List V) (Q : VK) (E : XK), Room k (A.deeper (envOfC qual (defScope st) s.heap.objs.size f cdv)) → sp vs H Q E →
      ∃ t, PSs (cxOf CX0 P w K mg base N qual (defScope st) f cdv A outer s H E).nox (defBody st) t ∧ t { nx := fun _ H' => Q .non H', rt := Q } (start N vs) H) : FnOk P w K mg base CX0 (k + 1) f fd ps sp := by
  obtain ⟨oc, od, kV, doc, pm, an, cdv, ct, osl, rfl, lk, hcd⟩ := F.ex
  refine fn_of lk hcd S len fun A outer s H vs Q E hr hsp => ?_
  obtain ⟨t, h, q⟩ := hbody cdv A outer s H vs Q E hr hsp
  exact ⟨t, h.nox, q⟩
/-- how its arguments bind (no defaults): h is «fun _ _ _ _ _ _ us hl => match us, hl with | [_, _], _ => rfl», one _ a parameter -/
theorem Fun.binds {x qual : Str} {st : Stmt} {f : Addr} {fd : FuncData} {ps : List Str} (F : Fun K x qual st f fd)
    (h : ∀ (kV doc pm : Value) (an : Option Addr) (cdv ct : Value) (us : List Value), us.length = ps.length → bindArgs (PySem.W.fnOf x qual (defArgs st) (defBody st) (defScope st) .none kV doc pm an cdv ct) ⟨us, []⟩ = pure (ps.zip us)) : Binds K fd ps [] := by
  obtain ⟨oc, od, kV, doc, pm, an, cdv, ct, osl, rfl, lk, hcd⟩ := F.ex
  exact .all (h kV doc pm an cdv ct)
theorem fun_mk {x qual : Str} {st : Stmt} {f : Addr} {oc : Value} {od an : Option Addr} {osl : Array (Option Value)} {kV doc pm cdv ct : Value} (l : K.lookup f = some ⟨oc, od, .func (PySem.W.fnOf x qual (defArgs st) (defBody st) (defScope st) .none kV doc pm an cdv ct), osl⟩)
    (c : PySem.W.codeIn K cdv qual = true) (k : PySem.W.keepIn K (.ref f) = true) : Fun K x qual st f (PySem.W.fnOf x qual (defArgs st) (defBody st) (defScope st) .none kV doc pm an cdv ct) := ⟨⟨oc, od, kV, doc, pm, an, cdv, ct, osl, rfl, l, c⟩, k⟩
end
theorem hu_of {A : Around} {k : Nat} (hr : Room k A) : A.units + 1 < cLine := Nat.lt_of_le_of_lt (Nat.add_le_add_left (by decide : 1 ≤ 64) _) hr.units

/-! ### expressions in short: the name that stands in the i-th slot -/
section
variable {X : Cx}
theorem pv (i : Nat) {x : Str} {pos : Pos} (hN : X.N[i]? = some x := by rfl) (hv : Vis X.env.scope x := by first | exact Or.inl rfl | exact Or.inr (Or.inl rfl) | exact Or.inr (Or.inr rfl)) (hd : (x == ("__debug__" : Str)) = false := by decide)
    (hcd : (x == ("__classdict__" : Str)) = false := by decide) : PE X (.Name x pos) (tVar i) := pe_var hN hv hd hcd
end

/-! ### tests -/
theorem iteF {A B : Prop} (h : B) : if false = true then A else B := by
  rw [if_neg Bool.false_ne_true]
  exact h
theorem iteT {A B : Prop} (h : A) : if true = true then A else B := by
  rw [if_pos rfl]
  exact h

/-! ### heaps -/
/-- all that was tracked is as it was -/
def Same (H H' : Hp) : Prop := ∀ b o, H b = some o → H' b = some o
theorem Same.refl (H : Hp) : Same H H := fun _ _ h => h
theorem Same.trans {H H1 H2 : Hp} (a : Same H H1) (b : Same H1 H2) : Same H H2 := fun c o h => b c o (a c o h)
theorem Same.free {H H' : Hp} (e : Same H H') {l : Addr} (h : H' l = Option.none) : H l = Option.none := by
  cases q : H l with
  | none => rfl
  | some o =>
    rw [e l o q] at h
    cases h
theorem Same.seq {K : PySem.W.Frag} {H H' : Hp} {a : Addr} {xs : List V} (e : Same H H') (h : SqL K H a xs) : SqL K H' a xs := by
  rcases h with (h | ⟨o, h⟩) | h
  · exact .inl (.inl (e _ _ h))
  · exact .inl (.inr ⟨o, e _ _ h⟩)
  · exact .inr h

/-! ### a dict's pairs: keys that differ -/
section
variable {κ : Type} [DecidableEq κ]
end
end L2

set_option maxHeartbeats 4000000
/-! terms, their size, the paths of their steps: plain mathematics -/
namespace NC

/-- a term, over any kind of words -/
inductive T (W : Type) where
  | name (w : W)
  | place (n : Nat)
  | form (b : T W)
  | call (a b : T W)

variable {W : Type}

/-- how many parts -/
def T.size : T W → Nat
  | .name _ => 1
  | .place _ => 1
  | .form b => b.size + 1
  | .call a b => a.size + b.size + 1
/-- how deep -/
def T.deep : T W → Nat
  | .name _ => 1
  | .place _ => 1
  | .form b => b.deep + 1
  | .call a b => max a.deep b.deep + 1
theorem T.deep_le : ∀ t : T W, t.deep ≤ t.size
  | .name _ => Nat.le_refl _
  | .place _ => Nat.le_refl _
  | .form b => Nat.succ_le_succ b.deep_le
  | .call a b => by
    have h1 := a.deep_le
    have h2 := b.deep_le
    simp only [T.deep, T.size]
    omega
theorem T.size_pos : ∀ t : T W, 1 ≤ t.size
  | .name _ => Nat.le_refl _
  | .place _ => Nat.le_refl _
  | .form b => by simp only [T.size]; omega
  | .call a b => by simp only [T.size]; omega

def T.isForm : T W → Bool
  | .form _ => true
  | _ => false
/-- the paths of the calls of forms, a call ahead of those in it -/
def T.spots : T W → List (List Int)
  | .name _ => []
  | .place _ => []
  | .form b => b.spots.map (0 :: ·)
  | .call a b => (if a.isForm then [[]] else []) ++ (a.spots.map (0 :: ·) ++ b.spots.map (1 :: ·))

/-- behind a path -/
def under (p : List Int) (t : T W) : List (List Int) := t.spots.map (p ++ ·)


/-! ### the order of paths -/
/-- Python's order of two lists of whole numbers -/
def lex : List Int → List Int → Bool
  | [], [] => false
  | [], _ :: _ => true
  | _ :: _, [] => false
  | x :: xs, y :: ys => if x = y then lex xs ys else decide (x < y)




end NC
/-! raising, filling: over the parts of a term, and as the program does it with a pile -/
namespace NC
variable {W : Type}
/-- each part with the forms round it -/
def T.parts : Nat → T W → List (T W × Nat)
  | k, .name w => [(.name w, k)]
  | k, .place n => [(.place n, k)]
  | k, .form b => (.form b, k) :: b.parts (k + 1)
  | k, .call a b => (.call a b, k) :: (a.parts k ++ b.parts k)
def T.rebuild (g : T W → Nat → T W) : Nat → T W → T W
  | k, .name w => g (.name w) k
  | k, .place n => g (.place n) k
  | k, .form b => .form (b.rebuild g (k + 1))
  | k, .call a b => .call (a.rebuild g k) (b.rebuild g k)
section
variable {g : T W → Nat → T W}
end
/-- a leaf raised; a leaf filled -/
def liftG (by_ : Nat) : T W → Nat → T W
  | .place n, k => if k ≤ n then .place (n + by_) else .place n
  | t, _ => t
def T.lift (by_ : Nat) (t : T W) : T W := t.rebuild (liftG by_) 0
def fillG (u : T W) : T W → Nat → T W
  | .place n, k => if n < k then .place n else if n = k then u.lift k else .place (n - 1)
  | t, _ => t
def T.fill (t u : T W) : T W := t.rebuild (fillG u) 0
end NC
/-! ### list < list, of whole numbers -/
namespace NC
open PySem PyProof.Rows PySem.SeqAt
open PySem.AutoSeq1 (wpAny_loadPart')
open PySem.MeetsSeq PySem.MeetsSeq2 PySem.MeetsSeq3
end NC
/-! ### the library's sort, by questions: it puts in order (paths, by lex) -/
namespace NC
open PySem PySem.W PyProof.Rows
section
variable {α β : Type} {n : Nat} {lt : Nat → Nat → Bool}
/-- the tree asks places below n alone, and with these answers comes to R -/
def KOk (n : Nat) (lt : Nat → Nat → Bool) {α : Type} : KasT α → (α → Prop) → Prop
  | .ret a, R => R a
  | .ask i j k, R => i < n ∧ j < n ∧ KOk n lt (k (lt i j)) R
theorem KOk.mono {R R' : α → Prop} (m : ∀ a, R a → R' a) : ∀ {t : KasT α}, KOk n lt t R → KOk n lt t R'
  | .ret a, h => m a h
  | .ask _ _ k, h => ⟨h.1, h.2.1, KOk.mono m (t := k _) h.2.2⟩
theorem KOk.bind {f : α → KasT β} {R : β → Prop} : ∀ {t : KasT α}, KOk n lt t (fun a => KOk n lt (f a) R) → KOk n lt (t.bind f) R
  | .ret _, h => h
  | .ask _ _ k, h => ⟨h.1, h.2.1, KOk.bind (t := k _) h.2.2⟩
end
section
variable (key : Nat → List Int)
variable {key}
variable {n : Nat} {p : Array Nat}
/-- a turning about of 0 .. n - 1 -/
structure Pm (n : Nat) (p : Array Nat) : Prop where
  perm : p.Perm (List.toArray (List.range n))
theorem Pm.size (h : Pm n p) : p.size = n := by rw [h.perm.size_eq]; simp
theorem Pm.lt (h : Pm n p) {i : Nat} (hi : i < n) : p.getD i 0 < n := by
  have hi' : i < p.size := by rw [h.size]; exact hi
  have e : p.getD i 0 = p[i] := by simp [Array.getD, hi']
  rw [e]
  have m : p[i] ∈ (List.range n) := (Array.perm_iff_toList_perm.mp h.perm).mem_iff.mp (by simp)
  exact List.mem_range.mp m

end
end NC
/-! ### rules of our own over the hand layer: heaps that keep, deep ==, sorted lists of paths, isinstance -/
namespace NC
open PySem PySem.Spec PyProof.Rows L2

/-! #### what a step keeps -/
/-- all that is tracked stays, but at L -/
def Keep (L : List Addr) (H H' : Hp) : Prop := ∀ b o, b ∉ L → H b = some o → H' b = some o
def Tups (H H' : Hp) : Prop := ∀ b xs, H b = some (.tup xs) → H' b = some (.tup xs)
section
variable {L L' : List Addr} {H H1 H2 H' : Hp} {p l : Addr} {o : HO} {xs ys : List V}
theorem Keep.refl (L : List Addr) (H : Hp) : Keep L H H := fun _ _ _ h => h
theorem Keep.trans (a : Keep L H H1) (b : Keep L H1 H2) : Keep L H H2 := fun c o n h => b c o n (a c o n h)
theorem Keep.mono (a : Keep L H H1) (h : ∀ x ∈ L, x ∈ L') : Keep L' H H1 := fun c o n q => a c o (fun z => n (h c z)) q
theorem Keep.of_same (a : Same H H1) : Keep L H H1 := fun c o _ q => a c o q
theorem same_new (hp : H p = none) : Same H (upd H p o) := fun b u h => by rw [upd_ne (ne_of_none h hp)]; exact h
theorem keep_set (h : l ∈ L) : Keep L H (upd H l o) := fun b u n q => by
  rw [upd_ne (fun z => n (by rw [z]; exact h))]; exact q
theorem Tups.refl (H : Hp) : Tups H H := fun _ _ h => h
theorem Tups.trans (a : Tups H H1) (b : Tups H1 H2) : Tups H H2 := fun c o h => b c o (a c o h)
theorem Tups.of_same (a : Same H H1) : Tups H H1 := fun c _ h => a c _ h
theorem Keep.tups (a : Keep L H H1) (h : ∀ x ∈ L, ∃ ys, H x = some (.lst ys)) : Tups H H1 := fun c ys q => a c _ (fun z => by
  obtain ⟨zs, e⟩ := h c z
  rw [e] at q; cases q) q
theorem Keep.tup1 (a : Keep [l] H H1) (h : H l = some (.lst xs)) : Tups H H1 := a.tups fun x hx => ⟨xs, by rw [List.mem_singleton.mp hx]; exact h⟩
theorem Keep.at (a : Keep [l] H H1) {b : Addr} {u : HO} (h : H b = some u) (n : b ≠ l) : H1 b = some u := a b u (by simpa using n) h
theorem Keep.sub (a : Keep [l] H H1) (h : l ∈ L) : Keep L H H1 := a.mono fun x hx => by rw [List.mem_singleton.mp hx]; exact h
theorem same_keep {H0 : Hp} (s : Same H0 H) (k : Keep L H H1) (n : ∀ x ∈ L, H0 x = none) : Same H0 H1 := fun b o h => k b o (fun z => by rw [n b z] at h; cases h) (s b o h)
theorem same_keep1 {H0 : Hp} (s : Same H0 H) (k : Keep [l] H H1) (n : H0 l = none) : Same H0 H1 := same_keep s k fun x hx => by rw [List.mem_singleton.mp hx]; exact n
end

/-! #### tests -/
theorem ifT {c A B : Prop} [Decidable c] (hc : c) (h : A) : if decide c = true then A else B := by rw [decide_eq_true hc, if_pos rfl]; exact h
theorem ifF {c A B : Prop} [Decidable c] (hc : ¬ c) (h : B) : if decide c = true then A else B := by rw [decide_eq_false hc, if_neg Bool.false_ne_true]; exact h
theorem ifNT {c A B : Prop} [Decidable c] (hc : ¬ c) (h : A) : if (!decide c) = true then A else B := by rw [decide_eq_false hc]; exact h
theorem ifNF {c A B : Prop} [Decidable c] (hc : c) (h : B) : if (!decide c) = true then A else B := by rw [decide_eq_true hc]; exact h
theorem ifD {c A B : Prop} [Decidable c] (h1 : c → A) (h2 : ¬ c → B) : if decide c = true then A else B := by
  by_cases h : c
  · exact ifT h (h1 h)
  · exact ifF h (h2 h)
theorem ifB {b : Bool} {A B : Prop} (h1 : b = true → A) (h2 : b = false → B) : if b = true then A else B := by
  cases b with
  | true => exact h1 rfl
  | false => exact h2 rfl
theorem at0 {α : Type} {a : α} {r : List α} : atI (a :: r) 0 = some a := atI_nat (j := 0) rfl
theorem at1 {α : Type} {a b : α} {r : List α} : atI (a :: b :: r) 1 = some b := atI_nat (j := 1) rfl
theorem at2 {α : Type} {a b c : α} {r : List α} : atI (a :: b :: c :: r) 2 = some c := atI_nat (j := 2) rfl
theorem small {n : Nat} (h : n ≤ 1000000) : n < sizeLine := by rw [sizeLine_eq]; omega
theorem small' {n : Nat} (h : n ≤ 1000000) : n ≤ sizeLine := Nat.le_of_lt (small h)

/-! #### terms in the heap -/
abbrev Tm := T Str
inductive TermAt (H : Hp) : V → Tm → Prop where
  | name {a : Addr} {w : Str} (h : H a = some (.tup [.str "name", .str w])) : TermAt H (.ref a) (.name w)
  | place {a : Addr} {n : Nat} (h : H a = some (.tup [.str "place", .int n])) : TermAt H (.ref a) (.place n)
  | form {a : Addr} {v : V} {b : Tm} (h : H a = some (.tup [.str "form", v])) (hb : TermAt H v b) : TermAt H (.ref a) (.form b)
  | call {a : Addr} {v u : V} {x y : Tm} (h : H a = some (.tup [.str "call", v, u])) (hx : TermAt H v x) (hy : TermAt H u y) : TermAt H (.ref a) (.call x y)
theorem TermAt.mono {H H' : Hp} {v : V} {t : Tm} (h : TermAt H v t) (k : Tups H H') : TermAt H' v t := by
  induction h with
  | name h => exact .name (k _ _ h)
  | place h => exact .place (k _ _ h)
  | form h _ ih => exact .form (k _ _ h) ih
  | call h _ _ i1 i2 => exact .call (k _ _ h) i1 i2
theorem TermAt.same {H H' : Hp} {v : V} {t : Tm} (h : TermAt H v t) (k : Same H H') : TermAt H' v t := h.mono (.of_same k)
/-- a term's tag -/
def tag : Tm → Str
  | .name _ => "name"
  | .place _ => "place"
  | .form _ => "form"
  | .call _ _ => "call"
theorem TermAt.tup {H : Hp} {v : V} {t : Tm} (h : TermAt H v t) : ∃ a x r, v = .ref a ∧ H a = some (.tup (.str (tag t) :: x :: r)) := by
  cases h with
  | name h => exact ⟨_, _, _, rfl, h⟩
  | place h => exact ⟨_, _, _, rfl, h⟩
  | form h _ => exact ⟨_, _, _, rfl, h⟩
  | call h _ _ => exact ⟨_, _, _, rfl, h⟩
theorem n_nf : ¬ (V.str "name" = V.str "form") := by decide +kernel
theorem n_nc : ¬ (V.str "name" = V.str "call") := by decide +kernel
theorem n_fc : ¬ (V.str "form" = V.str "call") := by decide +kernel
theorem n_cf : ¬ (V.str "call" = V.str "form") := by decide +kernel

/-! #### lists of things -/
theorem paired_snoc_inv {α β : Type} {F : α → β → Prop} : ∀ {xs : List α} {ys : List β} {y : β}, Paired F xs (ys ++ [y]) → ∃ xs' x, xs = xs' ++ [x] ∧ Paired F xs' ys ∧ F x y
  | [], [], _, h => nomatch h
  | [], _ :: _, _, h => nomatch h
  | x :: xs, [], y, .cons r t => by
    cases t
    exact ⟨[], x, rfl, .nil, r⟩
  | x :: xs, z :: ys, y, .cons r t => by
    obtain ⟨xs', x', e, p, q⟩ := paired_snoc_inv (xs := xs) (ys := ys) t
    exact ⟨x :: xs', x', by rw [e]; rfl, .cons r p, q⟩
theorem paired_snoc {α β : Type} {F : α → β → Prop} {x : α} {y : β} (q : F x y) : ∀ {xs : List α} {ys : List β}, Paired F xs ys → Paired F (xs ++ [x]) (ys ++ [y])
  | _, _, .nil => .cons q .nil
  | _, _, .cons r t => .cons r (paired_snoc q t)
theorem snoc_of {α : Type} {xs : List α} (h : xs ≠ []) : ∃ ys y, xs = ys ++ [y] := ⟨xs.dropLast, xs.getLast h, (List.dropLast_concat_getLast h).symm⟩
theorem paired_nil {α β : Type} {F : α → β → Prop} {xs : List α} (p : Paired F xs ([] : List β)) : xs = [] := by cases p; rfl
theorem paired_imp {α β : Type} {F G : α → β → Prop} (f : ∀ a b, F a b → G a b) : ∀ {xs : List α} {ys : List β}, Paired F xs ys → Paired G xs ys
  | _, _, .nil => .nil
  | _, _, .cons r t => .cons (f _ _ r) (paired_imp f t)

/-! #### argument lists without a star: the side conditions by the expressions' heads alone -/
def plainE : Expr → Bool
  | .Starred .. => false
  | _ => true
theorem star_plain {e : Expr} {es : List Expr} {env : Env} (h : plainE e = true) : starEach (e :: es) env = (false, eval e env) :: starEach es env := by
  cases e <;> first | rfl | exact (Bool.false_ne_true h).elim
theorem star_any {pos : Pos} {env : Env} : ∀ {es : List Expr}, es.all plainE = true → (backTo pos (starEach es env)).any (·.1) = false
  | [], _ => rfl
  | e :: es, h => by
    rw [List.all_cons, Bool.and_eq_true] at h
    rw [star_plain h.1]
    show (false || (backTo pos (starEach es env)).any (·.1)) = false
    rw [star_any h.2]
    rfl
theorem star_all {pos : Pos} {env : Env} : ∀ {es : List Expr}, es.all plainE = true → (backTo pos (starEach es env)).all (fun x => !x.1) = true
  | [], _ => rfl
  | e :: es, h => by
    rw [List.all_cons, Bool.and_eq_true] at h
    rw [star_plain h.1]
    show (true && (backTo pos (starEach es env)).all (fun x => !x.1)) = true
    rw [star_all h.2]
    rfl
theorem pa_c {X : Cx} {e : Expr} {es : List Expr} {te : TE} {t : TA} (ha : PE X e te) (hr : PA X es t) (h : plainE e = true := by rfl) : PA X (e :: es) (tCons te t) := pa_cons ha hr (star_plain h)
section
variable {X : Cx} {x : Str} {p pos : Pos} {e : Expr} {es : List Expr} {t : TA} {id T : String} {r : List V → Hp → VK → Prop}
theorem pCB (hc : CallR X (.builtin id) r) (hg : Gl X x) (hm : X.mg x = none) (hv : bootBuiltins x = some (.builtin id)) (ha : PA X (e :: es) t) (h : (e :: es).all plainE = true := by rfl) (hn : x ≠ "__name__" := by decide) (hdb : (x == ("__debug__" : Str)) = false := by decide) :
    PE X (.Call (.Name x p) (e :: es) [] pos) (tCB r t) := by
  rw [List.all_cons, Bool.and_eq_true] at h
  exact pe_callB hc hg hm hv ha hn hdb (star_plain h.1) (star_any h.2)
theorem pCT (hc : CallR X (.type T) r) (hg : Gl X x) (hm : X.mg x = none) (hv : bootBuiltins x = some (.type T)) (ha : PA X (e :: es) t) (h : (e :: es).all plainE = true := by rfl) (hn : x ≠ "__name__" := by decide) (hdb : (x == ("__debug__" : Str)) = false := by decide) :
    PE X (.Call (.Name x p) (e :: es) [] pos) (tCB r t) := by
  rw [List.all_cons, Bool.and_eq_true] at h
  exact pe_callTy hc hg hm hv ha hn hdb (star_plain h.1) (star_any h.2)
end

/-! #### calls, methods, displays: the heap behind them is a letter -/
/-- a def of the text, ready to be called by its name -/
def GF (P : Program) (w : World) (K : PySem.W.Frag) (mg : Str → Option Value) (base : Heap) (CX : CXT) (k : Nat) (x : Str) (ps : List Str) (sp : Sp) : Prop :=
  ∃ f fd, FnOk P w K mg base CX k f fd ps sp ∧ mg x = some (.ref f) ∧ PySem.W.keepIn K (.ref f) = true ∧ Binds K fd ps []
section
variable {X : Cx} {CX : CXT} {k : Nat} {ps : List Str} {sp : Sp} {E : XK} {x : Str} {p pos : Pos} {e : Expr} {es : List Expr} {t : TA}
theorem pe_gf (G : GF X.prog X.w X.K X.mg X.base CX k x ps sp) (hr : Room k X.A) (hg : Gl X x) (hx : Passes CX X E) (ha : PA X (e :: es) t) (h : (e :: es).all plainE = true := by rfl) (hdb : (x == ("__debug__" : Str)) = false := by decide) :
    PE X (.Call (.Name x p) (e :: es) [] pos) (tCall sp [] E t) := by
  obtain ⟨f, fd, F, hm, hk, hb⟩ := G
  rw [List.all_cons, Bool.and_eq_true] at h
  exact pe_call F hr hg hm hk hb .nil hx ha hdb (star_plain h.1) (star_any h.2)
end
section
variable {X : Cx}
theorem OpR.imp {f : Value → Value → Sem Value} {r r' : R2} (h : OpR X f r) (m : ∀ x y H Q, r' x y H Q → r x y H Q) : OpR X f r' := fun pins s σ H x y v u Q I rx ry q => h pins s σ H x y v u Q I rx ry (m _ _ _ _ q)
theorem CallR.imp {f : Value} {r r' : List V → Hp → VK → Prop} (h : CallR X f r) (m : ∀ xs H Q, r' xs H Q → r xs H Q) : CallR X f r' := fun pins s σ H xs us Q I rx q => h pins s σ H xs us Q I rx (m _ _ _ q)
theorem MtM.imp {id : String} {r r' : V → List V → Hp → VK → Prop} (h : MtM X id r) (m : ∀ x xs H Q, r' x xs H Q → r x xs H Q) : MtM X id r' := fun pins s σ H x xs v us Q I rx rs q => h pins s σ H x xs v us Q I rx rs (m _ _ _ _ q)
inductive RAppI (x : V) (vs : List V) (H : Hp) (Q : VK) : Prop where
  | mk (l : _) (xs : _) (y : _) (c1 : x = .ref l) (c2 : vs = [y]) (c3 : H l = some (.lst xs)) (c4 : xs.length < sizeLine) (c5 : ∀ H', Keep [l] H H' → H' l = some (.lst (xs ++ [y])) → Q .non H')
def rApp : V → List V → Hp → VK → Prop := fun x vs H Q => RAppI x vs H Q
theorem mt_app : MtM X "list.append" rApp := MtM.imp mt_append fun _ _ _ _ ⟨l, xs, y, e1, e2, h1, h2, q⟩ => ⟨l, xs, y, e1, e2, h1, h2, q _ (keep_set (by simp)) upd_same⟩
inductive RPpI (x : V) (vs : List V) (H : Hp) (Q : VK) : Prop where
  | mk (l : _) (xs : _) (y : _) (c1 : x = .ref l) (c2 : vs = []) (c3 : H l = some (.lst (xs ++ [y]))) (c4 : ∀ H', Keep [l] H H' → H' l = some (.lst xs) → Q y H')
def rPp : V → List V → Hp → VK → Prop := fun x vs H Q => RPpI x vs H Q
theorem mt_pp : MtM X "list.pop" rPp := MtM.imp mt_pop fun _ _ _ _ ⟨l, xs, y, e1, e2, h1, q⟩ => ⟨l, _, y, e1, e2, h1, by simp, by
  have e : (xs ++ [y]).dropLast = xs := by simp
  rw [e]
  exact q _ (keep_set (by simp)) upd_same⟩
variable {o e : Expr} {to te : TE} {apos cpos : Pos}
/-- xs.append(e) -/
def tApp (K : PySem.W.Frag) (to te : TE) : TE := tBM K "list" rApp to (tCons te tNil)
theorem pApp (ho : PE X o to) (he : PE X e te) (h : plainE e = true := by rfl) (hbase : attributeBase o "append" X.env (eval o X.env) = eval o X.env := by rfl) (hline : (apos.endLine == cpos.line) = true := by rfl) :
    PE X (.Call (.Attribute o "append" apos) [e] [] cpos) (tApp X.K to te) :=
  pe_bm PySem.F.plainAttrs_list PySem.F.slot_list_append PySem.F.type_list_append mt_app ho (pa_c he pa_nil h) hbase (by
    rw [star_all (es := [e]) (by simp [h])]
    rfl) hline (star_plain h) rfl
/-- xs.pop() -/
def tPp (K : PySem.W.Frag) (to : TE) : TE := tBM0 K "list" rPp to
theorem pPop (ho : PE X o to) (hbase : attributeBase o "pop" X.env (eval o X.env) = eval o X.env := by rfl) (hline : (apos.endLine == cpos.line) = true := by rfl) : PE X (.Call (.Attribute o "pop" apos) [] [] cpos) (tPp X.K to) :=
  pe_bm0 PySem.F.plainAttrs_list PySem.F.slot_list_pop PySem.F.type_list_pop mt_pp ho hbase hline
variable {es : List Expr} {t : TA} {pos : Pos}
inductive TTpI (xs : List V) (H1 : Hp) (Q : VK) : Prop where
  | mk (c1 : xs.length ≤ sizeLine) (c2 : ∀ p H', H1 p = none → Same H1 H' → H' p = some (.tup xs) → Q (.ref p) H')
def tTp (t : TA) : TE := fun σ H Q => t σ H fun xs H1 => TTpI xs H1 Q
inductive TLsI (xs : List V) (H1 : Hp) (Q : VK) : Prop where
  | mk (c1 : xs.length ≤ sizeLine) (c2 : ∀ p H', H1 p = none → Same H1 H' → H' p = some (.lst xs) → Q (.ref p) H')
def tLs (t : TA) : TE := fun σ H Q => t σ H fun xs H1 => TLsI xs H1 Q
theorem pTup {x1} (h : PA X es t) : PE X (.Tuple es x1 pos) (tTp t) := by
  intro pins s σ H Q I hq
  refine wpAny_Tuple_spliced (thn (h pos pins s σ H _ I hq) fun us s1 ⟨xs, H1, I1, r, z, q⟩ => ⟨by rw [← r.length]; exact z, ?_⟩)
  have hf : H1 s1.heap.objs.size = none := I1.hok.fresh (Nat.le_refl _)
  exact ⟨.ref s1.heap.objs.size, upd H1 s1.heap.objs.size (.tup xs), I1.laid (t' := s1.toks) (fun b u e => Heap.get?_push_of_some _ e) (Nat.le_refl _) ⟨z, us, r, ⟨_, Heap.get?_push_size _ rfl, rfl, _, rfl⟩⟩, rfl, q _ _ hf (same_new hf) upd_same⟩
theorem pLst (h : PA X es t) : PE X (.List es pos) (tLs t) := by
  intro pins s σ H Q I hq
  refine wpAny_List_spliced (thn (h pos pins s σ H _ I hq) fun us s1 ⟨xs, H1, I1, r, z, q⟩ => ⟨by rw [← r.length]; exact z, ?_⟩)
  have hf : H1 s1.heap.objs.size = none := I1.hok.fresh (Nat.le_refl _)
  exact ⟨.ref s1.heap.objs.size, upd H1 s1.heap.objs.size (.lst xs), I1.laid (t' := s1.toks) (fun b u e => Heap.get?_push_of_some _ e) (Nat.le_refl _) ⟨z, us, 0, r, Heap.get?_push_size _ rfl⟩, rfl, q _ _ hf (same_new hf) upd_same⟩
/-- xs + ys -/
inductive RCtI (x : V) (y : V) (H : Hp) (Q : VK) : Prop where
  | mk (l : _) (b : _) (xs : _) (zs : _) (c1 : x = .ref l) (c2 : y = .ref b) (c3 : H l = some (.lst xs)) (c4 : H b = some (.lst zs)) (c5 : xs.length + zs.length ≤ sizeLine) (c6 : ∀ p H', H p = none → Same H H' → H' p = some (.lst (xs ++ zs)) → Q (.ref p) H')
def rCt : R2 := fun x y H Q => RCtI x y H Q
theorem op_ct : OpR X (binaryOp .Add) rCt := OpR.imp op_cat fun _ _ _ _ ⟨l, b, xs, zs, e1, e2, h1, h2, h3, q⟩ => ⟨l, b, xs, zs, e1, e2, h1, h2, h3, fun p hp => q p _ hp (same_new hp) upd_same⟩
/-- xs[lo:hi], a list -/
inductive RSlI (K : PySem.W.Frag) (x : V) (lo : Option Int) (hi : Option Int) (H : Hp) (Q : VK) : Prop where
  | mk (a : _) (xs : _) (c1 : x = .ref a) (c2 : SqL K H a xs) (c3 : ∀ p H', H p = none → Same H H' → H' p = some (.lst (cutV xs lo hi)) → Q (.ref p) H')
def rSl (K : PySem.W.Frag) : V → Option Int → Option Int → Hp → VK → Prop := fun x lo hi H Q => RSlI K x lo hi H Q
theorem sl_ls : SlR X (rSl X.K) := fun pins s σ H x v vl vu lo hi sl Q I rx h1 h2 h3 ⟨a, xs, e, hx, q⟩ => sl_list pins s σ H x v vl vu lo hi sl Q I rx h1 h2 h3 ⟨a, xs, e, hx, fun p hp => q p _ hp (same_new hp) upd_same⟩
end

/-! #### xs == [], xs != [] -/
section
variable {X : Cx}
inductive RNilI (K : PySem.W.Frag) (ne : Bool) (x : V) (y : V) (H : Hp) (Q : VK) : Prop where
  | mk (a : _) (b : _) (xs : _) (c1 : x = .ref a) (c2 : y = .ref b) (c3 : SqL K H a xs) (c4 : SqL K H b []) (c5 : Q (.bl (if ne then !xs.isEmpty else xs.isEmpty)) H)
def rNil (K : PySem.W.Frag) (ne : Bool) : R2 := fun x y H Q => RNilI K ne x y H Q
theorem op_eqNil (hu : X.A.units < cLine) : OpR X (compareOp .Eq) (rNil X.K false) := by
  intro pins s σ H x y v u Q I rx ry h
  obtain ⟨a, b, xs, rfl, rfl, h1, h2, q⟩ := h
  cases rx; cases ry
  obtain ⟨its, r, pl, hz⟩ := I.list h1
  obtain ⟨its2, r2, pl2, _⟩ := I.list h2
  cases r2
  cases r with
  | nil => exact SeqAt.eq_listAt (e := fun _ => true) pl.isList pl2.isList rfl hu (fun j j1 => absurd j1 (by simp)) ⟨.bl true, H, I, rfl, q⟩
  | cons r1 rt => exact SeqAt.eq_list_lengthsAt pl.isList pl2.isList (by simp) hu ⟨.bl false, H, I, rfl, q⟩
theorem op_neNil (hu : X.A.units < cLine) : OpR X (compareOp .NotEq) (rNil X.K true) := by
  intro pins s σ H x y v u Q I rx ry h
  obtain ⟨a, b, xs, rfl, rfl, h1, h2, q⟩ := h
  cases rx; cases ry
  obtain ⟨its, r, pl, hz⟩ := I.list h1
  obtain ⟨its2, r2, pl2, _⟩ := I.list h2
  cases r2
  cases r with
  | nil => exact SeqAt.RcNeAt.lists (e := fun _ => true) pl.isList pl2.isList rfl hu (fun j j1 => absurd j1 (by simp)) X.prog X.w _ _ ⟨.bl false, H, I, rfl, q⟩
  | cons r1 rt => exact SeqAt.RcNeAt.lists_lengths pl.isList pl2.isList (by simp) hu X.prog X.w _ _ ⟨.bl true, H, I, rfl, q⟩
end

/-! #### data of ints, texts, tuples and lists, compared as a whole -/
inductive Dt where
  | int (i : Int)
  | str (x : Str)
  | tup (ds : List Dt)
  | lst (ds : List Dt)
mutual
def DAt (K : PySem.W.Frag) (H : Hp) : Dt → V → Prop
  | .int i, v => v = .int i
  | .str x, v => v = .str x
  | .tup ds, v => ∃ a xs, v = .ref a ∧ SqT K H a xs ∧ DsAt K H ds xs
  | .lst ds, v => ∃ a xs, v = .ref a ∧ SqL K H a xs ∧ DsAt K H ds xs
def DsAt (K : PySem.W.Frag) (H : Hp) : List Dt → List V → Prop
  | [], xs => xs = []
  | d :: ds, xs => ∃ x r, xs = x :: r ∧ DAt K H d x ∧ DsAt K H ds r
end
mutual
/-- deeper than n it is not -/
def Dt.Lim : Nat → Dt → Prop
  | _, .int _ => True
  | _, .str _ => True
  | 0, .tup _ => False
  | 0, .lst _ => False
  | n + 1, .tup ds => Dt.Lims n ds
  | n + 1, .lst ds => Dt.Lims n ds
def Dt.Lims : Nat → List Dt → Prop
  | _, [] => True
  | n, d :: ds => Dt.Lim n d ∧ Dt.Lims n ds
end
theorem DsAt.len {K : PySem.W.Frag} {H : Hp} : ∀ {ds : List Dt} {xs : List V}, DsAt K H ds xs → xs.length = ds.length
  | [], _, h => by
    have e : _ = [] := h
    rw [e]; rfl
  | d :: ds, _, h => by
    obtain ⟨x, r, e, _, h2⟩ := h
    rw [e, List.length_cons, List.length_cons, DsAt.len h2]
theorem DsAt.get {K : PySem.W.Frag} {H : Hp} : ∀ {ds : List Dt} {xs : List V} {j : Nat} {d : Dt}, DsAt K H ds xs → ds[j]? = some d → ∃ x, xs[j]? = some x ∧ DAt K H d x
  | [], _, _, _, _, e => by simp at e
  | d :: ds, _, 0, d', h, e => by
    obtain ⟨x, r, e1, h1, _⟩ := h
    simp at e
    subst e
    exact ⟨x, by rw [e1]; rfl, h1⟩
  | d :: ds, _, j + 1, d', h, e => by
    obtain ⟨x, r, e1, _, h2⟩ := h
    obtain ⟨y, e2, h3⟩ := DsAt.get (j := j) h2 (by simpa using e)
    exact ⟨y, by rw [e1]; simpa using e2, h3⟩
theorem Lims.get : ∀ {n : Nat} {ds : List Dt} {j : Nat} {d : Dt}, Dt.Lims n ds → ds[j]? = some d → Dt.Lim n d
  | _, [], _, _, _, e => by simp at e
  | _, d :: ds, 0, d', h, e => by
    simp at e
    subst e
    exact h.1
  | _, d :: ds, j + 1, d', h, e => Lims.get (j := j) h.2 (by simpa using e)
section
variable {X : Cx} {pins : List (Addr × Obj)} {σ : L2.St} {H : Hp} {s : Shared}

open PySem.SeqAt in
open PySem.SeqAt in
open Classical in
open Classical in
open Classical in
open PySem.SeqAt in
open PySem.SeqAt in
end
section
variable {X : Cx}

/-! #### isinstance of one built-in class -/
theorem call_isi : CallR X (.builtin "isinstance") (fun xs H Q => ∃ x n t b, xs = [x, .ty n] ∧ TyOf X.K H x t ∧ PySem.W.kitOne X.K t (.type n) = some b ∧ Q (.bl b) H) := by
  intro pins s σ H xs us Q I r h
  obtain ⟨x, n, t, b, rfl, h1, h2, q⟩ := h
  obtain ⟨u, w', rfl, r1, r2⟩ := vals2 r
  cases (show w' = Value.type n from r2)
  exact isinst_ok I r1 h1 h2 fun tk => ⟨.bl b, H, I.tok tk, rfl, q⟩
end
/-- a list of whole numbers stands there -/
def PathV (H : Hp) (v : V) (p : List Int) : Prop := ∃ l, v = .ref l ∧ H l = some (.lst (p.map V.int))
theorem PathV.same {H H' : Hp} {v : V} {p : List Int} (h : PathV H v p) (s : Same H H') : PathV H' v p := let ⟨l, e, q⟩ := h; ⟨l, e, s _ _ q⟩
theorem kit_tt (K : PySem.W.Frag) : PySem.W.kitOne K (.type "tuple") (.type "tuple") = some true := by rfl
theorem kit_ss (K : PySem.W.Frag) : PySem.W.kitOne K (.type "str") (.type "str") = some true := by rfl
end NC
/-! ### sorted(found), found a list of lists of whole numbers -/
namespace NC
open PySem PySem.Spec PyProof.Rows L2
section
open PySem.W
variable {α : Type} {n : Nat} {lt : Nat → Nat → Bool} {cmp : Nat → Nat → (Bool → Shared → Prop) → Shared → Prop} {s : Shared}
end
section
variable {prog : Program} {w : World} {A : Around} {E : Value → Shared → Prop} {s : Shared}
end
section
variable {P : Program} {w : World} {H : Hp} {h : Heap} {a : Addr} {o : HO}
/-- what is described stands there -/
theorem objok_there (x : ObjOk P w H h a o) : ∃ ob, h.get? a = some ob := by
  cases o with
  | lst xs => obtain ⟨_, _, _, _, e⟩ := x; exact ⟨_, e⟩
  | tup xs => obtain ⟨_, _, _, ob, e, _⟩ := x; exact ⟨_, e⟩
  | dK kvs => obtain ⟨_, _, _, _, ob, _, _, e, _⟩ := x; exact ⟨_, e⟩
  | dT kvs => obtain ⟨_, _, _, _, ob, _, _, e, _⟩ := x; exact ⟨_, e⟩
  | set S n => obtain ⟨ob, _, _, _, e, _⟩ := x; exact ⟨_, e⟩
  | ins C dx fs => obtain ⟨_, _, _, e, _⟩ := x; exact ⟨_, e⟩
  | own y => exact x
  | xd fs => obtain ⟨_, ⟨_, _, _, e, _⟩, _⟩ := x; exact ⟨_, e⟩
  | rng lo hi => obtain ⟨_, _, _, e⟩ := x; exact ⟨_, e⟩
  | frz ob u => obtain ⟨e, _⟩ := x; exact ⟨_, e⟩
  | tbl ps => exact ⟨_, show h.get? a = some _ from x⟩
  | met f y => exact ⟨_, show h.get? a = some _ from x⟩
  | ext φ => obtain ⟨_, e, _⟩ := x; exact e
end
section
variable {X : Cx} {pins : List (Addr × Obj)} {σ : L2.St} {H : Hp} {s : Shared}
end
section
variable {X : Cx}
end
end NC
/-! ### common readings, said short -/
namespace NC
open PySem PySem.Spec PyProof.Rows L2
theorem tseq_cut {t u : TS} {D : Ends} {σ : L2.St} {H : Hp} (h : ∀ K : L2.St → Hp → Prop, (∀ σ' H', u D σ' H' → K σ' H') → t { D with nx := K } σ H) : tSeq t u D σ H := h _ fun _ _ h => h
theorem len1 {us : List Value} (h : us.length = 1) : ∃ a, us = [a] := by
  rcases us with _ | ⟨a, _ | ⟨_, _⟩⟩
  · cases h
  · exact ⟨a, rfl⟩
  · cases h
theorem len2 {us : List Value} (h : us.length = 2) : ∃ a b, us = [a, b] := by
  rcases us with _ | ⟨a, us⟩
  · cases h
  · obtain ⟨b, rfl⟩ := len1 (Nat.succ.inj h)
    exact ⟨a, b, rfl⟩
end NC
/-! ### defs within defs: the code's table, the made function, its cells, and a call under a larger base -/
namespace NC
open PySem PySem.Spec PyProof.Rows L2

/-- the built-ins' module, as a def within a def asks it -/
def BltAt (base : Heap) (mg : Str → Option Value) : Prop := ∃ bm ob, mg "__builtins__" = some (.ref bm) ∧ bm ≠ builtinsNs ∧ base.get? bm = some ob ∧ ob.cls = .type "module" ∧ ob.dict = some builtinsNs ∧ ob.data = .plain
theorem BltAt.mono {b b' : Heap} {mg : Str → Option Value} (x : BltAt b mg) (k : ∀ a o, b.get? a = some o → b'.get? a = some o) : BltAt b' mg := let ⟨bm, ob, h1, h2, h3, h4⟩ := x; ⟨bm, ob, h1, h2, k _ _ h3, h4⟩
/-- the code that a def within a def has got -/
def CodeX (c : Addr) (qual : Str) : HO := .ext fun h => h.CodeRec (.ref c) qual
/-- the table: empty, or it holds the one def's code -/
def TabOk (H : Hp) (P : Addr) (pos : Pos) (qual : Str) : Prop := H P = some (.tbl #[]) ∨ ∃ c, H P = some (.tbl #[rawInt pos.line, rawInt pos.col, .ref c]) ∧ H c = some (CodeX c qual)
/-- all is kept but tables -/
def SameX (H H' : Hp) : Prop := ∀ b o, (∀ ps, o ≠ .tbl ps) → H b = some o → H' b = some o
section
variable {H H1 H2 H' : Hp} {b : Addr}
theorem SameX.of (s : Same H H') : SameX H H' := fun b o _ h => s b o h
theorem SameX.refl (H : Hp) : SameX H H := fun _ _ _ h => h
theorem SameX.trans (a : SameX H H1) (c : SameX H1 H2) : SameX H H2 := fun b o n h => c b o n (a b o n h)
theorem SameX.tups (s : SameX H H') : Tups H H' := fun b xs h => s b _ (fun _ z => by cases z) h
theorem SameX.lst {xs : List V} (s : SameX H H') (h : H b = some (.lst xs)) : H' b = some (.lst xs) := s b _ (fun _ z => by cases z) h
theorem SameX.tup {xs : List V} (s : SameX H H') (h : H b = some (.tup xs)) : H' b = some (.tup xs) := s b _ (fun _ z => by cases z) h
theorem SameX.free (s : SameX H H') (n : H' b = none) : H b = none ∨ ∃ ps, H b = some (.tbl ps) := by
  cases q : H b with
  | none => exact .inl rfl
  | some o =>
    cases o with
    | tbl ps => exact .inr ⟨ps, rfl⟩
    | _ => exact absurd (s b _ (fun _ z => by cases z) q) (by rw [n]; intro z; cases z)
end
theorem TabOk.same {H H' : Hp} {P : Addr} {pos : Pos} {qual : Str} (t : TabOk H P pos qual) (s : Same H H') : TabOk H' P pos qual := by
  rcases t with t | ⟨c, t1, t2⟩
  · exact .inl (s _ _ t)
  · exact .inr ⟨c, s _ _ t1, s _ _ t2⟩
/-- all but lists stays -/
def NL (H H' : Hp) : Prop := ∀ b o, (∀ xs, o ≠ .lst xs) → H b = some o → H' b = some o
theorem NL.of_same {H H' : Hp} (s : Same H H') : NL H H' := fun b o _ h => s b o h
theorem NL.of_keep {H H' : Hp} {l : Addr} {xs : List V} (k : Keep [l] H H') (h : H l = some (.lst xs)) : NL H H' := fun b o n q => k b o (fun z => by
  rw [List.mem_singleton.mp z, h] at q
  cases q
  exact n xs rfl) q

section
variable {X : Cx} {pins : List (Addr × Obj)} {σ : L2.St} {H : Hp} {s : Shared}
end
end NC
/-! ### a made function as a def: its promise over a base that holds it and its cells; a call under a larger base -/
namespace NC
open PySem PySem.Spec PyProof.Rows L2

section
variable {CX : CXT} {P : Program} {w : World} {K : PySem.W.Frag} {mg : Str → Option Value} {base : Heap} {k : Nat} {f c : Addr} {name qual : Str} {params : Arguments} {body : List Stmt} {scope : Scope} {clos : List (Str × Addr)} {doc pm ctv : Value} {ps fs : List Str} {fvs : List V} {sp : Sp}
end

/-! #### the larger base -/
/-- without what the larger base holds, and with it again -/
def delH (H : Hp) (L : List Addr) : Hp := fun b => if b ∈ L then none else H b
theorem delH_ne {H : Hp} {L : List Addr} {b : Addr} (h : b ∉ L) : delH H L b = H b := if_neg h
/-- what may go into the larger base: made functions and codes, or cells of this frame's own -/
def Goes (X : Cx) (H : Hp) (b : Addr) : Prop := (∃ φ, H b = some (.ext φ)) ∨ ∃ x, X.env.cells.lookup x = some b ∧ X.fn x = true
section
variable {X : Cx} {pins : List (Addr × Obj)} {σ : L2.St} {H : Hp} {s : Shared} {L : List Addr}
theorem Goes.there (I : Inv X pins σ H s) {b : Addr} (g : Goes X H b) : ∃ o, s.heap.get? b = some o := by
  rcases g with ⟨φ, e⟩ | ⟨x, e, _⟩
  · exact objok_there (I.hok b _ e)
  · obtain ⟨v, o, h, _⟩ := I.cell x b e
    exact ⟨o, h⟩
end
/-- a function that is handed about, over the base: ready to be called -/
def FV (P : Program) (w : World) (K : PySem.W.Frag) (mg : Str → Option Value) (base : Heap) (CX : CXT) (k : Nat) (f : Addr) (ps : List Str) (sp : Sp) : Prop :=
  ∃ fd oc od sl, FnOk P w K mg base CX k f fd ps sp ∧ base.get? f = some ⟨oc, od, .func fd, sl⟩ ∧ Binds K fd ps []
section
variable {X : Cx} {CX : CXT} {k : Nat} {ps : List Str} {E : XK} {x : Str} {p pos : Pos} {e : Expr} {es : List Expr} {t : TA}
end
section
variable {X : Cx} {CX : CXT} {k : Nat} {ps : List Str} {E : XK} {x : Str} {p pos : Pos} {e : Expr} {es : List Expr} {t : TA}
end
end NC
/-! ### reversed: a loop over it, and list(reversed(xs)) -/
namespace NC
open PySem PySem.Spec PyProof.Rows L2
/-- the list at a, n long, from behind -/
def Itv (K : PySem.W.Frag) (a : Addr) (n : Nat) : It :=
  ⟨fun i H => i < n ∧ ∃ xs, SqL K H a xs ∧ xs.length = n, fun i H x H' => H' = H ∧ ∀ xs, SqL K H a xs → xs.reverse[i]? = some x, fun i H => n ≤ i⟩
section
variable {X : Cx} {tg : Expr}
end
/-- over a list from behind, that the body leaves as it is -/
theorem for_rev {K : PySem.W.Frag} {a : Addr} {xs : List V} {g : TG} {tb : TS} {D : Ends} {σ : L2.St} {H : Hp} (Pv : Nat → L2.St → Hp → Prop) (h0 : Pv 0 σ H) (hl : ∀ i σ H, i ≤ xs.length → Pv i σ H → SqL K H a xs)
    (hs : ∀ i x σ H, xs.reverse[i]? = some x → Pv i σ H → g x σ H fun σ2 H2 => tb { D with nx := Pv (i + 1), ct := Pv (i + 1), bk := D.nx } σ2 H2) (hd : ∀ σ H, Pv xs.length σ H → D.nx σ H) :
    ∃ W : Nat → Nat → L2.St → Hp → Prop, (∃ m, W 0 m σ H) ∧ ∀ i m σ H, W i m σ H →
      ((Itv K a xs.length).stop i H ∧ D.nx σ H) ∨ ((Itv K a xs.length).go i H ∧ ∃ N : L2.St → Hp → Prop, (∀ σ' H', N σ' H' → ∃ m', m' < m ∧ W (i + 1) m' σ' H') ∧ ∀ x H', (Itv K a xs.length).yld i H x H' → g x σ H' fun σ2 H2 => tb { D with nx := N, ct := N, bk := D.nx } σ2 H2) := by
  refine ⟨fun i m σ H => m = xs.length - i ∧ i ≤ xs.length ∧ Pv i σ H, ⟨xs.length, by simp, Nat.zero_le _, h0⟩, ?_⟩
  rintro i m σ H ⟨rfl, hi, p⟩
  have q := hl i σ H hi p
  by_cases hlt : i < xs.length
  · refine .inr ⟨⟨hlt, xs, q, rfl⟩, Pv (i + 1), fun σ' H' p' => ⟨xs.length - (i + 1), by omega, rfl, hlt, p'⟩, fun x H' y => ?_⟩
    obtain ⟨e, y⟩ := y
    subst e
    exact hs i x σ _ (y xs q) p
  · have e : i = xs.length := by omega
    subst e
    exact .inl ⟨Nat.le_refl _, hd σ H p⟩

/-! #### list(reversed(xs)) -/
section
variable {prog : Program} {w : World} {A : Around} {E : Value → Shared → Prop} {s : Shared}
end
section
variable {prog : Program} {w : World} {A : Around} {s : Shared} {R : Result → Shared → Prop} {I l : Addr} {items : Array Value}
end
section
variable {prog : Program} {w : World} {A : Around} {E : Value → Shared → Prop} {s : Shared} {I l : Addr} {items : Array Value}
end
section
variable {X : Cx}
end
end NC
/-! ### defs within defs, in short -/
namespace NC
open PySem PySem.Spec PyProof.Rows L2
/-- a def of the text whose code is told -/
structure FunC (K : PySem.W.Frag) (x qual : Str) (st : Stmt) (f : Addr) (fd : FuncData) (c0 : Addr) : Prop where
  ex : ∃ (oc : Value) (od : Option Addr) (kV doc pm : Value) (an : Option Addr) (ct : Value) (osl : Array (Option Value)),
    fd = PySem.W.fnOf x qual (defArgs st) (defBody st) (defScope st) .none kV doc pm an (.ref c0) ct ∧ K.lookup f = some ⟨oc, od, .func fd, osl⟩ ∧ PySem.W.codeIn K (.ref c0) qual = true
theorem FunC.ok {P : Program} {w : World} {K : PySem.W.Frag} {mg : Str → Option Value} {base : Heap} {x qual : Str} {st : Stmt} {f : Addr} {fd : FuncData} {c0 : Addr} {N ps : List Str} {k : Nat} {sp : Sp} (F : FunC K x qual st f fd c0) (S : FnScope N ps (defScope st)) (len : ∀ vs H Q E, sp vs H Q E → vs.length = ps.length)
    (hbody : ∀ (A : Around) (outer : List Env) (s : Shared) (H : Hp) (vs : List V) (Q : VK) (E : XK), Room k (A.deeper (envOfC qual (defScope st) s.heap.objs.size f (.ref c0))) → sp vs H Q E →
      ∃ t, PSs (cxOf CX0 P w K mg base N qual (defScope st) f (.ref c0) A outer s H E).nox (defBody st) t ∧ t { nx := fun _ H' => Q .non H', rt := Q } (start N vs) H) : FnOk P w K mg base CX0 (k + 1) f fd ps sp := by
  obtain ⟨oc, od, kV, doc, pm, an, ct, osl, rfl, lk, hcd⟩ := F.ex
  refine fn_of lk hcd S len fun A outer s H vs Q E hr hsp => ?_
  obtain ⟨t, h, q⟩ := hbody A outer s H vs Q E hr hsp
  exact ⟨t, h.nox, q⟩
theorem NL.trans {H H1 H2 : Hp} (a : NL H H1) (b : NL H1 H2) : NL H H2 := fun x o n h => b x o n (a x o n h)
theorem NL.refl (H : Hp) : NL H H := fun _ _ _ h => h
end NC
/-! ### methods and classes by name -/
namespace NC
open PySem PySem.Spec PyProof.Rows L2
def GM (P : Program) (w : World) (K : PySem.W.Frag) (mg : Str → Option Value) (base : Heap) (CX : CXT) (k : Nat) (C : Addr) (m : Str) (ps : List Str) (sp : Sp) : Prop :=
  ∃ f fd, FnOk P w K mg base CX k f fd ps sp ∧ Meth K C m f ∧ Binds K fd ps []
def GK (P : Program) (w : World) (K : PySem.W.Frag) (mg : Str → Option Value) (base : Heap) (CX : CXT) (k : Nat) (C : Addr) (x : Str) (ps : List Str) (sp : Sp) : Prop :=
  ∃ f fd, FnOk P w K mg base CX k f fd ps sp ∧ Mk K C f ∧ mg x = some (.ref C) ∧ Binds K fd ps []
section
variable {X : Cx} {CX : CXT} {k : Nat} {C : Addr} {m x : Str} {ps : List Str} {sp : Sp} {E : XK} {o e : Expr} {es : List Expr} {ta : TE} {t : TA} {apos pos p : Pos}
theorem pe_gm {pl : Sem Bool} (he : PE X o ta) (c : Cls X.K C) (G : GM X.prog X.w X.K X.mg X.base CX k C m ps sp) (hr : Room k X.A) (hx : Passes CX X E) (ha : PA X (e :: es) t) (h : (e :: es).all plainE = true := by rfl)
    (ht : eval (.Call (.Attribute o m apos) (e :: es) [] pos) X.env = (do
      let ov ← eval o X.env
      standAt apos.atName
      let (f, first) ← holding [ov] (getMethod ov m pl)
      callWith pos f first (backTo pos (starEach (e :: es) X.env)) (backToKw pos (keywordEach [] X.env))) := by rfl) : PE X (.Call (.Attribute o m apos) (e :: es) [] pos) (tMeth C m sp [] E ta t) := by
  obtain ⟨f, fd, F, M, hb⟩ := G
  rw [List.all_cons, Bool.and_eq_true] at h
  exact pe_meth he c M F hr hb .nil hx ha (star_plain h.1) (star_any h.2) ht
theorem pe_gk (G : GK X.prog X.w X.K X.mg X.base CX k C x ps sp) (hr : Room (k + 1) X.A) (hg : Gl X x) (hx : Passes CX X E) (ha : PA X (e :: es) t) (h : (e :: es).all plainE = true := by rfl) (hdb : (x == ("__debug__" : Str)) = false := by decide) :
    PE X (.Call (.Name x p) (e :: es) [] pos) (tMake C sp [] E t) := by
  obtain ⟨f, fd, F, M, hm, hb⟩ := G
  rw [List.all_cons, Bool.and_eq_true] at h
  exact pe_make M F hr hg hm hb .nil hx ha hdb (star_plain h.1) (star_any h.2)
end
/-- keys that are numbers below M, no two alike: at most M -/
theorem pig {κ : Type} [DecidableEq κ] (f : Nat → κ) : ∀ (M : Nat) (l : List κ), l.Nodup → (∀ k ∈ l, ∃ n : Nat, n < M ∧ k = f n) → l.length ≤ M
  | 0, l, _, h => by
    cases l with
    | nil => exact Nat.le_refl _
    | cons k r =>
      obtain ⟨n, hn, _⟩ := h k List.mem_cons_self
      exact absurd hn (Nat.not_lt_zero _)
  | M + 1, l, nd, h => by
    by_cases hm : f M ∈ l
    · have q := pig f M (l.erase (f M)) (nd.erase _) fun k hk => by
        obtain ⟨hne, hk2⟩ := (nd.mem_erase_iff).mp hk
        obtain ⟨n, hn, e⟩ := h k hk2
        refine ⟨n, ?_, e⟩
        have : n ≠ M := fun z => hne (by rw [e, z])
        omega
      rw [List.length_erase_of_mem hm] at q
      omega
    · have q := pig f M l nd fun k hk => by
        obtain ⟨n, hn, e⟩ := h k hk
        refine ⟨n, ?_, e⟩
        have : n ≠ M := fun z => hm (by rw [← z, ← e]; exact hk)
        omega
      omega
end NC
/-! ### the law's walk where defs make functions: their codes' tables are tracked, empty at first -/
namespace NC
open PySem PySem.Spec PyProof.Rows L2
end NC
/-! ### a comprehension over a list: one clause, no free names -/
namespace NC
open PySem PySem.Spec PyProof.Rows L2
section
variable {prog : Program} {w : World} {A : Around} {R : Result → Shared → Prop} {s : Shared}
theorem compLoop_any {elt target iter : Expr} {ifs : List Expr} {scope : Scope} {pos : Pos} {it acc : Value} {env : Env} (I : Nat → Shared → Prop)
    (turn : ∀ n s, I n s → wpAny (model prog w) A (pyNext it) (fun r s₁ => match r with
      | none => R (.ok .next) s₁
      | some v => wpAny (model prog w) A (letOwnedTupleGo target it v) (fun _ s₁' => wpAny (model prog w) A (assign target env v) (fun _ s₂ =>
          wpAny (model prog w) A (forIn ifs true fun c r => if r = true then do let ok ← isTrue c env (eval c env); pure (ForInStep.yield ok) else pure (ForInStep.yield r)) (fun ok s₃ =>
            if ok = true then wpAny (model prog w) A (eval elt env) (fun x s₄ =>
              wpAny (model prog w) A (call (.builtin "list.append") [acc, x]) (fun _ s₅ => ∃ m, m < n ∧ I m s₅) (fun _ _ => False) s₄) (fun _ _ => False) s₃
            else ∃ m, m < n ∧ I m s₃) (fun _ _ => False) s₂) (fun _ _ => False) s₁') (fun _ _ => False) s₁) (fun _ _ => False) s)
    (n : Nat) (h : I n s) : codeAny (model prog w) A (.compLoop (.ListComp elt [⟨target, iter, ifs, 0⟩] scope pos) 0 it acc env) R s := by
  refine codeAny_loop rfl I (fun n s hI => ?_) n h
  show wpAny _ A ((compTurn (.ListComp elt [⟨target, iter, ifs, 0⟩] scope pos) 0 it acc env).onRaise (fun x => do noteFrame x env; theTreesLotGoes x)) _ _ s
  refine wpAny_noted ?_
  rw [compTurn_list]
  refine wpAny_bind (wpAny_standAt (wpAny_bind (wpAny_mono (turn n s hI) (fun r s₁ h₁ => ?_) fun _ _ h' => h'.elim)))
  cases r with
  | none => exact wpAny_pure h₁
  | some v =>
    refine wpAny_bind (wpAny_mono h₁ (fun _ s₁' h₁' => ?_) fun _ _ h' => h'.elim)
    refine wpAny_bind (wpAny_mono h₁' (fun _ s₂ h₂ => wpAny_bind (wpAny_mono h₂ (fun ok s₃ h₃ => ?_) fun _ _ h' => h'.elim)) fun _ _ h' => h'.elim)
    cases ok with
    | false => exact wpAny_pure ⟨rfl, h₃⟩
    | true =>
      exact wpAny_bind (wpAny_bind (wpAny_mono h₃ (fun x s₄ h₄ => wpAny_bind (wpAny_mono h₄ (fun _ s₅ h₅ => wpAny_pure (wpAny_pure ⟨rfl, h₅⟩)) fun _ _ h' => h'.elim)) fun _ _ h' => h'.elim))
end
/-- the context within it -/
def compCx (X : Cx) (N : List Str) (scope : Scope) (C : Addr) (s : Shared) (H : Hp) : Cx where
  prog := X.prog
  w := X.w
  K := X.K
  mg := X.mg
  base := X.base
  A := X.A
  N := N
  s₀ := s
  H₀ := H
  env := compEnv scope C X.env
  outer := X.stack
  stack := X.stack
  ex := []
  calm := X.calm
  fn := fun _ => false
  pn := []
  xe := fun _ _ => False
/-- the tests of a clause -/
def PF (X : Cx) (ifs : List Expr) (t : TT) : Prop := ∀ (pins : List (Addr × Obj)) (s : Shared) (σ : L2.St) (H : Hp) (Q : Bool → Hp → Prop), Inv X pins σ H s → t σ H Q →
  wpAny (model X.prog X.w) X.A (forIn ifs true fun c r => if r = true then do let ok ← isTrue c X.env (eval c X.env); pure (ForInStep.yield ok) else pure (ForInStep.yield r)) (TP X pins σ Q) X.xe s
def tYes : TT := fun _ H Q => Q true H
theorem pf_nil {X : Cx} : PF X [] tYes := fun pins s σ H Q I h => wpAny_tests_nil ⟨H, I, h⟩
end NC
/-! ### zip of two lists; a comprehension over any iterator -/
namespace NC
open PySem PySem.Spec PyProof.Rows L2
/-- the two lists, as they stand at each turn: each turn makes a pair -/
def Itz (K : PySem.W.Frag) (l1 l2 : Addr) : It :=
  ⟨fun i H => ∃ xs ys x y, SqL K H l1 xs ∧ SqL K H l2 ys ∧ xs[i]? = some x ∧ ys[i]? = some y,
   fun i H v H' => ∃ p x y, v = .ref p ∧ H p = none ∧ H' = upd H p (.tup [x, y]) ∧ (∀ xs, SqL K H l1 xs → xs[i]? = some x) ∧ ∀ ys, SqL K H l2 ys → ys[i]? = some y,
   fun i H => ∃ xs ys, SqL K H l1 xs ∧ SqL K H l2 ys ∧ (xs.length ≤ i ∨ ys.length ≤ i)⟩
structure ZipOwn (z TI TO i1 i2 : Addr) : Prop where
  TIz : TI ≠ z
  TOz : TO ≠ z
  i1z : i1 ≠ z
  i2z : i2 ≠ z
  TITO : TI ≠ TO
  TIi1 : TI ≠ i1
  TIi2 : TI ≠ i2
  TOi1 : TO ≠ i1
  TOi2 : TO ≠ i2
  i12 : i1 ≠ i2
theorem list_apart {h : Heap} {l b : Addr} {xs : Array Value} {o : Obj} (p : h.IsList l xs) (e : h.get? b = some o) (n : o.cls ≠ .type "list") : l ≠ b := fun z => by
  obtain ⟨o', e', c, _⟩ := p
  rw [z, e] at e'
  cases e'
  exact n c
def ZipTn (z TI TO i1 i2 l1 l2 : Addr) (i : Nat) (h : Heap) : Prop := IsZip h z TI TO .none ∧ IsPair h TI (.ref i1) (.ref i2) ∧ (∃ a b, IsPair h TO a b) ∧ h.IsListIter i1 l1 i ∧ h.IsListIter i2 l2 i
theorem ZipTn.apart {z TI TO i1 i2 l1 l2 : Addr} {i : Nat} {h : Heap} {xs ys : Array Value} (D : ZipOwn z TI TO i1 i2) (t : ZipTn z TI TO i1 i2 l1 l2 i h) (p1 : h.IsList l1 xs) (p2 : h.IsList l2 ys) : ZipApart z TI TO i1 i2 l1 l2 := by
  obtain ⟨hz, hTI, ⟨a, b, hTO⟩, ⟨o1, e1, c1, _⟩, ⟨o2, e2, c2, _⟩⟩ := t
  have n1 : o1.cls ≠ .type "list" := by rw [c1]; simp
  have n2 : o2.cls ≠ .type "list" := by rw [c2]; simp
  exact ⟨D.TIz, D.TOz, D.i1z, D.i2z, D.TITO, D.TIi1, D.TIi2, D.TOi1, D.TOi2, D.i12, list_apart p1 hz (by simp), list_apart p1 hTO (by simp), list_apart p1 e1 n1, list_apart p1 e2 n2, list_apart p2 hz (by simp), list_apart p2 hTO (by simp), list_apart p2 e1 n1, list_apart p2 e2 n2⟩
section
variable {X : Cx} {pins : List (Addr × Obj)} {σ : L2.St} {H : Hp} {s : Shared} {h' : Heap}
/-- the iterator's own objects turn, and a new tuple is laid -/
theorem turned_new {t' : Nat} {ch : List Addr} {p : Addr} {xs : List V} (I : Inv X pins σ H s) (hf : ∀ b ∈ ch, FpOk X pins H b) (k : ∀ b o, b ∉ ch → s.heap.get? b = some o → h'.get? b = some o) (hp : s.heap.objs.size ≤ p) (new : ObjOk X.prog X.w (upd H p (.tup xs)) h' p (.tup xs)) :
    Inv X pins σ (upd H p (.tup xs)) { s with heap := h', toks := t' } := by
  have hn := I.hok.fresh hp
  have nch : ∀ b u, H b = some u → b ∉ ch := fun b u e z => by rw [(hf b z).1] at e; cases e
  refine I.step (g' := s.gens) (d' := s.drawn) (ch := ch) (fun b hb => ?_) (fun b o _ _ hc e _ => k b o hc e) (fun b o _ _ hc e _ => ⟨o.slots, k b o hc e⟩) (fun b o _ e n => ?_)
    (fun b o hc e => ⟨o, k b o hc e⟩) (fun b xs e => by rw [upd_ne (ne_of_none e hn)]; exact e) (fun b o u e => by rw [upd_ne (ne_of_none e hn)]; exact e) (fun b ps e => ⟨#[], by rw [upd_ne (ne_of_none e hn), e]; simp⟩) (fun m hm => ?_) (fun b u e => ?_) I.bare
  · obtain ⟨_, f1, f2, f3, f4, f5⟩ := hf b hb
    exact ⟨f3, f1, f4, f5⟩
  · rw [upd_ne fun z => by rw [z] at e; exact absurd (Nat.lt_of_lt_of_le (Heap.lt_size e) hp) (Nat.lt_irrefl _)]
    exact n
  · obtain ⟨o, es, ep, ho, r⟩ := hm
    exact ⟨o, es, ep, k _ o (fun z => (hf _ z).2.1 rfl) ho, r⟩
  · by_cases hb : b = p
    · subst hb
      rw [upd_same] at e
      cases e
      exact new
    · rw [upd_ne hb] at e
      refine (I.hok b u e).stay (fun c v hc q => k c v ?_ q) (fun c q => by rw [upd_ne (ne_of_none q hn)]; exact q) fun c xs q => by rw [upd_ne (ne_of_none q hn)]; exact q
      rcases hc with z | z
      · rw [z]; exact nch b u e
      · exact nch c _ z
theorem turned_all {t' : Nat} {ch : List Addr} (I : Inv X pins σ H s) (hf : ∀ b ∈ ch, FpOk X pins H b) (k : ∀ b o, b ∉ ch → s.heap.get? b = some o → h'.get? b = some o) : Inv X pins σ H { s with heap := h', toks := t' } := by
  have nch : ∀ b u, H b = some u → b ∉ ch := fun b u e z => by rw [(hf b z).1] at e; cases e
  refine I.step (g' := s.gens) (d' := s.drawn) (ch := ch) (fun b hb => ?_) (fun b o _ _ hc e _ => k b o hc e) (fun b o _ _ hc e _ => ⟨o.slots, k b o hc e⟩) (fun _ _ _ _ n => n)
    (fun b o hc e => ⟨o, k b o hc e⟩) (fun _ _ e => e) (fun _ _ _ e => e) (fun b ps e => ⟨#[], by rw [e]; simp⟩) (fun m hm => ?_) (fun b u e => ?_) I.bare
  · obtain ⟨_, f1, f2, f3, f4, f5⟩ := hf b hb
    exact ⟨f3, f1, f4, f5⟩
  · obtain ⟨o, es, ep, ho, r⟩ := hm
    exact ⟨o, es, ep, k _ o (fun z => (hf _ z).2.1 rfl) ho, r⟩
  · refine (I.hok b u e).stay (fun c v hc q => k c v ?_ q) (fun _ q => q) fun _ _ q => q
    rcases hc with z | z
    · rw [z]; exact nch b u e
    · exact nch c _ z
end
theorem turn_zip {P : Program} {w : World} {K : PySem.W.Frag} {elts : List Expr} {x1} {pos : Pos} {z TI TO i1 i2 : Addr} (l1 l2 : Addr) (D : ZipOwn z TI TO i1 i2) :
    Turn P w K (.Tuple elts x1 pos) (Itz K l1 l2) [z, TI, TO, i1, i2] z (ZipTn z TI TO i1 i2 l1 l2) where
  mem := by simp
  obj := fun i h st b hb => by
    obtain ⟨hz, hTI, ⟨a, c, hTO⟩, ⟨o1, e1, c1, d1⟩, ⟨o2, e2, c2, d2⟩⟩ := st
    simp only [List.mem_cons, List.not_mem_nil, or_false] at hb
    rcases hb with rfl | rfl | rfl | rfl | rfl
    · exact ⟨_, hz, fun v q => by have q' : Data.fields _ = Data.cell v := q; cases q'⟩
    · exact ⟨_, hTI, fun v q => by have q' : Data.seq _ _ = Data.cell v := q; cases q'⟩
    · exact ⟨_, hTO, fun v q => by have q' : Data.seq _ _ = Data.cell v := q; cases q'⟩
    · exact ⟨_, e1, fun v q => by rw [d1] at q; cases q⟩
    · exact ⟨_, e2, fun v q => by rw [d2] at q; cases q⟩
  keep := fun i h h' st k => by
    obtain ⟨hz, hTI, ⟨a, c, hTO⟩, h1, h2⟩ := st
    exact ⟨k z (by simp) _ hz, k TI (by simp) _ hTI, ⟨a, c, k TO (by simp) _ hTO⟩, h1.at fun o e => k i1 (by simp) o e, h2.at fun o e => k i2 (by simp) o e⟩
  item := by
    intro X hP hw hK hc i pins s σ H E I hf st hg
    subst hP hw hK
    obtain ⟨xs, ys, x, y, q1, q2, hx, hy⟩ := hg
    obtain ⟨its1, rv1, p1, hz1⟩ := I.list q1
    obtain ⟨its2, rv2, p2, hz2⟩ := I.list q2
    obtain ⟨u1, hu1, ru1⟩ := rv1.get hx
    obtain ⟨u2, hu2, ru2⟩ := rv2.get hy
    have DA := st.apart D p1.isList p2.isList
    obtain ⟨hz, hTI, ⟨a, b, hTO⟩, h1, h2⟩ := st
    refine wpAny_pyNext_zip_item DA hz hTI hTO h1 h2 p1.isList p2.isList (x := u1) (y := u2) (by simpa using hu1) (by simpa using hu2) fun h' a1 a2 a3 a4 a5 a6 a7 => ?_
    have lt : ∀ {c o}, s.heap.get? c = some o → s.heap.objs.size ≠ c := fun e => Nat.ne_of_gt (Heap.lt_size e)
    have ltz := lt hz
    refine ⟨_, rfl, wpAny_letOwnedTupleGo_zip a1 fun h'' hz' hs' => ?_⟩
    have k : ∀ b o, b ∉ [z, TI, TO, i1, i2] → s.heap.get? b = some o → h''.get? b = some o := fun b o hb e => by
      simp only [List.mem_cons, List.not_mem_nil, or_false, not_or] at hb
      exact hs'.extBut _ _ hb.1 (a7 b o hb.1 hb.2.2.1 hb.2.2.2.1 hb.2.2.2.2 e)
    have I2 : Inv X pins σ (upd H s.heap.objs.size (.tup [x, y])) { s with heap := h'', toks := s.toks } := turned_new I hf k (Nat.le_refl _) ⟨by show 2 ≤ sizeLine; exact small' (by decide), [u1, u2], .cons ru1 (.cons ru2 .nil), ⟨_, hs'.extBut _ _ ltz a5, rfl, _, rfl⟩⟩
    have hn := I.hok.fresh (Nat.le_refl _)
    refine ⟨.ref s.heap.objs.size, _, I2, rfl, ⟨_, x, y, rfl, hn, rfl, fun zs hz => by rw [I.list_inj hz q1]; exact hx, fun zs hz => by rw [I.list_inj hz q2]; exact hy⟩, ⟨hz', hs'.extBut _ _ D.TIz (a7 _ _ D.TIz D.TITO D.TIi1 D.TIi2 hTI), ⟨_, _, hs'.extBut _ _ D.TOz a2⟩, a3.extBut hs'.extBut D.i1z, a4.extBut hs'.extBut D.i2z⟩, fun b hb => ?_⟩
    rw [upd_ne ?_]
    · exact (hf b hb).1
    · obtain ⟨o1, e1, _⟩ := h1
      obtain ⟨o2, e2, _⟩ := h2
      simp only [List.mem_cons, List.not_mem_nil, or_false] at hb
      rcases hb with rfl | rfl | rfl | rfl | rfl
      · exact (lt hz).symm
      · exact (lt hTI).symm
      · exact (lt hTO).symm
      · exact (lt e1).symm
      · exact (lt e2).symm
  done := by
    intro X hP hw hK hc i pins s σ H E I hf st hg
    subst hP hw hK
    obtain ⟨xs, ys, q1, q2, hend⟩ := hg
    obtain ⟨its1, rv1, p1, hz1⟩ := I.list q1
    obtain ⟨its2, rv2, p2, hz2⟩ := I.list q2
    have DA := st.apart D p1.isList p2.isList
    obtain ⟨hz, hTI, ⟨a, b, hTO⟩, h1, h2⟩ := st
    have l1' := rv1.length
    have l2' := rv2.length
    refine wpAny_pyNext_zip_end (I.ok.hd hc) DA hz hTI hTO h1 h2 p1.isList p2.isList ?_ fun h' k => ⟨rfl, turned_all (t' := s.toks) I hf fun b o hb e => ?_⟩
    · rcases hend with h | h
      · exact .inl (by simp; omega)
      · exact .inr (by simp; omega)
    · simp only [List.mem_cons, List.not_mem_nil, or_false, not_or] at hb
      exact k b o hb.1 hb.2.2.1 hb.2.2.2.1 hb.2.2.2.2 e
  self := fun _ _ _ _ _ st h => wpAny_pyIter_zip st.1 h
section
variable {X : Cx}
end
/-- the context within a comprehension whose iterator's objects are at fp -/
def compCxI (X : Cx) (N : List Str) (scope : Scope) (C : Addr) (s : Shared) (H : Hp) (fp : List Addr) : Cx := { compCx X N scope C s H with ex := fp }
end NC
/-! ### lambdas, made functions whose code stays tracked, larger bases, all tables of a text -/
namespace NC
open PySem PySem.Spec PyProof.Rows L2

section
variable {X : Cx} {pins : List (Addr × Obj)} {σ : L2.St} {H : Hp} {s : Shared}
end
theorem made_free {H H' : Hp} {P : Addr} {pos : Pos} {qual : Str} (sx : SameX H H') (tp : TabOk H' P pos qual) (oth : ∀ Q : Addr, Q ≠ P → ∀ ps, H Q = some (.tbl ps) → H' Q = some (.tbl ps)) {b : Addr} (n : H' b = none) : H b = none := by
  rcases sx.free n with e | ⟨ps, e⟩
  · exact e
  · by_cases hb : b = P
    · subst hb
      rcases tp with t | ⟨c, t, _⟩
      · rw [n] at t; cases t
      · rw [n] at t; cases t
    · have := oth b hb ps e
      rw [n] at this; cases this

/-! #### made functions whose code is tracked -/
section
variable {CX : CXT} {P : Program} {w : World} {K : PySem.W.Frag} {mg : Str → Option Value} {base : Heap} {k : Nat} {f c : Addr} {name qual : Str} {params : Arguments} {body : List Stmt} {bodyE : Expr} {scope : Scope} {clos : List (Str × Addr)} {doc pm ctv : Value} {ps fs : List Str} {fvs : List V} {sp : Sp}
end

/-! #### a larger base -/
structure Larger (K : PySem.W.Frag) (mg : Str → Option Value) (base base' : Heap) : Prop where
  get : ∀ b o, base.get? b = some o → base'.get? b = some o
  sz : base.objs.size ≤ base'.objs.size
  mod : Mod K mg base
theorem FV.larger {P : Program} {w : World} {K : PySem.W.Frag} {mg : Str → Option Value} {base base' : Heap} {CX : CXT} {k : Nat} {f : Addr} {ps : List Str} {sp : Sp} (F : FV P w K mg base CX k f ps sp) (L : Larger K mg base base') : FV P w K mg base' CX k f ps sp := by
  obtain ⟨fd, oc, od, sl, F, ho, hb⟩ := F
  refine ⟨fd, oc, od, sl, ⟨F.len, fun A outer s H args us vs Q E hr e0 => F.run A outer s H args us vs Q E hr ⟨e0.frames, L.mod, fun b o e => e0.bs b o (L.get b o e), Nat.le_trans L.sz e0.bsz, ?_, e0.frf, e0.hok, e0.bare⟩⟩, L.get _ _ ho, hb⟩
  have all : ∀ l : List Env, s.heap.FunFrames base' l → s.heap.FunFrames base l := by
    intro l
    induction l with
    | nil => intro _; trivial
    | cons env r ih =>
      intro hl
      obtain ⟨hk, ⟨L', o, hf, hn, ho, hd⟩, hr⟩ := hl
      refine ⟨hk, ⟨L', o, hf, ?_, ho, hd⟩, ih hr⟩
      cases q : base.get? L' with
      | none => rfl
      | some u => rw [L.get _ _ q] at hn; cases hn
  exact all outer e0.funs
section
variable {X : Cx} {CX : CXT} {k : Nat} {ps : List Str} {E : XK} {x : Str} {p pos : Pos} {e : Expr} {es : List Expr} {t : TA}
/-- what may go into the larger base: made functions, or cells of this frame's own -/
def Goes2 (X : Cx) (H : Hp) (b : Addr) : Prop := (∃ φ, H b = some (.ext φ) ∧ ∀ h, φ h → ∃ o fd, h.get? b = some o ∧ o.data = .func fd) ∨ ∃ x, X.env.cells.lookup x = some b ∧ X.fn x = true
theorem Goes2.goes {H : Hp} {b : Addr} (g : Goes2 X H b) : Goes X H b := by
  rcases g with ⟨φ, e, _⟩ | g
  · exact .inl ⟨φ, e⟩
  · exact .inr g
end


/-! #### all tables of a text -/
abbrev Tabs := List (Addr × Pos × Str)
def TO (L : Tabs) (H : Hp) : Prop := ∀ x ∈ L, TabOk H x.1 x.2.1 x.2.2
/-- no two tables are at one place -/
def TDis (L : Tabs) : Prop := ∀ x ∈ L, ∀ y ∈ L, x.1 = y.1 → x = y
/-- all but lists and tables stays -/
def NLX (H H' : Hp) : Prop := ∀ b o, (∀ xs, o ≠ .lst xs) → (∀ ps, o ≠ .tbl ps) → H b = some o → H' b = some o
/-- tables but those of L are the same -/
def OthT (L : List Addr) (H H' : Hp) : Prop := ∀ Q : Addr, Q ∉ L → ∀ ps, H Q = some (.tbl ps) → H' Q = some (.tbl ps)
theorem OthT.of_same {L : List Addr} {H H' : Hp} (s : Same H H') : OthT L H H' := fun _ _ _ e => s _ _ e
theorem OthT.trans {L : List Addr} {H H1 H2 : Hp} (a : OthT L H H1) (b : OthT L H1 H2) : OthT L H H2 := fun Q n ps e => b Q n ps (a Q n ps e)
structure ST (L : Tabs) (H H' : Hp) : Prop where
  sx : SameX H H'
  to : TO L H'
section
variable {L : Tabs} {H H1 H2 H' : Hp} {D : List Addr}
theorem TO.same (t : TO L H) (s : Same H H') : TO L H' := fun x hx => (t x hx).same s
theorem TO.made {P : Addr} {pos : Pos} {q : Str} (t : TO L H) (dis : TDis L) (m : (P, pos, q) ∈ L) (sx : SameX H H') (tp : TabOk H' P pos q) (oth : ∀ Q : Addr, Q ≠ P → ∀ ps, H Q = some (.tbl ps) → H' Q = some (.tbl ps)) : TO L H' := fun x hx => by
  by_cases hP : x.1 = P
  · have e := dis x hx (P, pos, q) m hP
    rw [e]
    exact tp
  · rcases t x hx with a | ⟨c, a, b⟩
    · exact .inl (oth _ hP _ a)
    · exact .inr ⟨c, oth _ hP _ a, sx _ _ (fun _ z => by cases z) b⟩
theorem TO.del (t : TO L H) (only : ∀ b ∈ D, ∀ o, H b = some o → ∃ φ, o = .ext φ) (nocode : ∀ b ∈ D, ∀ q, H b ≠ some (CodeX b q)) : TO L (delH H D) := fun x hx => by
  have nt : ∀ ps, H x.1 = some (.tbl ps) → x.1 ∉ D := fun ps e z => by obtain ⟨φ, q⟩ := only _ z _ e; cases q
  rcases t x hx with a | ⟨c, a, b⟩
  · exact .inl (by rw [delH_ne (nt _ a)]; exact a)
  · exact .inr ⟨c, by rw [delH_ne (nt _ a)]; exact a, by rw [delH_ne fun z => nocode c z _ b]; exact b⟩
theorem ST.refl (t : TO L H) : ST L H H := ⟨.refl _, t⟩
theorem ST.trans (a : ST L H H1) (b : ST L H1 H2) : ST L H H2 := ⟨a.sx.trans b.sx, b.to⟩
theorem ST.of_same (t : TO L H) (s : Same H H') : ST L H H' := ⟨.of s, t.same s⟩
theorem ST.same (a : ST L H H1) (s : Same H1 H2) : ST L H H2 := a.trans (.of_same a.to s)
theorem ST.tups (a : ST L H H') : Tups H H' := a.sx.tups
theorem NLX.refl (H : Hp) : NLX H H := fun _ _ _ _ h => h
theorem NLX.trans (a : NLX H H1) (b : NLX H1 H2) : NLX H H2 := fun x o n m h => b x o n m (a x o n m h)
theorem NLX.of_nl (n : NL H H') : NLX H H' := fun b o a _ h => n b o a h
theorem NLX.of_same (s : Same H H') : NLX H H' := fun b o _ _ h => s b o h
theorem NLX.of_keep {l : Addr} {xs : List V} (k : Keep [l] H H') (h : H l = some (.lst xs)) : NLX H H' := .of_nl (.of_keep k h)
end
end NC
namespace NC
open PySem PySem.Spec PyProof.Rows L2
/-- all but A and tables stays -/
def KA (A : List Addr) (H H' : Hp) : Prop := ∀ b o, b ∉ A → (∀ ps, o ≠ .tbl ps) → H b = some o → H' b = some o
section
variable {A D : List Addr} {L : Tabs} {H H1 H2 H' : Hp} {p : Addr}
theorem KA.refl (A : List Addr) (H : Hp) : KA A H H := fun _ _ _ _ h => h
theorem KA.trans (a : KA A H H1) (b : KA A H1 H2) : KA A H H2 := fun x o n m h => b x o n m (a x o n m h)
theorem KA.of_same (s : Same H H') : KA A H H' := fun b o _ _ h => s b o h
theorem KA.sx (a : KA [] H H') : SameX H H' := fun b o m h => a b o (by simp) m h
theorem KA.keep (a : KA A H H1) (k : Keep [p] H1 H2) (n : H p = none) : KA A H H2 := fun b o nb m h => k b o (fun z => by rw [List.mem_singleton.mp z, n] at h; cases h) (a b o nb m h)
/-- own ones are dicts -/
def OwnD (A : List Addr) (H : Hp) : Prop := ∀ b ∈ A, ∃ kvs, H b = some (.dK kvs)
theorem KA.lst (a : KA A H H') (d : OwnD A H) {b : Addr} {xs : List V} (h : H b = some (.lst xs)) : H' b = some (.lst xs) := a b _ (fun z => by obtain ⟨_, q⟩ := d b z; rw [h] at q; cases q) (fun _ z => by cases z) h
theorem KA.tups (a : KA A H H') (d : OwnD A H) : Tups H H' := fun b xs h => a b _ (fun z => by obtain ⟨_, q⟩ := d b z; rw [h] at q; cases q) (fun _ z => by cases z) h
end
end NC
/-! ### paths and pairs in the heap, while some local lists change -/
namespace NC
open PySem PySem.Spec PyProof.Rows L2
inductive PathNI (L : List Addr) (H : Hp) (v : V) (p : List Int) : Prop where
  | mk (l : _) (c1 : v = .ref l) (c2 : l ∉ L) (c3 : H l = some (.lst (p.map V.int)))
def PathN (L : List Addr) (H : Hp) (v : V) (p : List Int) : Prop := PathNI L H v p
inductive ItemNI (L : List Addr) (H : Hp) (v : V) (q : Tm × List Int) : Prop where
  | mk (a : _) (tv : _) (pv : _) (c1 : v = .ref a) (c2 : H a = some (.tup [tv, pv])) (c3 : TermAt H tv q.1) (c4 : PathN L H pv q.2)
def ItemN (L : List Addr) (H : Hp) (v : V) (q : Tm × List Int) : Prop := ItemNI L H v q
/-- all of L are lists -/
def Lists (L : List Addr) (H : Hp) : Prop := ∀ x ∈ L, ∃ ys, H x = some (.lst ys)
theorem PathN.keep {L : List Addr} {H H' : Hp} {v : V} {p : List Int} (h : PathN L H v p) (k : Keep L H H') : PathN L H' v p := let ⟨l, e, n, q⟩ := h; ⟨l, e, n, k _ _ n q⟩
theorem ItemN.keep {L : List Addr} {H H' : Hp} {v : V} {q : Tm × List Int} (h : ItemN L H v q) (k : Keep L H H') (hL : Lists L H) : ItemN L H' v q :=
  let ⟨a, tv, pv, e, h1, h2, h3⟩ := h
  ⟨a, tv, pv, e, k.tups hL _ _ h1, h2.mono (k.tups hL), h3.keep k⟩
theorem PathN.path {L : List Addr} {H : Hp} {v : V} {p : List Int} (h : PathN L H v p) : PathV H v p := let ⟨l, e, _, q⟩ := h; ⟨l, e, q⟩
end NC
/-! ### pairs of a part and a number in the heap -/
namespace NC
open PySem PySem.Spec PyProof.Rows L2
inductive PairAtI (H : Hp) (v : V) (q : Tm × Nat) : Prop where
  | mk (a : _) (tv : _) (c1 : v = .ref a) (c2 : H a = some (.tup [tv, .int (q.2 : Int)])) (c3 : TermAt H tv q.1)
def PairAt (H : Hp) (v : V) (q : Tm × Nat) : Prop := PairAtI H v q
theorem PairAt.mono {H H' : Hp} {v : V} {q : Tm × Nat} (h : PairAt H v q) (k : Tups H H') : PairAt H' v q := let ⟨a, tv, e, h1, h2⟩ := h; ⟨a, tv, e, k _ _ h1, h2.mono k⟩
/-- lists and tuples stay -/
def LT (H H' : Hp) : Prop := (∀ b xs, H b = some (.lst xs) → H' b = some (.lst xs)) ∧ Tups H H'
theorem LT.refl (H : Hp) : LT H H := ⟨fun _ _ h => h, fun _ _ h => h⟩
theorem LT.trans {H H1 H2 : Hp} (a : LT H H1) (b : LT H1 H2) : LT H H2 := ⟨fun x xs h => b.1 _ _ (a.1 _ _ h), fun x xs h => b.2 _ _ (a.2 _ _ h)⟩
theorem LT.of {H H' : Hp} (s : Same H H') : LT H H' := ⟨fun b xs h => s _ _ h, fun b xs h => s _ _ h⟩
end NC
/-! ### terms as data; parts of the script -/
namespace NC
open PySem PySem.Spec PyProof.Rows L2
theorem TermAt.ref {H : Hp} {v : V} {t : Tm} (h : TermAt H v t) : ∃ a, v = .ref a := let ⟨a, _, _, e, _⟩ := h.tup; ⟨a, e⟩
theorem sql_same {K : PySem.W.Frag} {H H' : Hp} {a : Addr} {xs : List V} (h : SqL K H a xs) (s : Same H H') : SqL K H' a xs := by
  rcases h with (h | ⟨o, h⟩) | h
  · exact .inl (.inl (s _ _ h))
  · exact .inl (.inr ⟨o, s _ _ h⟩)
  · exact .inr h
/-- a part of a list of ints -/
theorem cut_ints (ns : List Int) (lo hi : Option Int) : ∃ ms : List Int, cutV (ns.map V.int) lo hi = ms.map V.int ∧ ms.length ≤ ns.length := by
  refine ⟨(ns.drop (HT.sIx (ns.map V.int).length 0 lo)).take (HT.sIx (ns.map V.int).length (ns.map V.int).length hi - HT.sIx (ns.map V.int).length 0 lo), ?_, ?_⟩
  · unfold cutV
    rw [List.map_take, List.map_drop]
  · rw [List.length_take, List.length_drop]
    omega
theorem cut_at {H : Hp} {p : Addr} {ns : List Int} {lo hi : Option Int} (h : H p = some (.lst (cutV (ns.map V.int) lo hi))) : ∃ ms : List Int, H p = some (.lst (ms.map V.int)) ∧ ms.length ≤ ns.length := by
  obtain ⟨ms, e, hl⟩ := cut_ints ns lo hi
  rw [e] at h
  exact ⟨ms, h, hl⟩
theorem cut_atB {H : Hp} {p : Addr} {ns : List Int} (lo hi : Nat) (h : H p = some (.lst (cutV (ns.map V.int) (some (lo : Int)) (some (hi : Int))))) : ∃ ms : List Int, H p = some (.lst (ms.map V.int)) ∧ ms.length ≤ hi - lo := by
  refine ⟨(ns.drop (HT.sIx (ns.map V.int).length 0 (some (lo : Int)))).take (HT.sIx (ns.map V.int).length (ns.map V.int).length (some (hi : Int)) - HT.sIx (ns.map V.int).length 0 (some (lo : Int))), ?_, ?_⟩
  · rw [h]
    unfold cutV
    rw [List.map_take, List.map_drop]
  · rw [List.length_take, HT.sIx_nat, HT.sIx_nat]
    omega
end NC
/-! ### named terms, their lines, and what is begun while a line is read -/
namespace NC
open PySem
inductive NT where
  | name (w : Str)
  | form (w : Str) (b : NT)
  | call (a b : NT)
def NT.size : NT → Nat
  | .name _ => 1
  | .form _ b => b.size + 1
  | .call a b => a.size + b.size + 1
def NT.deep : NT → Nat
  | .name _ => 1
  | .form _ b => b.deep + 1
  | .call a b => max a.deep b.deep + 1
theorem NT.deep_le : ∀ t : NT, t.deep ≤ t.size
  | .name _ => Nat.le_refl _
  | .form _ b => Nat.succ_le_succ b.deep_le
  | .call a b => by
    have h1 := a.deep_le
    have h2 := b.deep_le
    simp only [NT.deep, NT.size]
    omega
theorem NT.size_pos : ∀ t : NT, 1 ≤ t.size
  | .name _ => Nat.le_refl _
  | .form _ b => by simp only [NT.size]; omega
  | .call a b => by simp only [NT.size]; omega
/-- a word of letters -/
def Wd (w : Str) : Prop := w.cps.toList ≠ [] ∧ w.cps.toList.length ≤ 100 ∧ ∀ c ∈ w.cps.toList, 97 ≤ c ∧ c ≤ 122
def NT.ok : NT → Prop
  | .name w => Wd w
  | .form w b => Wd w ∧ b.ok
  | .call a b => a.ok ∧ b.ok
def NT.line : NT → List Nat
  | .name w => w.cps.toList
  | .form w b => w.cps.toList ++ 58 :: b.line
  | .call a b => 40 :: (a.line ++ 32 :: (b.line ++ [41]))
theorem NT.line_len : ∀ t : NT, t.ok → t.line.length ≤ 103 * t.size
  | .name w, h => by
    have := h.2.1
    simp only [NT.line, NT.size]
    omega
  | .form w b, h => by
    have h1 := h.1.2.1
    have h2 := b.line_len h.2
    simp only [NT.line, NT.size, List.length_append, List.length_cons]
    omega
  | .call a b, h => by
    have h1 := a.line_len h.1
    have h2 := b.line_len h.2
    simp only [NT.line, NT.size, List.length_append, List.length_cons, List.length_nil]
    omega
/-- what is begun: a form, a call whose one is read, a call whose other is read -/
inductive Bg where
  | form (w : Str)
  | one (b : NT)
  | two (a : NT)
/-- what is still to come behind the term that is read now, the innermost first -/
def rem : List Bg → List Nat
  | [] => []
  | .form _ :: S => rem S
  | .one b :: S => 32 :: (b.line ++ 41 :: rem S)
  | .two _ :: S => 41 :: rem S
def plug : NT → List Bg → NT
  | t, [] => t
  | t, .form w :: S => plug (.form w t) S
  | t, .one b :: S => plug (.call t b) S
  | t, .two a :: S => plug (.call a t) S
def Bg.ok : Bg → Prop
  | .form w => Wd w
  | .one b => b.ok
  | .two a => a.ok
/-- behind a term there is no letter and no colon -/
theorem rem_head : ∀ (S : List Bg) (c : Nat), (rem S)[0]? = some c → c = 32 ∨ c = 41
  | [], c, h => by simp [rem] at h
  | .form _ :: S, c, h => rem_head S c h
  | .one b :: S, c, h => by
    simp only [rem, List.getElem?_cons_zero, Option.some.injEq] at h
    exact .inl h.symm
  | .two _ :: S, c, h => by
    simp only [rem, List.getElem?_cons_zero, Option.some.injEq] at h
    exact .inr h.symm
end NC
/-! ### the words and piles of a law's named terms -/
namespace NC
open PySem
/-- the word with that number -/
def goW (m : Nat) (w : Str) : Str := if h : m = 0 then w else goW ((m - 1) / 26) (⟨#[97 + (m - 1) % 26]⟩ ++ w)
termination_by m
decreasing_by omega
theorem goW_zero (w : Str) : goW 0 w = w := by rw [goW, dif_pos rfl]
theorem goW_pos {m : Nat} (h : m ≠ 0) (w : Str) : goW m w = goW ((m - 1) / 26) (⟨#[97 + (m - 1) % 26]⟩ ++ w) := by
  conv => lhs; rw [goW, dif_neg h]
def anyW (c : Int) : Str := goW (((if c < 0 then -c else c) % (10 : Int) ^ ((39 : Int).toNat)).toNat + 1) (Str.ofString "")
def letterS (c : Int) : Str := ⟨#[97 + (c % 26).toNat]⟩
def menuS (l : Str) (k : Int) : Str := ([Str.ofString "sab", Str.ofString "tab", Str.ofString "sat", Str.ofString "sob", l][(k % 5).toNat]?).getD l
def wordAt (ns : List Int) (j : Nat) : Str :=
  if ns.getD j 0 % 11 = 7 then anyW (ns.getD j 0 / 11) else menuS (letterS (ns.getD ((j + 1) % ns.length) 0)) (ns.getD j 0 / 5)
/-- one cell more, the top of the pile first -/
def stepN (S : List NT) (way : Int) (w : Str) : List NT :=
  match S with
  | [] => [.name w]
  | [t] => if way = 2 ∨ way = 3 then [.form w t] else [.name w, t]
  | b :: a :: r => if way = 2 ∨ way = 3 then .form w b :: a :: r else if way = 4 then .call a b :: r else .name w :: b :: a :: r
def pileN (ns : List Int) : Nat → List NT
  | 0 => []
  | j + 1 => stepN (pileN ns j) (ns.getD j 0 % 5) (wordAt ns j)
/-- what is left called one by the other -/
def closeN : List NT → NT
  | [] => .name (Str.ofString "sab")
  | b :: r => r.foldl (fun acc a => .call a acc) b
def wordyT (ns : List Int) : NT := closeN (pileN ns ns.length)
theorem stepN_form {t : NT} {r : List NT} {way : Int} {w : Str} (h : way = 2 ∨ way = 3) : stepN (t :: r) way w = .form w t :: r := by
  cases r with
  | nil => show (if way = 2 ∨ way = 3 then _ else _) = _; rw [if_pos h]
  | cons a r => show (if way = 2 ∨ way = 3 then _ else _) = _; rw [if_pos h]
theorem stepN_call {a b : NT} {r : List NT} {way : Int} {w : Str} (h : way = 4) : stepN (b :: a :: r) way w = .call a b :: r := by
  show (if way = 2 ∨ way = 3 then _ else if way = 4 then _ else _) = _
  rw [if_neg (by omega), if_pos h]
theorem stepN_name {S : List NT} {way : Int} {w : Str} (h1 : (way = 2 ∨ way = 3) → S = []) (h2 : way = 4 → S.length ≤ 1) : stepN S way w = .name w :: S := by
  cases S with
  | nil => rfl
  | cons b r =>
    have n1 : ¬ (way = 2 ∨ way = 3) := fun z => by cases h1 z
    cases r with
    | nil => show (if way = 2 ∨ way = 3 then _ else _) = _; rw [if_neg n1]
    | cons a r =>
      show (if way = 2 ∨ way = 3 then _ else if way = 4 then _ else _) = _
      rw [if_neg n1, if_neg fun z => by have := h2 z; simp at this]
theorem closeN_call (a b : NT) (r : List NT) : closeN (b :: a :: r) = closeN (.call a b :: r) := rfl
def sizesN (S : List NT) : Nat := (S.map NT.size).sum
theorem wd_any {w : Str} (c : Nat) (h1 : 97 ≤ c) (h2 : c ≤ 122) (hw : ∀ c ∈ w.cps.toList, 97 ≤ c ∧ c ≤ 122) : ∀ z ∈ ((⟨#[c]⟩ : Str) ++ w).cps.toList, 97 ≤ z ∧ z ≤ 122 := fun z hz => by
  have e : ((⟨#[c]⟩ : Str) ++ w).cps.toList = c :: w.cps.toList := by
    show (#[c] ++ w.cps).toList = _
    simp
  rw [e] at hz
  rcases List.mem_cons.mp hz with rfl | hz
  · exact ⟨h1, h2⟩
  · exact hw z hz
theorem wd_sab : Wd (Str.ofString "sab") := by
  have e : (Str.ofString "sab").cps.toList = [115, 97, 98] := by decide +kernel
  unfold Wd
  rw [e]
  decide
theorem wd_menu {l : Str} (h : Wd l) (k : Int) : Wd (menuS l k) := by
  have all : ∀ w ∈ [Str.ofString "sab", Str.ofString "tab", Str.ofString "sat", Str.ofString "sob", l], Wd w := by
    intro w hw
    have e2 : (Str.ofString "tab").cps.toList = [116, 97, 98] := by decide +kernel
    have e3 : (Str.ofString "sat").cps.toList = [115, 97, 116] := by decide +kernel
    have e4 : (Str.ofString "sob").cps.toList = [115, 111, 98] := by decide +kernel
    simp only [List.mem_cons, List.not_mem_nil, or_false] at hw
    rcases hw with rfl | rfl | rfl | rfl | rfl
    · exact wd_sab
    · unfold Wd; rw [e2]; decide
    · unfold Wd; rw [e3]; decide
    · unfold Wd; rw [e4]; decide
    · exact h
  unfold menuS
  cases q : [Str.ofString "sab", Str.ofString "tab", Str.ofString "sat", Str.ofString "sob", l][(k % 5).toNat]? with
  | none => exact h
  | some w => exact all w (List.mem_of_getElem? q)
theorem wd_letter (c : Int) : Wd (letterS c) := by
  refine ⟨by simp [letterS], by simp [letterS], fun z hz => ?_⟩
  have e : (letterS c).cps.toList = [97 + (c % 26).toNat] := rfl
  rw [e] at hz
  rw [List.mem_singleton.mp hz]
  omega
theorem goW_wd : ∀ (m : Nat) (w : Str), (∀ z ∈ w.cps.toList, 97 ≤ z ∧ z ≤ 122) → (1 ≤ w.cps.toList.length ∨ 1 ≤ m) → 26 ^ w.cps.toList.length * m ≤ 10 ^ 39 → w.cps.toList.length ≤ 50 → Wd (goW m w) := by
  intro m
  induction m using Nat.strongRecOn with
  | _ m ih =>
    intro w h1 h2 h3 h4
    by_cases hm : m = 0
    · subst hm
      rw [goW_zero]
      refine ⟨fun z => ?_, by omega, h1⟩
      rw [z] at h2
      simp at h2
    · rw [goW_pos hm]
      have e : ((⟨#[97 + (m - 1) % 26]⟩ : Str) ++ w).cps.toList = (97 + (m - 1) % 26) :: w.cps.toList := by
        show (#[97 + (m - 1) % 26] ++ w.cps).toList = _
        simp
      have hb : w.cps.toList.length ≤ 28 := by
        refine Nat.le_of_not_lt fun z => ?_
        have g1 : 26 ^ 28 ≤ 26 ^ w.cps.toList.length := Nat.pow_le_pow_right (by decide) (by omega)
        have g2 : 26 ^ w.cps.toList.length * 1 ≤ 26 ^ w.cps.toList.length * m := Nat.mul_le_mul_left _ (by omega)
        have g3 : ¬ (26 ^ 28 ≤ 10 ^ 39) := by decide +kernel
        omega
      refine ih ((m - 1) / 26) (by omega) _ (wd_any _ (by omega) (by omega) h1) ?_ ?_ ?_
      · rw [e]; left; simp
      · rw [e, List.length_cons]
        have g1 : 26 ^ (w.cps.toList.length + 1) * ((m - 1) / 26) = 26 ^ w.cps.toList.length * (26 * ((m - 1) / 26)) := by rw [Nat.pow_succ, Nat.mul_assoc]
        rw [g1]
        exact Nat.le_trans (Nat.mul_le_mul_left _ (by omega)) h3
      · rw [e, List.length_cons]; omega
theorem wd_anyW (c : Int) : Wd (anyW c) := by
  have e : (Str.ofString "").cps.toList = [] := by decide +kernel
  have hM1 : (if c < 0 then -c else c) % (10 : Int) ^ ((39 : Int).toNat) < 10 ^ 39 := Int.emod_lt_of_pos _ (by decide +kernel)
  refine goW_wd _ _ (by rw [e]; intro z hz; cases hz) (.inr (by omega)) ?_ (by rw [e]; decide)
  rw [e]
  show 1 * _ ≤ _
  omega
theorem wd_wordAt (ns : List Int) (j : Nat) : Wd (wordAt ns j) := by
  unfold wordAt
  split
  · exact wd_anyW _
  · exact wd_menu (wd_letter _) _
theorem stepN_ok {S : List NT} {way : Int} {w : Str} (h : ∀ t ∈ S, t.ok) (hw : Wd w) : ∀ t ∈ stepN S way w, t.ok := by
  intro t ht
  match S, h, ht with
  | [], _, ht =>
    rw [List.mem_singleton.mp ht]
    exact hw
  | [x], h, ht =>
    change t ∈ (if way = 2 ∨ way = 3 then [NT.form w x] else [NT.name w, x]) at ht
    split at ht
    · rw [List.mem_singleton.mp ht]
      exact ⟨hw, h x (by simp)⟩
    · rcases List.mem_cons.mp ht with rfl | ht
      · exact hw
      · exact h t ht
  | b :: a :: r, h, ht =>
    change t ∈ (if way = 2 ∨ way = 3 then NT.form w b :: a :: r else if way = 4 then NT.call a b :: r else NT.name w :: b :: a :: r) at ht
    split at ht
    · rcases List.mem_cons.mp ht with rfl | ht
      · exact ⟨hw, h b (by simp)⟩
      · exact h t (List.mem_cons_of_mem _ ht)
    · split at ht
      · rcases List.mem_cons.mp ht with rfl | ht
        · exact ⟨h a (by simp), h b (by simp)⟩
        · exact h t (List.mem_cons_of_mem _ (List.mem_cons_of_mem _ ht))
      · rcases List.mem_cons.mp ht with rfl | ht
        · exact hw
        · exact h t ht
theorem stepN_size (S : List NT) (way : Int) (w : Str) : sizesN (stepN S way w) ≤ sizesN S + 1 := by
  match S with
  | [] => exact Nat.le_refl _
  | [x] =>
    show sizesN (if way = 2 ∨ way = 3 then [NT.form w x] else [NT.name w, x]) ≤ _
    split <;> simp only [sizesN, List.map_cons, List.map_nil, List.sum_cons, List.sum_nil, NT.size] <;> omega
  | b :: a :: r =>
    show sizesN (if way = 2 ∨ way = 3 then NT.form w b :: a :: r else if way = 4 then NT.call a b :: r else NT.name w :: b :: a :: r) ≤ _
    split
    · simp only [sizesN, List.map_cons, List.sum_cons, NT.size]; omega
    · split <;> simp only [sizesN, List.map_cons, List.sum_cons, NT.size] <;> omega
theorem pile_ok (ns : List Int) : ∀ j, ∀ t ∈ pileN ns j, t.ok
  | 0, t, h => by cases h
  | j + 1, t, h => stepN_ok (pile_ok ns j) (wd_wordAt ns j) t h
theorem pile_size (ns : List Int) : ∀ j, sizesN (pileN ns j) ≤ j
  | 0 => Nat.le_refl _
  | j + 1 => Nat.le_trans (stepN_size _ _ _) (Nat.succ_le_succ (pile_size ns j))
theorem len_sizesN : ∀ S : List NT, S.length ≤ sizesN S
  | [] => Nat.le_refl _
  | t :: r => by
    have h1 := len_sizesN r
    have h2 := t.size_pos
    show r.length + 1 ≤ t.size + sizesN r
    omega
theorem closeN_ok : ∀ (n : Nat) (S : List NT), S.length = n → (∀ t ∈ S, t.ok) → (closeN S).ok
  | _, [], _, _ => wd_sab
  | _, [t], _, h => h t (by simp)
  | n + 1, b :: a :: r, hn, h => by
    rw [closeN_call]
    refine closeN_ok n (.call a b :: r) (by simp at hn ⊢; omega) fun t ht => ?_
    rcases List.mem_cons.mp ht with rfl | ht
    · exact ⟨h a (by simp), h b (by simp)⟩
    · exact h t (List.mem_cons_of_mem _ (List.mem_cons_of_mem _ ht))
theorem closeN_size : ∀ (n : Nat) (S : List NT), S.length = n → (closeN S).size ≤ sizesN S + S.length + 1
  | _, [], _ => by show 1 ≤ _; omega
  | _, [t], _ => by show t.size ≤ t.size + 0 + 1 + 1; omega
  | n + 1, b :: a :: r, hn => by
    rw [closeN_call]
    have := closeN_size n (.call a b :: r) (by simp at hn ⊢; omega)
    simp only [sizesN, List.map_cons, List.sum_cons, NT.size, List.length_cons] at this ⊢
    omega
theorem wordyT_ok (ns : List Int) : (wordyT ns).ok := closeN_ok _ _ rfl (pile_ok ns _)
theorem wordyT_size (ns : List Int) : (wordyT ns).size ≤ 2 * ns.length + 1 := by
  have h1 := closeN_size _ (pileN ns ns.length) rfl
  have h2 := pile_size ns ns.length
  have h3 := len_sizesN (pileN ns ns.length)
  unfold wordyT
  omega
end NC
/-! ### named terms told by numbers -/
namespace NC
open PySem
/-- the parts with the words round them, the innermost word first -/
def NT.parts : NT → List Str → List (NT × List Str)
  | .name w, ws => [(.name w, ws)]
  | .form w b, ws => (.form w b, ws) :: b.parts (w :: ws)
  | .call a b, ws => (.call a b, ws) :: (a.parts ws ++ b.parts ws)
section
variable {g : Str → List Str → T Str}
end
/-- a word by its number among the words round it, the innermost 0 -/
def numAt (w : Str) : List Str → Nat → T Str
  | [], _ => .name w
  | u :: ws, n => if u = w then .place n else numAt w ws (n + 1)
end NC
/-! ### texts in order, parts in another order, exchanging: facts on data -/
namespace NC
open PySem PySem.Spec PyProof.Rows
end NC
/-! ### words that no name has, terms told by words -/
namespace NC
open PySem
/-! #### told by words -/
def T.nm (ws : List Str) : T Str → Nat → NT
  | .name w, _ => .name w
  | .place i, k => .name (ws.getD (k - 1 - i) ⟨#[]⟩)
  | .form b, k => .form (ws.getD k ⟨#[]⟩) (b.nm ws (k + 1))
  | .call a b, k => .call (a.nm ws k) (b.nm ws k)
def T.has (w : Str) : T Str → Prop
  | .name u => u = w
  | .place _ => False
  | .form b => b.has w
  | .call a b => a.has w ∨ b.has w
/-! #### what is told by numbers has no outer places -/
/-! #### and what is put in -/
/-! #### over the parts -/
end NC
/-! ### lines and marks -/
namespace NC
open PySem
/-- p replaced by b from the left -/
def replS (p b : List Nat) : Nat → List Nat → List Nat
  | _, [] => []
  | k + 1, _ :: l => replS p b k l
  | 0, x :: l => if p.isPrefixOf (x :: l) = true then b ++ replS p b (p.length - 1) l else x :: replS p b 0 l
def repl (p b l : List Nat) : List Nat := replS p b 0 l
theorem replS_skip (p b : List Nat) : ∀ (u l : List Nat), replS p b u.length (u ++ l) = replS p b 0 l
  | [], _ => rfl
  | _ :: u, l => replS_skip p b u l
theorem repl_hit {x : Nat} {p b l : List Nat} : repl (x :: p) b (x :: p ++ l) = b ++ repl (x :: p) b l := by
  show (if (x :: p).isPrefixOf (x :: (p ++ l)) = true then b ++ replS (x :: p) b p.length (p ++ l) else _) = _
  rw [if_pos (by simp [List.isPrefixOf]), replS_skip]
  rfl
theorem repl_miss {x : Nat} {p b l : List Nat} (h : p.isPrefixOf (x :: l) = false) : repl p b (x :: l) = x :: repl p b l := by
  show (if p.isPrefixOf (x :: l) = true then _ else _) = _
  rw [h, if_neg Bool.false_ne_true]
  rfl
/-- either a hit at the front, or the sign stays -/
theorem repl_or (x : Nat) (p b : List Nat) (y : Nat) (l : List Nat) : (∃ l', y :: l = x :: p ++ l' ∧ repl (x :: p) b (y :: l) = b ++ repl (x :: p) b l') ∨ repl (x :: p) b (y :: l) = y :: repl (x :: p) b l := by
  cases h : (x :: p).isPrefixOf (y :: l) with
  | true =>
    obtain ⟨l', e⟩ := List.isPrefixOf_iff_prefix.mp h
    exact .inl ⟨l', e.symm, by rw [← e, repl_hit]⟩
  | false => exact .inr (repl_miss h)
theorem repl_nil (p b : List Nat) : repl p b [] = [] := rfl
theorem replS_len {x : Nat} {p b : List Nat} (hb : b.length ≤ (x :: p).length) : ∀ (l : List Nat) (k : Nat), (replS (x :: p) b k l).length + min k l.length ≤ l.length
  | [], k => by simp [replS]
  | y :: l, k + 1 => by
    have := replS_len hb l k
    show (replS (x :: p) b k l).length + min (k + 1) (l.length + 1) ≤ l.length + 1
    omega
  | y :: l, 0 => by
    show (if (x :: p).isPrefixOf (y :: l) = true then b ++ replS (x :: p) b ((x :: p).length - 1) l else y :: replS (x :: p) b 0 l).length + min 0 (l.length + 1) ≤ l.length + 1
    split
    · rename_i h
      have hp := (List.isPrefixOf_iff_prefix.mp h).length_le
      have ih := replS_len hb l ((x :: p).length - 1)
      rw [List.length_append]
      rw [List.length_cons] at hp hb ih
      rw [List.length_cons] at hp ⊢
      omega
    · have ih := replS_len hb l 0
      rw [List.length_cons]
      omega
theorem repl_len {x : Nat} {p b : List Nat} (l : List Nat) (hb : b.length ≤ (x :: p).length) : (repl (x :: p) b l).length ≤ l.length := by
  have := replS_len hb l 0
  unfold repl
  omega
/-! #### skeletons -/
inductive Sk where
  | t
  | f (s : Sk)
  | c (a b : Sk)
def Sk.str : Sk → List Nat
  | .t => [84]
  | .f s => 70 :: s.str
  | .c a b => 40 :: (a.str ++ 32 :: (b.str ++ [41]))
def Sk.size : Sk → Nat
  | .t => 1
  | .f s => s.size + 1
  | .c a b => a.size + b.size + 1
def pFT : List Nat := [70, 84]
def pCTT : List Nat := [40, 84, 32, 84, 41]
def pTC : List Nat := [84, 58]
def Sk.p1 : Sk → Sk
  | .t => .t
  | .f .t => .t
  | .f s => .f s.p1
  | .c a b => .c a.p1 b.p1
def Sk.p2 : Sk → Sk
  | .t => .t
  | .f s => .f s.p2
  | .c .t .t => .t
  | .c a b => .c a.p2 b.p2
theorem str_head (s : Sk) : s = .t ∨ ∃ x r, s.str = x :: r ∧ x ≠ 84 := by
  cases s with
  | t => exact .inl rfl
  | f s => exact .inr ⟨70, _, rfl, by decide⟩
  | c a b => exact .inr ⟨40, _, rfl, by decide⟩
theorem pre_ne {x y : Nat} {p l : List Nat} (h : x ≠ y) : (x :: p).isPrefixOf (y :: l) = false := by
  show ((x == y) && _) = false
  rw [beq_false_of_ne h]
  rfl
theorem missFT {y : Nat} {l : List Nat} (h : y ≠ 70) : repl pFT [84] (y :: l) = y :: repl pFT [84] l := repl_miss (pre_ne (Ne.symm h))
theorem missCTT {y : Nat} {l : List Nat} (h : y ≠ 40) : repl pCTT [84] (y :: l) = y :: repl pCTT [84] l := repl_miss (pre_ne (Ne.symm h))
theorem rFT_str : ∀ (s : Sk) (r : List Nat), repl pFT [84] (s.str ++ r) = s.p1.str ++ repl pFT [84] r
  | .t, r => repl_miss (pre_ne (by decide))
  | .f .t, r => repl_hit (x := 70) (p := [84])
  | .f (.f s), r => by
    show repl pFT [84] (70 :: (70 :: (s.str ++ r))) = _
    rw [repl_miss (by show ((70 == 70) && ((84 == 70) && _)) = false; rfl)]
    show 70 :: repl pFT [84] ((Sk.f s).str ++ r) = 70 :: (((Sk.f s).p1).str ++ _)
    rw [rFT_str (.f s)]
  | .f (.c a b), r => by
    show repl pFT [84] (70 :: ((Sk.c a b).str ++ r)) = _
    rw [repl_miss (by show ((70 == 70) && ((84 == 40) && _)) = false; rfl)]
    show 70 :: repl pFT [84] ((Sk.c a b).str ++ r) = 70 :: (((Sk.c a b).p1).str ++ _)
    rw [rFT_str (.c a b)]
  | .c a b, r => by
    have e : (Sk.c a b).str ++ r = 40 :: (a.str ++ (32 :: (b.str ++ (41 :: r)))) := by
      show (40 :: (a.str ++ 32 :: (b.str ++ [41]))) ++ r = _
      simp
    rw [e, missFT (by decide), rFT_str a, missFT (by decide), rFT_str b, missFT (by decide)]
    show _ = (40 :: (a.p1.str ++ 32 :: (b.p1.str ++ [41]))) ++ _
    simp
theorem c_str (a b : Sk) (r : List Nat) : (Sk.c a b).str ++ r = 40 :: (a.str ++ (32 :: (b.str ++ (41 :: r)))) := by
  show (40 :: (a.str ++ 32 :: (b.str ++ [41]))) ++ r = _
  simp
theorem rCTT_str : ∀ (s : Sk) (r : List Nat), repl pCTT [84] (s.str ++ r) = s.p2.str ++ repl pCTT [84] r
  | .t, r => repl_miss (pre_ne (by decide))
  | .f s, r => by
    show repl pCTT [84] (70 :: (s.str ++ r)) = _
    rw [missCTT (by decide), rCTT_str s]
    rfl
  | .c a b, r => by
    by_cases h : a = .t ∧ b = .t
    · obtain ⟨rfl, rfl⟩ := h
      exact repl_hit (x := 40) (p := [84, 32, 84, 41])
    · have hm : pCTT.isPrefixOf ((Sk.c a b).str ++ r) = false := by
        rw [c_str]
        rcases str_head a with rfl | ⟨x, u, e, hx⟩
        · rcases str_head b with rfl | ⟨x, u, e, hx⟩
          · exact absurd ⟨rfl, rfl⟩ h
          · rw [e]
            show ((40 == 40) && ((84 == 84) && ((32 == 32) && ((84 == x) && _)))) = false
            rw [beq_false_of_ne (Ne.symm hx)]
            rfl
        · rw [e]
          show ((40 == 40) && ((84 == x) && _)) = false
          rw [beq_false_of_ne (Ne.symm hx)]
          rfl
      have ep : (Sk.c a b).p2 = .c a.p2 b.p2 := by
        match a, b, h with
        | .t, .t, h => exact absurd ⟨rfl, rfl⟩ h
        | .t, .f _, _ => rfl
        | .t, .c _ _, _ => rfl
        | .f _, _, _ => rfl
        | .c _ _, _, _ => rfl
      rw [c_str] at hm ⊢
      rw [repl_miss hm, rCTT_str a, missCTT (by decide), rCTT_str b, missCTT (by decide), ep, c_str]
theorem p1_le : ∀ s : Sk, s.p1.size ≤ s.size
  | .t => Nat.le_refl _
  | .f .t => by decide
  | .f (.f s) => by have := p1_le (.f s); show ((Sk.f s).p1).size + 1 ≤ _; simp only [Sk.size] at this ⊢; omega
  | .f (.c a b) => by have := p1_le (.c a b); show ((Sk.c a b).p1).size + 1 ≤ _; simp only [Sk.size] at this ⊢; omega
  | .c a b => by have h1 := p1_le a; have h2 := p1_le b; show a.p1.size + b.p1.size + 1 ≤ a.size + b.size + 1; omega
theorem p2_le : ∀ s : Sk, s.p2.size ≤ s.size
  | .t => Nat.le_refl _
  | .f s => by have := p2_le s; show s.p2.size + 1 ≤ s.size + 1; omega
  | .c .t .t => by decide
  | .c .t (.f s) => by have := p2_le (.f s); show 1 + ((Sk.f s).p2).size + 1 ≤ 1 + (Sk.f s).size + 1; omega
  | .c .t (.c a b) => by have := p2_le (.c a b); show 1 + ((Sk.c a b).p2).size + 1 ≤ 1 + (Sk.c a b).size + 1; omega
  | .c (.f s) b => by have h1 := p2_le (.f s); have h2 := p2_le b; show ((Sk.f s).p2).size + b.p2.size + 1 ≤ (Sk.f s).size + b.size + 1; omega
  | .c (.c x y) b => by have h1 := p2_le (.c x y); have h2 := p2_le b; show ((Sk.c x y).p2).size + b.p2.size + 1 ≤ (Sk.c x y).size + b.size + 1; omega
def Sk.round (s : Sk) : Sk := s.p1.p2
theorem round_lt : ∀ s : Sk, s ≠ .t → s.round.size < s.size
  | .t, h => absurd rfl h
  | .f .t, _ => by decide
  | .f (.f s), _ => by
    have h := round_lt (.f s) (fun z => by cases z)
    show (Sk.f ((Sk.f s).p1)).p2.size < _
    show ((Sk.f s).p1).p2.size + 1 < (Sk.f s).size + 1
    exact Nat.succ_lt_succ h
  | .f (.c a b), _ => by
    have h := round_lt (.c a b) (fun z => by cases z)
    show ((Sk.c a b).p1).p2.size + 1 < (Sk.c a b).size + 1
    exact Nat.succ_lt_succ h
  | .c a b, _ => by
    have hb : ∀ x : Sk, x.round.size ≤ x.size := fun x => Nat.le_trans (p2_le _) (p1_le _)
    show ((Sk.c a.p1 b.p1).p2).size < a.size + b.size + 1
    by_cases h : a.p1 = .t ∧ b.p1 = .t
    · rw [h.1, h.2]
      have h1 : 1 ≤ a.size := by cases a <;> simp only [Sk.size] <;> omega
      have h2 : 1 ≤ b.size := by cases b <;> simp only [Sk.size] <;> omega
      show 1 < _
      omega
    · have ep : (Sk.c a.p1 b.p1).p2 = .c a.p1.p2 b.p1.p2 := by
        generalize a.p1 = x at h
        generalize b.p1 = y at h
        match x, y, h with
        | .t, .t, h => exact absurd ⟨rfl, rfl⟩ h
        | .t, .f _, _ => rfl
        | .t, .c _ _, _ => rfl
        | .f _, _, _ => rfl
        | .c _ _, _, _ => rfl
      rw [ep]
      show a.round.size + b.round.size + 1 < a.size + b.size + 1
      have ha := hb a
      have hbb := hb b
      by_cases h1 : a = .t
      · have h2 : b ≠ .t := fun z => h ⟨by rw [h1]; rfl, by rw [z]; rfl⟩
        have := round_lt b h2
        omega
      · have := round_lt a h1
        omega
/-- one round on a text -/
def roundL (l : List Nat) : List Nat := repl pCTT [84] (repl pFT [84] l)
def roundsL : Nat → List Nat → List Nat
  | 0, l => l
  | n + 1, l => roundL (roundsL n l)
theorem round_str (s : Sk) : roundL s.str = s.round.str := by
  have h1 := rFT_str s []
  have h2 := rCTT_str s.p1 []
  simp only [List.append_nil, repl_nil] at h1 h2
  unfold roundL
  rw [h1, h2]
  rfl
def Sk.rounds (s : Sk) : Nat → Sk
  | 0 => s
  | n + 1 => (s.rounds n).round
theorem rounds_str (s : Sk) : ∀ n, roundsL n s.str = (s.rounds n).str
  | 0 => rfl
  | n + 1 => by show roundL (roundsL n s.str) = _; rw [rounds_str s n, round_str]; rfl
theorem rounds_t (s : Sk) : ∀ n, s.rounds n = .t ∨ (s.rounds n).size + n ≤ s.size
  | 0 => .inr (Nat.le_refl _)
  | n + 1 => by
    rcases rounds_t s n with h | h
    · left
      show (s.rounds n).round = _
      rw [h]
      rfl
    · by_cases hz : s.rounds n = .t
      · left
        show (s.rounds n).round = _
        rw [hz]
        rfl
      · right
        have := round_lt _ hz
        show (s.rounds n).round.size + (n + 1) ≤ _
        omega
/-- enough rounds bring a skeleton to its end -/
theorem rounds_end {s : Sk} {n : Nat} (h : s.size ≤ n) : roundsL n s.str = [84] := by
  rw [rounds_str]
  rcases rounds_t s n with e | e
  · rw [e]; rfl
  · have : 1 ≤ (s.rounds n).size := by cases s.rounds n <;> simp only [Sk.size] <;> omega
    omega
/-! #### backwards -/
theorem back_FT : ∀ (s : Sk) (l r : List Nat), repl pFT [84] l = s.str ++ r → ∃ (s' : Sk) (l' : List Nat), l = s'.str ++ l' ∧ repl pFT [84] l' = r := by
  intro s
  induction s with
  | t =>
    intro l r h
    cases l with
    | nil => cases h
    | cons y l =>
      rcases repl_or 70 [84] [84] y l with ⟨l', e, q⟩ | q
      · rw [show repl pFT [84] (y :: l) = _ from q] at h
        exact ⟨.f .t, l', e, by injection h⟩
      · rw [show repl pFT [84] (y :: l) = _ from q] at h
        injection h with h1 h2
        exact ⟨.t, l, by rw [h1]; rfl, h2⟩
  | f s ih =>
    intro l r h
    cases l with
    | nil => cases h
    | cons y l =>
      rcases repl_or 70 [84] [84] y l with ⟨l', e, q⟩ | q
      · rw [show repl pFT [84] (y :: l) = _ from q] at h
        injection h with h1 _
        cases h1
      · rw [show repl pFT [84] (y :: l) = _ from q] at h
        injection h with h1 h2
        obtain ⟨s', l', e, q'⟩ := ih l r h2
        exact ⟨.f s', l', by rw [h1, e]; rfl, q'⟩
  | c a b iha ihb =>
    intro l r h
    rw [c_str] at h
    have stay : ∀ {z : Nat} {l u : List Nat}, z ≠ 84 → repl pFT [84] l = z :: u → ∃ l', l = z :: l' ∧ repl pFT [84] l' = u := fun {z l u} hz h => by
      cases l with
      | nil => cases h
      | cons y l =>
        rcases repl_or 70 [84] [84] y l with ⟨l', e, q⟩ | q
        · rw [show repl pFT [84] (y :: l) = _ from q] at h
          injection h with h1 _
          exact absurd h1.symm hz
        · rw [show repl pFT [84] (y :: l) = _ from q] at h
          injection h with h1 h2
          exact ⟨l, by rw [h1], h2⟩
    obtain ⟨l1, e1, h1⟩ := stay (by decide) h
    obtain ⟨a', l2, e2, h2⟩ := iha l1 _ h1
    obtain ⟨l3, e3, h3⟩ := stay (by decide) h2
    obtain ⟨b', l4, e4, h4⟩ := ihb l3 _ h3
    obtain ⟨l5, e5, h5⟩ := stay (by decide) h4
    exact ⟨.c a' b', l5, by rw [c_str, e1, e2, e3, e4, e5], h5⟩
theorem back_CTT : ∀ (s : Sk) (l r : List Nat), repl pCTT [84] l = s.str ++ r → ∃ (s' : Sk) (l' : List Nat), l = s'.str ++ l' ∧ repl pCTT [84] l' = r := by
  have stay : ∀ {z : Nat} {l u : List Nat}, z ≠ 84 → repl pCTT [84] l = z :: u → ∃ l', l = z :: l' ∧ repl pCTT [84] l' = u := fun {z l u} hz h => by
    cases l with
    | nil => cases h
    | cons y l =>
      rcases repl_or 40 [84, 32, 84, 41] [84] y l with ⟨l', e, q⟩ | q
      · rw [show repl pCTT [84] (y :: l) = _ from q] at h
        injection h with h1 _
        exact absurd h1.symm hz
      · rw [show repl pCTT [84] (y :: l) = _ from q] at h
        injection h with h1 h2
        exact ⟨l, by rw [h1], h2⟩
  intro s
  induction s with
  | t =>
    intro l r h
    cases l with
    | nil => cases h
    | cons y l =>
      rcases repl_or 40 [84, 32, 84, 41] [84] y l with ⟨l', e, q⟩ | q
      · rw [show repl pCTT [84] (y :: l) = _ from q] at h
        exact ⟨.c .t .t, l', e, by injection h⟩
      · rw [show repl pCTT [84] (y :: l) = _ from q] at h
        injection h with h1 h2
        exact ⟨.t, l, by rw [h1]; rfl, h2⟩
  | f s ih =>
    intro l r h
    obtain ⟨l1, e1, h1⟩ := stay (z := 70) (by decide) h
    obtain ⟨s', l', e, q⟩ := ih l1 r h1
    exact ⟨.f s', l', by rw [e1, e]; rfl, q⟩
  | c a b iha ihb =>
    intro l r h
    rw [c_str] at h
    obtain ⟨l1, e1, h1⟩ := stay (by decide) h
    obtain ⟨a', l2, e2, h2⟩ := iha l1 _ h1
    obtain ⟨l3, e3, h3⟩ := stay (by decide) h2
    obtain ⟨b', l4, e4, h4⟩ := ihb l3 _ h3
    obtain ⟨l5, e5, h5⟩ := stay (by decide) h4
    exact ⟨.c a' b', l5, by rw [c_str, e1, e2, e3, e4, e5], h5⟩
theorem repl_empty {x : Nat} {p b l : List Nat} (hb : b ≠ []) (h : repl (x :: p) b l = []) : l = [] := by
  cases l with
  | nil => rfl
  | cons y l =>
    rcases repl_or x p b y l with ⟨l', e, q⟩ | q
    · rw [q] at h
      exact absurd (List.append_eq_nil_iff.mp h).1 hb
    · rw [q] at h
      cases h
theorem back_round {l : List Nat} {s : Sk} (h : roundL l = s.str) : ∃ s', l = Sk.str s' := by
  have h : repl pCTT [84] (repl pFT [84] l) = s.str ++ [] := by rw [List.append_nil]; exact h
  obtain ⟨s1, l1, e1, h1⟩ := back_CTT s _ _ h
  have e1n : l1 = [] := repl_empty (x := 40) (by simp) h1
  rw [e1n] at e1
  obtain ⟨s2, l2, e2, h2⟩ := back_FT s1 l [] e1
  have e2n : l2 = [] := repl_empty (x := 70) (by simp) h2
  exact ⟨s2, by rw [e2, e2n, List.append_nil]⟩
/-- a text that rounds bring to the end is a skeleton -/
theorem back_rounds : ∀ (n : Nat) {l : List Nat} {s : Sk}, roundsL n l = s.str → ∃ s', l = Sk.str s'
  | 0, _, s, h => ⟨s, h⟩
  | n + 1, l, s, h => by
    obtain ⟨s1, h1⟩ := back_round (l := roundsL n l) h
    exact back_rounds n h1
/-! #### the marks of a line -/
abbrev isL (c : Nat) : Prop := 97 ≤ c ∧ c ≤ 122
def mark (c : Nat) : Nat := if c = 40 ∨ c = 41 ∨ c = 58 ∨ c = 32 then c else 33
/-- b: a letter stands ahead -/
def marks : Bool → List Nat → List Nat
  | _, [] => []
  | b, c :: l => if isL c then (if b = true then marks true l else 84 :: marks true l) else mark c :: marks false l
/-- as a law makes them -/
def markStep (acc : List Nat) (c : Nat) : List Nat := if isL c then (if acc.getLast? = some 84 then acc else acc ++ [84]) else acc ++ [mark c]
theorem mark_ne (c : Nat) : mark c ≠ 84 ∧ mark c ≠ 70 := by
  unfold mark
  split
  · omega
  · decide
theorem marks_fold : ∀ (l acc : List Nat), l.foldl markStep acc = acc ++ marks (decide (acc.getLast? = some 84)) l
  | [], acc => by simp [marks]
  | c :: l, acc => by
    rw [List.foldl_cons, marks_fold l]
    unfold markStep
    by_cases hc : isL c
    · rw [if_pos hc]
      by_cases hl : acc.getLast? = some 84
      · rw [if_pos hl]
        show _ = acc ++ (if isL c then (if decide (acc.getLast? = some 84) = true then marks true l else 84 :: marks true l) else _)
        rw [if_pos hc, if_pos (decide_eq_true hl), decide_eq_true hl]
      · rw [if_neg hl]
        show _ = acc ++ (if isL c then (if decide (acc.getLast? = some 84) = true then marks true l else 84 :: marks true l) else _)
        rw [if_pos hc, if_neg (by rw [decide_eq_false hl]; exact Bool.false_ne_true)]
        simp
    · rw [if_neg hc]
      show _ = acc ++ (if isL c then _ else mark c :: marks false l)
      rw [if_neg hc]
      have : decide ((acc ++ [mark c]).getLast? = some 84) = false := decide_eq_false (by simp; exact (mark_ne c).1)
      rw [this]
      simp
def noL (r : List Nat) : Prop := ∀ c, r[0]? = some c → ¬ isL c
theorem marks_noL {r : List Nat} (h : noL r) (b : Bool) : marks b r = marks false r := by
  cases r with
  | nil => cases b <;> rfl
  | cons c r =>
    have hc := h c rfl
    show (if isL c then _ else mark c :: marks false r) = (if isL c then _ else mark c :: marks false r)
    rw [if_neg hc, if_neg hc]
theorem marks_run : ∀ (w r : List Nat), (∀ c ∈ w, isL c) → marks true (w ++ r) = marks true r
  | [], _, _ => rfl
  | c :: w, r, h => by
    show (if isL c then (if true = true then marks true (w ++ r) else _) else _) = _
    rw [if_pos (h c (List.mem_cons_self)), if_pos rfl]
    exact marks_run w r fun x hx => h x (List.mem_cons_of_mem _ hx)
theorem marks_word {w r : List Nat} (hn : w ≠ []) (h : ∀ c ∈ w, isL c) (hr : noL r) : marks false (w ++ r) = 84 :: marks false r := by
  cases w with
  | nil => exact absurd rfl hn
  | cons c w =>
    show (if isL c then (if false = true then _ else 84 :: marks true (w ++ r)) else _) = _
    rw [if_pos (h c List.mem_cons_self), if_neg Bool.false_ne_true, marks_run w r fun x hx => h x (List.mem_cons_of_mem _ hx), marks_noL hr]
theorem marks_sign {c : Nat} {r : List Nat} (b : Bool) (h : c = 40 ∨ c = 41 ∨ c = 58 ∨ c = 32) : marks b (c :: r) = c :: marks false r := by
  show (if isL c then _ else mark c :: marks false r) = _
  rw [if_neg (by intro z; have := z.1; omega)]
  unfold mark
  rw [if_pos h]
def Sk.strN : Sk → List Nat
  | .t => [84]
  | .f s => 84 :: 58 :: s.strN
  | .c a b => 40 :: (a.strN ++ 32 :: (b.strN ++ [41]))
def NT.sk : NT → Sk
  | .name _ => .t
  | .form _ b => .f b.sk
  | .call a b => .c a.sk b.sk
/-- a word of letters, however long -/
abbrev WdL (w : Str) : Prop := w.cps.toList ≠ [] ∧ ∀ c ∈ w.cps.toList, isL c
/-- its words are words, however long -/
def NT.okL : NT → Prop
  | .name w => w.cps.toList ≠ [] ∧ ∀ c ∈ w.cps.toList, isL c
  | .form w b => (w.cps.toList ≠ [] ∧ ∀ c ∈ w.cps.toList, isL c) ∧ b.okL
  | .call a b => a.okL ∧ b.okL
theorem noL_cons {c : Nat} {r : List Nat} (h : ¬ isL c) : noL (c :: r) := fun x e => by
  have : c = x := Option.some.inj e
  rw [← this]
  exact h
theorem marks_line : ∀ (t : NT) (r : List Nat), t.okL → noL r → marks false (t.line ++ r) = t.sk.strN ++ marks false r
  | .name w, r, ok, hr => marks_word ok.1 ok.2 hr
  | .form w b, r, ok, hr => by
    have e : (NT.form w b).line ++ r = w.cps.toList ++ (58 :: (b.line ++ r)) := by
      show (w.cps.toList ++ 58 :: b.line) ++ r = _
      simp
    rw [e, marks_word ok.1.1 ok.1.2 (noL_cons (by intro z; have := z.1; omega)), marks_sign _ (by simp), marks_line b r ok.2 hr]
    rfl
  | .call a b, r, ok, hr => by
    have e : (NT.call a b).line ++ r = 40 :: (a.line ++ (32 :: (b.line ++ (41 :: r)))) := by
      show (40 :: (a.line ++ 32 :: (b.line ++ [41]))) ++ r = _
      simp
    rw [e, marks_sign _ (by simp), marks_line a _ ok.1 (noL_cons (by intro z; have := z.1; omega)), marks_sign _ (by simp), marks_line b _ ok.2 (noL_cons (by intro z; have := z.1; omega)), marks_sign _ (by simp)]
    show _ = (40 :: (a.sk.strN ++ 32 :: (b.sk.strN ++ [41]))) ++ _
    simp
theorem missTC {y : Nat} {l : List Nat} (h : y ≠ 84) : repl pTC [70] (y :: l) = y :: repl pTC [70] l := repl_miss (pre_ne (Ne.symm h))
theorem rTC_str : ∀ (s : Sk) (r : List Nat), r[0]? ≠ some 58 → repl pTC [70] (s.strN ++ r) = s.str ++ repl pTC [70] r
  | .t, r, h => by
    refine repl_miss ?_
    cases r with
    | nil => rfl
    | cons x r =>
      show ((84 == 84) && ((58 == x) && _)) = false
      have hx : (58 == x) = false := beq_false_of_ne fun e => h (by rw [← e]; rfl)
      rw [hx]
      rfl
  | .f s, r, h => by
    show repl pTC [70] (84 :: [58] ++ (s.strN ++ r)) = _
    rw [show repl pTC [70] (84 :: [58] ++ (s.strN ++ r)) = [70] ++ repl pTC [70] (s.strN ++ r) from repl_hit, rTC_str s r h]
    rfl
  | .c a b, r, h => by
    have e : (Sk.c a b).strN ++ r = 40 :: (a.strN ++ (32 :: (b.strN ++ (41 :: r)))) := by
      show (40 :: (a.strN ++ 32 :: (b.strN ++ [41]))) ++ r = _
      simp
    rw [e, missTC (by decide), rTC_str a _ (by simp), missTC (by decide), rTC_str b _ (by simp), missTC (by decide), c_str]
theorem back_TC : ∀ (s : Sk) (l r : List Nat), 70 ∉ l → repl pTC [70] l = s.str ++ r → ∃ l', l = s.strN ++ l' ∧ repl pTC [70] l' = r := by
  have stay : ∀ {z : Nat} {l u : List Nat}, z ≠ 70 → repl pTC [70] l = z :: u → ∃ l', l = z :: l' ∧ repl pTC [70] l' = u := fun {z l u} hz h => by
    cases l with
    | nil => cases h
    | cons y l =>
      rcases repl_or 84 [58] [70] y l with ⟨l', e, q⟩ | q
      · rw [show repl pTC [70] (y :: l) = _ from q] at h
        injection h with h1 _
        exact absurd h1.symm hz
      · rw [show repl pTC [70] (y :: l) = _ from q] at h
        injection h with h1 h2
        exact ⟨l, by rw [h1], h2⟩
  intro s
  induction s with
  | t =>
    intro l r _ h
    obtain ⟨l1, e1, h1⟩ := stay (z := 84) (by decide) h
    exact ⟨l1, e1, h1⟩
  | f s ih =>
    intro l r hn h
    cases l with
    | nil => cases h
    | cons y l =>
      rcases repl_or 84 [58] [70] y l with ⟨l', e, q⟩ | q
      · rw [show repl pTC [70] (y :: l) = _ from q] at h
        injection h with _ h2
        rw [e] at hn
        obtain ⟨l2, e2, h2'⟩ := ih l' r (fun z => hn (by simp [z])) h2
        exact ⟨l2, by rw [e, e2]; rfl, h2'⟩
      · rw [show repl pTC [70] (y :: l) = _ from q] at h
        injection h with h1 _
        exact absurd (by rw [h1]; exact List.mem_cons_self) hn
  | c a b iha ihb =>
    intro l r hn h
    rw [c_str] at h
    obtain ⟨l1, e1, h1⟩ := stay (by decide) h
    have n1 : 70 ∉ l1 := fun z => hn (by rw [e1]; exact List.mem_cons_of_mem _ z)
    obtain ⟨l2, e2, h2⟩ := iha l1 _ n1 h1
    have n2 : 70 ∉ l2 := fun z => n1 (by rw [e2]; exact List.mem_append_right _ z)
    obtain ⟨l3, e3, h3⟩ := stay (by decide) h2
    have n3 : 70 ∉ l3 := fun z => n2 (by rw [e3]; exact List.mem_cons_of_mem _ z)
    obtain ⟨l4, e4, h4⟩ := ihb l3 _ n3 h3
    obtain ⟨l5, e5, h5⟩ := stay (by decide) h4
    refine ⟨l5, ?_, h5⟩
    rw [e1, e2, e3, e4, e5]
    show _ = (40 :: (a.strN ++ 32 :: (b.strN ++ [41]))) ++ l5
    simp
theorem marks_no70 : ∀ (l : List Nat) (b : Bool), 70 ∉ marks b l
  | [], _ => by simp [marks]
  | c :: l, b => by
    show 70 ∉ (if isL c then (if b = true then marks true l else 84 :: marks true l) else mark c :: marks false l)
    split
    · split
      · exact marks_no70 l true
      · intro z
        rcases List.mem_cons.mp z with z | z
        · cases z
        · exact marks_no70 l true z
    · intro z
      rcases List.mem_cons.mp z with z | z
      · exact (mark_ne c).2 z.symm
      · exact marks_no70 l false z
theorem run_split : ∀ l : List Nat, ∃ w r, l = w ++ r ∧ (∀ c ∈ w, isL c) ∧ noL r
  | [] => ⟨[], [], rfl, (fun _ h => nomatch h), fun _ h => by cases h⟩
  | c :: l => by
    by_cases h : isL c
    · obtain ⟨w, r, e, h1, h2⟩ := run_split l
      refine ⟨c :: w, r, by rw [e]; rfl, fun x hx => ?_, h2⟩
      rcases List.mem_cons.mp hx with rfl | hx
      · exact h
      · exact h1 x hx
    · exact ⟨[], c :: l, rfl, (fun _ h => nomatch h), noL_cons h⟩
theorem marks_inv84 {l u : List Nat} (h : marks false l = 84 :: u) : ∃ w r, w ≠ [] ∧ (∀ c ∈ w, isL c) ∧ noL r ∧ l = w ++ r ∧ marks false r = u := by
  cases l with
  | nil => cases h
  | cons c l =>
    by_cases hc : isL c
    · have h : 84 :: marks true l = 84 :: u := by
        have e : marks false (c :: l) = 84 :: marks true l := by
          show (if isL c then (if false = true then _ else 84 :: marks true l) else _) = _
          rw [if_pos hc, if_neg Bool.false_ne_true]
        rw [← e]; exact h
      obtain ⟨w, r, e, h1, h2⟩ := run_split l
      refine ⟨c :: w, r, by simp, fun x hx => ?_, h2, by rw [e]; rfl, ?_⟩
      · rcases List.mem_cons.mp hx with rfl | hx
        · exact hc
        · exact h1 x hx
      · injection h with _ h
        rw [← h, e, marks_run w r h1, marks_noL h2 true]
    · have e : marks false (c :: l) = mark c :: marks false l := by
        show (if isL c then _ else mark c :: marks false l) = _
        rw [if_neg hc]
      rw [e] at h
      injection h with h1 _
      exact absurd h1 (mark_ne c).1
theorem marks_invS {z : Nat} {l u : List Nat} (hz : z = 40 ∨ z = 41 ∨ z = 58 ∨ z = 32) (h : marks false l = z :: u) : ∃ r, l = z :: r ∧ marks false r = u := by
  cases l with
  | nil => cases h
  | cons c l =>
    by_cases hc : isL c
    · have e : marks false (c :: l) = 84 :: marks true l := by
        show (if isL c then (if false = true then _ else 84 :: marks true l) else _) = _
        rw [if_pos hc, if_neg Bool.false_ne_true]
      rw [e] at h
      injection h with h1 _
      omega
    · have e : marks false (c :: l) = mark c :: marks false l := by
        show (if isL c then _ else mark c :: marks false l) = _
        rw [if_neg hc]
      rw [e] at h
      injection h with h1 h2
      refine ⟨l, ?_, h2⟩
      unfold mark at h1
      split at h1
      · rw [h1]
      · omega
theorem marks_back : ∀ (s : Sk) (l u : List Nat), marks false l = s.strN ++ u → ∃ (t : NT) (r : List Nat), t.okL ∧ t.sk = s ∧ l = t.line ++ r ∧ marks false r = u
  | .t, l, u, h => by
    obtain ⟨w, r, h1, h2, h3, e, h4⟩ := marks_inv84 h
    exact ⟨.name ⟨w.toArray⟩, r, ⟨h1, h2⟩, rfl, e, h4⟩
  | .f s, l, u, h => by
    obtain ⟨w, r, h1, h2, h3, e, h4⟩ := marks_inv84 h
    obtain ⟨r2, e2, h5⟩ := marks_invS (z := 58) (by simp) h4
    obtain ⟨t, r3, h6, h7, e3, h8⟩ := marks_back s r2 u h5
    refine ⟨.form ⟨w.toArray⟩ t, r3, ⟨⟨h1, h2⟩, h6⟩, by show Sk.f t.sk = _; rw [h7], ?_, h8⟩
    rw [e, e2, e3]
    show _ = (w ++ 58 :: t.line) ++ r3
    simp
  | .c a b, l, u, h => by
    have e0 : (Sk.c a b).strN ++ u = 40 :: (a.strN ++ (32 :: (b.strN ++ (41 :: u)))) := by
      show (40 :: (a.strN ++ 32 :: (b.strN ++ [41]))) ++ u = _
      simp
    rw [e0] at h
    obtain ⟨r1, e1, h1⟩ := marks_invS (by simp) h
    obtain ⟨ta, r2, oa, sa, e2, h2⟩ := marks_back a r1 _ h1
    obtain ⟨r3, e3, h3⟩ := marks_invS (by simp) h2
    obtain ⟨tb, r4, ob, sb, e4, h4⟩ := marks_back b r3 _ h3
    obtain ⟨r5, e5, h5⟩ := marks_invS (by simp) h4
    refine ⟨.call ta tb, r5, ⟨oa, ob⟩, by show Sk.c ta.sk tb.sk = _; rw [sa, sb], ?_, h5⟩
    rw [e1, e2, e3, e4, e5]
    show _ = (40 :: (ta.line ++ 32 :: (tb.line ++ [41]))) ++ r5
    simp
theorem sk_len : ∀ t : NT, t.okL → t.sk.size ≤ t.line.length
  | .name w, ok => by
    show 1 ≤ w.cps.toList.length
    exact List.length_pos_iff.mpr ok.1
  | .form w b, ok => by
    have := sk_len b ok.2
    show b.sk.size + 1 ≤ (w.cps.toList ++ 58 :: b.line).length
    rw [List.length_append, List.length_cons]
    omega
  | .call a b, ok => by
    have h1 := sk_len a ok.1
    have h2 := sk_len b ok.2
    show a.sk.size + b.sk.size + 1 ≤ (40 :: (a.line ++ 32 :: (b.line ++ [41]))).length
    simp only [List.length_cons, List.length_append, List.length_nil]
    omega
/-- a line is good by its marks iff it is the line of a named term -/
theorem well_iff (l : List Nat) : roundsL l.length (repl pTC [70] (l.foldl markStep [])) = [84] ↔ ∃ t : NT, t.okL ∧ l = t.line := by
  have e0 : l.foldl markStep [] = marks false l := by rw [marks_fold]; rfl
  rw [e0]
  constructor
  · intro h
    obtain ⟨s, hs⟩ := back_rounds _ (s := .t) h
    have hs : repl pTC [70] (marks false l) = s.str ++ [] := by rw [List.append_nil]; exact hs
    obtain ⟨l', e, h'⟩ := back_TC s _ _ (marks_no70 l false) hs
    have en : l' = [] := repl_empty (x := 84) (by simp) h'
    rw [en] at e
    obtain ⟨t, r, ok, _, e2, h2⟩ := marks_back s l [] e
    refine ⟨t, ok, ?_⟩
    cases r with
    | nil => rw [e2, List.append_nil]
    | cons c r =>
      exfalso
      by_cases hc : isL c
      · have e : marks false (c :: r) = 84 :: marks true r := by
          show (if isL c then (if false = true then _ else 84 :: marks true r) else _) = _
          rw [if_pos hc, if_neg Bool.false_ne_true]
        rw [e] at h2
        cases h2
      · have e : marks false (c :: r) = mark c :: marks false r := by
          show (if isL c then _ else mark c :: marks false r) = _
          rw [if_neg hc]
        rw [e] at h2
        cases h2
  · rintro ⟨t, ok, rfl⟩
    have h1 := marks_line t [] ok (fun _ h => by cases h)
    rw [List.append_nil] at h1
    have h2 := rTC_str t.sk [] (by simp)
    rw [h1]
    have e1 : marks false ([] : List Nat) = [] := rfl
    rw [e1]
    rw [h2, repl_nil, List.append_nil]
    exact rounds_end (sk_len t ok)
end NC
/-! ### texts: join, parts, the signs one by one; raise where it is not reached -/
namespace NC
open PySem PySem.Spec PyProof.Rows L2
theorem ps_never {X : Cx} {st : Stmt} : PS X st (fun _ _ _ => False) := fun _ _ _ _ _ _ h => h.elim
theorem strs_of : ∀ {ws : List Str} {its : List Value}, Vals (ws.map V.str) its → StrsAre its ws
  | [], _, .nil => .nil
  | w :: ws, _, .cons r t => by
    obtain ⟨tk, rfl⟩ := r
    exact .cons w tk (strs_of t)
section
variable {X : Cx}
inductive RJoinI (K : PySem.W.Frag) (x : V) (xs : List V) (H : Hp) (Q : VK) : Prop where
  | mk (sep : _) (a : _) (ws : List Str) (c1 : x = .str sep) (c2 : xs = [.ref a]) (c3 : SqL K H a (ws.map V.str)) (c4 : sep.length ≤ 64) (c5 : (ws.map (·.length)).sum + ws.length * 64 ≤ 16777216) (c6 : Q (.str (Txt.join sep ws)) H)
def rJoin (K : PySem.W.Frag) : V → List V → Hp → VK → Prop := fun x xs H Q => RJoinI K x xs H Q
theorem mt_join : MtR X "str.join" (rJoin X.K) := by
  intro pins s σ H x xs v us Q I rx rs h
  obtain ⟨sep, a, ws, rfl, rfl, hq, h1, h2, q⟩ := h
  obtain ⟨t, rfl⟩ := rx
  obtain ⟨u, rfl, ru⟩ := vals1 rs
  cases (show u = Value.ref a from ru)
  obtain ⟨its, rv, p, hz⟩ := I.list hq
  exact join_listC p.isList (strs_of rv) h1 h2 fun t' k => ⟨.str _, H, I.tok _, ⟨_, rfl⟩, q⟩
/-- ''.join(xs) -/
theorem pe_join {o e : Expr} {to te : TE} {apos cpos : Pos} (ho : PE X o to) (he : PE X e te)
    (hbase : attributeBase o "join" X.env (eval o X.env) = eval o X.env := by rfl)
    (hfew : ((backTo cpos (starEach [e] X.env)).all (fun x => !x.1) && (backToKw cpos (keywordEach [] X.env)).all (fun x => x.1.isSome)
      && decide ([e].length + ([] : List Keyword).length + (if ([] : List Keyword).isEmpty then 0 else 1) < 30)) = true := by rfl)
    (hline : (apos.endLine == cpos.line) = true := by rfl) (h : plainE e = true := by rfl) :
    PE X (.Call (.Attribute o "join" apos) [e] [] cpos) (tBM X.K "str" (rJoin X.K) to (tCons te tNil)) :=
  pe_bm F.plainAttrs_str F.slot_str_join F.type_str_join mt_join ho (pa_c he pa_nil h) hbase hfew hline (star_plain h) rfl
/-- x[lo:hi] -/
inductive RSlSI (x : V) (lo : Option Int) (hi : Option Int) (H : Hp) (Q : VK) : Prop where
  | mk (z : Str) (c1 : x = .str z) (c2 : z.length ≤ sizeLine) (c3 : Q (.str (Txt.slice z lo hi)) H)
def rSlS : V → Option Int → Option Int → Hp → VK → Prop := fun x lo hi H Q => RSlSI x lo hi H Q
theorem part_tok {v : Value} {o : Option Int} (h : IsPart v o) : ∃ l : Option (Int × Tok), o = l.map (·.1) ∧ v = (match l with | none => Value.none | some (i, t) => .int i t) := by
  cases h with
  | none => exact ⟨none, rfl, rfl⟩
  | int i t => exact ⟨some (i, t), rfl, rfl⟩
theorem sl_str : SlR X rSlS := by
  intro pins s σ H x v vl vu lo hi sl Q I rx hs pl pu h
  obtain ⟨z, rfl, hz, q⟩ := h
  obtain ⟨t, rfl⟩ := rx
  obtain ⟨l, rfl, rfl⟩ := part_tok pl
  obtain ⟨u, rfl, rfl⟩ := part_tok pu
  refine ⟨"str", _, F.slot_str_getitem.lookup, typeIs_str _ _ _, wpAny_getItem_str_slice (l := l) (u := u) (st := none) ?_ rfl ?_⟩
  · obtain ⟨o, e1, e2, e3⟩ := hs
    exact ⟨o, e1, e2, e3⟩
  · exact post_val_or_str ⟨Nat.le_trans (Txt.slice_le z _ _) hz, fun t' k => ⟨.str _, H, I.tok _, ⟨_, rfl⟩, q⟩⟩
end
/-- the signs of a text -/
def Its (x : Str) : It := ⟨fun i _ => i < x.cps.size, fun i H v H' => H' = H ∧ ∃ c, x.cps[i]? = some c ∧ v = .str ⟨#[c]⟩, fun i _ => x.cps.size ≤ i⟩
theorem turn_text {P : Program} {w : World} {K : PySem.W.Frag} {tg : Expr} (it : Addr) (x : Str) (t : Tok) : Turn P w K tg (Its x) [it] it (fun i h => i ≤ x.cps.size ∧ h.IsStrIter it "str_ascii_iterator" x t i) where
  mem := by simp
  obj := fun i h st b hb => by
    have e : b = it := by simpa using hb
    subst e
    obtain ⟨_, o, e, c, d⟩ := st
    exact ⟨o, e, fun v z => by rw [d] at z; cases z⟩
  keep := fun i h h' st k => ⟨st.1, by
    obtain ⟨o, e, c, d⟩ := st.2
    exact ⟨o, k it (by simp) _ e, c, d⟩⟩
  item := by
    intro X hP hw hK hc i pins s σ H E I hf st hg
    subst hP hw hK
    obtain ⟨f0, f1, f2, f3, f4, f5⟩ := hf it (by simp)
    have W := Walks.strAscii (prog := X.prog) (w := X.w) (A := X.A) (I.ok.hd hc) it x t
    refine W.item i s _ _ hg st.2 fun v h' tk hv st' kk => ?_
    obtain ⟨c, u, hcx, rfl⟩ := hv
    have I1 : Inv X pins σ H { s with heap := h', toks := tk } := I.turned (fun b o hb e => kk b o (by simpa using hb) e) f0 f1 f3 f4 f5
    obtain ⟨o, e, cc, d⟩ := id st'
    exact ⟨_, rfl, go_of (s := { s with heap := h', toks := tk }) e cc d (by decide) ⟨.str ⟨#[c]⟩, H, I1, ⟨u, rfl⟩, ⟨rfl, c, hcx, rfl⟩, ⟨hg, st'⟩, fun b hb => (hf b hb).1⟩⟩
  done := by
    intro X hP hw hK hc i pins s σ H E I hf st hg
    subst hP hw hK
    obtain ⟨f0, f1, f2, f3, f4, f5⟩ := hf it (by simp)
    have W := Walks.strAscii (prog := X.prog) (w := X.w) (A := X.A) (I.ok.hd hc) it x t
    have hi : i = x.cps.size := Nat.le_antisymm st.1 hg
    subst hi
    refine W.done s _ _ st.2 fun h' tk kk => ⟨rfl, I.turned (fun b o hb e => kk b o (by simpa using hb) e) f0 f1 f3 f4 f5⟩
  self := fun _ _ _ _ _ st h => wpAny_pyIter_striter_ascii st.2 h
section
variable {X : Cx} {tg : Expr}
inductive ITextI (R : It → Hp → Prop) (x : V) (H1 : Hp) : Prop where
  | mk (z : Str) (c1 : x = .str z) (c2 : z.cps.all (· < 128) = true) (c3 : R (Its z) H1)
def iText (te : TE) : TI := fun σ H R => te σ H fun x H1 => ITextI R x H1
/-- for c in a text -/
theorem pi_text {e : Expr} {te : TE} (he : PE X e te) : PI X tg e (iText te) := by
  intro pins s σ H R I h
  refine thn (he pins s σ H _ I h) fun v s1 ⟨x, H1, I1, r1, z, ez, ha, q⟩ => ?_
  subst ez
  obtain ⟨t, rfl⟩ := r1
  refine wpAny_pyIter_ascii ha ?_
  refine ⟨s1.heap.objs.size, [s1.heap.objs.size], _, _, H1, rfl, I1.kept (t' := s1.toks) fun b o e => Heap.get?_push_of_some _ e, turn_text _ z t, ⟨Nat.zero_le _, ⟨_, Heap.get?_push_size _ rfl, rfl, rfl⟩⟩, fun b hb => ?_, q⟩
  have e : b = s1.heap.objs.size := by simpa using hb
  subst e
  exact I1.fpOk (Nat.le_refl _) (I1.hok.fresh (Nat.le_refl _))
end
end NC
namespace NC
open PySem PySem.Spec PyProof.Rows L2
section
variable {X : Cx} {CX : CXT} {k : Nat} {C : Addr} {m : Str} {ps : List Str} {sp : Sp} {E : XK} {o : Expr} {ta : TE} {apos pos : Pos}
theorem pe_gm0 {pl : Sem Bool} (he : PE X o ta) (c : Cls X.K C) (G : GM X.prog X.w X.K X.mg X.base CX k C m ps sp) (hr : Room k X.A) (hx : Passes CX X E)
    (ht : eval (.Call (.Attribute o m apos) [] [] pos) X.env = (do
      let ov ← eval o X.env
      standAt apos.atName
      let (f, first) ← holding [ov] (getMethod ov m pl)
      callWith pos f first (backTo pos (starEach [] X.env)) (backToKw pos (keywordEach [] X.env))) := by rfl) : PE X (.Call (.Attribute o m apos) [] [] pos) (tMeth C m sp [] E ta tNil) := by
  obtain ⟨f, fd, F, M, hb⟩ := G
  exact pe_meth0 he c M F hr hb .nil hx ht
end
end NC
namespace NC
open PySem PySem.Spec PyProof.Rows L2
section
variable {X : Cx} {o e : Expr} {to te : TE} {apos cpos : Pos}
end
theorem cps_append (a b : Str) : (a ++ b).cps.toList = a.cps.toList ++ b.cps.toList := by
  show (a.cps ++ b.cps).toList = _
  simp
theorem sjoin_cps (ws : List Str) : (Str.join (Str.ofString "") ws).cps.toList = ws.flatMap (·.cps.toList) := by
  have z : (Str.ofString "").cps.toList = [] := by decide +kernel
  induction ws with
  | nil => rfl
  | cons x r ih =>
    cases r with
    | nil => simp [Str.join]
    | cons y r =>
      rw [List.flatMap_cons, ← ih]
      show (x ++ Str.ofString "" ++ Str.join (Str.ofString "") (y :: r)).cps.toList = _
      rw [cps_append, cps_append, z, List.append_nil]
theorem join_cps (ws : List Str) : (Txt.join (Str.ofString "") ws).cps.toList = ws.flatMap (·.cps.toList) := by
  show (Builtin.Str.glued (Str.ofString "") ws).cps.toList = _
  rw [StrLaws.glued_eq_join, sjoin_cps]
theorem str_ext {a b : Str} (h : a.cps.toList = b.cps.toList) : a = b := by
  obtain ⟨x⟩ := a
  obtain ⟨y⟩ := b
  exact congrArg Str.mk (Array.toList_inj.mp h)
theorem slice_cps {z : Str} {i j : Nat} (h1 : i ≤ j) (h2 : j ≤ z.length) : (Txt.slice z (some (i : Int)) (some (j : Int))).cps.toList = (z.cps.toList.drop i).take (j - i) := by
  have e := beq_iff_eq.mp (slice_closesL (x := z) (i := (i : Int)) (j := (j : Int)) (by omega) (by omega) (by omega))
  rw [e]
  show ((z.cps.toList.drop (i : Int).toNat).take ((j : Int) - (i : Int)).toNat).toArray.toList = _
  rw [List.toList_toArray, show (i : Int).toNat = i by omega, show ((j : Int) - (i : Int)).toNat = j - i by omega]
/-- a sign among the letters -/
theorem in_letters : ∀ c : Nat, c < 128 → (!(Builtin.Str.occurrences (Str.ofString "abcdefghijklmnopqrstuvwxyz") ⟨#[c]⟩ 0 (Str.ofString "abcdefghijklmnopqrstuvwxyz").length 1).isEmpty) = decide (97 ≤ c ∧ c ≤ 122) := by
  decide +kernel
end NC
/-! ### named terms in the heap -/
namespace NC
open PySem PySem.Spec PyProof.Rows L2
inductive NamedAt (H : Hp) : V → NT → Prop where
  | name {a : Addr} {w : Str} (h : H a = some (.tup [.str "name", .str w])) : NamedAt H (.ref a) (.name w)
  | form {a : Addr} {w : Str} {v : V} {b : NT} (h : H a = some (.tup [.str "form", .str w, v])) (hb : NamedAt H v b) : NamedAt H (.ref a) (.form w b)
  | call {a : Addr} {v u : V} {x y : NT} (h : H a = some (.tup [.str "call", v, u])) (hx : NamedAt H v x) (hy : NamedAt H u y) : NamedAt H (.ref a) (.call x y)
theorem NamedAt.mono {H H' : Hp} {v : V} {t : NT} (h : NamedAt H v t) (k : Tups H H') : NamedAt H' v t := by
  induction h with
  | name h => exact .name (k _ _ h)
  | form h _ ih => exact .form (k _ _ h) ih
  | call h _ _ i1 i2 => exact .call (k _ _ h) i1 i2
theorem NamedAt.same {H H' : Hp} {v : V} {t : NT} (h : NamedAt H v t) (k : Same H H') : NamedAt H' v t := h.mono (.of_same k)
theorem NamedAt.ref {H : Hp} {v : V} {t : NT} (h : NamedAt H v t) : ∃ a, v = .ref a := by
  cases h with
  | name _ => exact ⟨_, rfl⟩
  | form _ _ => exact ⟨_, rfl⟩
  | call _ _ _ => exact ⟨_, rfl⟩
theorem nameds_mono {H H' : Hp} {vs : List V} {ts : List NT} (h : Paired (NamedAt H) vs ts) (k : Tups H H') : Paired (NamedAt H') vs ts := paired_imp (fun _ _ z => z.mono k) h
/-- what is begun, in the heap -/
def BgAt (H : Hp) (v : V) : Bg → Prop
  | .form w => ∃ a, v = .ref a ∧ H a = some (.tup [.str "form", .str w])
  | .one _ => ∃ a, v = .ref a ∧ H a = some (.tup [.str "call"])
  | .two t => ∃ a u, v = .ref a ∧ H a = some (.tup [.str "call", u]) ∧ NamedAt H u t
theorem BgAt.mono {H H' : Hp} {v : V} {b : Bg} (h : BgAt H v b) (k : Tups H H') : BgAt H' v b := by
  cases b with
  | form w => obtain ⟨a, e, q⟩ := h; exact ⟨a, e, k _ _ q⟩
  | one t => obtain ⟨a, e, q⟩ := h; exact ⟨a, e, k _ _ q⟩
  | two t => obtain ⟨a, u, e, q, r⟩ := h; exact ⟨a, u, e, k _ _ q, r.mono k⟩
theorem bgs_mono {H H' : Hp} {vs : List V} {S : List Bg} (h : Paired (BgAt H) vs S) (k : Tups H H') : Paired (BgAt H') vs S := paired_imp (fun _ _ z => z.mono k) h
theorem kp1_tups {H H' : Hp} {l : Addr} {xs : List V} (k : Keep [l] H H') (h : H l = some (.lst xs)) : Tups H H' := fun b ys e => k b _ (fun z => by rw [List.mem_singleton.mp z, h] at e; cases e) e
end NC
/-! ### named parts and the words round them, in the heap -/
namespace NC
open PySem PySem.Spec PyProof.Rows L2
/-- the words round a part: pairs, None behind the outermost -/
def ArAt (H : Hp) : List Str → V → Prop
  | [], v => v = .non
  | w :: ws, v => ∃ a u, v = .ref a ∧ H a = some (.tup [.str w, u]) ∧ ArAt H ws u
theorem ArAt.mono {H H' : Hp} (k : Tups H H') : ∀ {ws : List Str} {v : V}, ArAt H ws v → ArAt H' ws v
  | [], _, h => h
  | w :: ws, _, h => let ⟨a, u, e, q, r⟩ := h; ⟨a, u, e, k _ _ q, ArAt.mono k r⟩
inductive NPairAtI (H : Hp) (v : V) (q : NT × List Str) : Prop where
  | mk (a : _) (tv : _) (av : _) (c1 : v = .ref a) (c2 : H a = some (.tup [tv, av])) (c3 : NamedAt H tv q.1) (c4 : ArAt H q.2 av)
def NPairAt (H : Hp) (v : V) (q : NT × List Str) : Prop := NPairAtI H v q
theorem NPairAt.mono {H H' : Hp} {v : V} {q : NT × List Str} (h : NPairAt H v q) (k : Tups H H') : NPairAt H' v q := let ⟨a, tv, av, e, h1, h2, h3⟩ := h; ⟨a, tv, av, e, k _ _ h1, h2.mono k, h3.mono k⟩
end NC
/-! ### exceptions of own classes: raised, passed on, caught -/
namespace NC
open PySem PySem.Spec PyProof.Rows L2
/-- an exception of the class at C flies, behind a call -/
structure Fly (P : Program) (w : World) (outer : List Env) (H H' : Hp) (s s' : Shared) (e C : Addr) : Prop where
  os : s'.os = s.os
  bare : AllBare s'.gens
  un : Un (frs outer) [] H H' s.heap s'.heap
  hok : HOk P w H' s'.heap
  fl : ∃ B a0, Heap.FlyingW B outer e (.ref C) a0 s'.heap ∧ (∀ b u, H' b = some u → ∃ o, B.get? b = some o) ∧ (∀ b o, s.heap.get? b = some o → H b = none → b ∉ frs outer → B.get? b = some o) ∧
    ∀ b o, s.heap.get? b = some o → b ∉ frs outer → ∃ o', B.get? b = some o'
def CXE (P : Program) (w : World) : CXT := fun outer H s E e s' => ∃ ea C H', e = .ref ea ∧ Fly P w outer H H' s s' ea C ∧ E e (some C) H'
/-- a def's own body: its frame is the innermost one -/
structure Own (X : Cx) : Prop where
  stk : X.stack = X.env :: X.outer
  fr : X.env.frame = some X.env.locals
  ex : X.ex = []
section
variable {X : Cx} {pins : List (Addr × Obj)} {σ : L2.St} {H1 : Hp} {s1 : Shared}
/-- all but the frames that run -/
def noFrames (X : Cx) (h : Heap) : Heap := PySem.W.hideAll h (frs X.stack)
theorem stk_ne (I : Inv X pins σ H1 s1) (O : Own X) {b : Addr} {o : Obj} (e : X.s₀.heap.get? b = some o) (hb : b ∉ X.fs) : b ∉ frs X.stack := fun z => by
  rcases List.mem_cons.mp (I.stkSub b z) with q | q
  · rw [q] at e
    exact absurd (Nat.lt_of_lt_of_le (Heap.lt_size e) I.ok.above) (Nat.lt_irrefl _)
  · exact hb q
theorem frs_stack (O : Own X) : frs X.stack = X.env.locals :: X.fs := by
  rw [O.stk]
  unfold frs
  rw [List.filterMap_cons, O.fr]
  rfl
theorem fly_made {h2 : Heap} {e C : Addr} {vs : List Value} {M : Model} {E : Value → Shared → Prop} (I : Inv X pins σ H1 s1) (O : Own X) (hx : Heap.MadeExcOf s1.heap h2 e (.ref C) vs) :
    wpAny M X.A (leaving X.env (.ref e)) (fun _ s'' => Fly X.prog X.w X.outer X.H₀ H1 X.s₀ s'' e C) E { s1 with heap := h2 } := by
  have hfrs : ∀ env ∈ X.stack, ∀ a, env.frame = some a → a ∈ frs X.stack := fun env he a ha => List.mem_filterMap.mpr ⟨env, he, ha⟩
  have kB : ∀ b o, s1.heap.get? b = some o → b ∉ frs X.stack → (noFrames X s1.heap).get? b = some o := fun b o e n => PySem.W.hideAll_get _ e n
  have hl : s1.heap.FunFrames (noFrames X s1.heap) X.stack := PySem.W.funFrames_hide I.stack hfrs
  rw [O.stk] at hl
  refine wpAny_leaves_madeW (base := noFrames X s1.heap) (h := s1.heap) (by rw [I.ok.frames, O.stk]) O.fr (fun b o q => PySem.W.of_hideAll _ q) hl hx fun h' t x1 x2 x3 x4 => ?_
  have st : ∀ b o, (noFrames X s1.heap).get? b = some o → h'.get? b = some o := x1.1
  have fr' : ∀ b ∈ frs X.stack, ∀ o, s1.heap.get? b = some o → ∃ sl, h'.get? b = some { o with slots := sl } := fun b hb o e => by
    obtain ⟨_, o', e', nd⟩ := I.stack.mem hb
    rw [e] at e'
    cases e'
    exact x4 b o (hx.keeps _ _ e) nd
  have nT : ∀ b u, H1 b = some u → b ∉ frs X.stack := fun b u e z => by rw [I.stkFree b z] at e; cases e
  have un := I.base
  rw [O.ex] at un
  refine ⟨I.os, I.bare, ⟨fun b o e n hb hx' => ?_, fun b o e n hb hx' => ?_, un.free, fun b o e hx' => ?_, un.tups, un.frzs, un.tbls⟩, fun b u e => ?_, ⟨_, _, x1, fun b u e => ?_, fun b o e n hb => ?_, fun b o e hb => ?_⟩⟩
  · exact st b o (kB b o (un.keep b o e n hb hx') (stk_ne I O e hb))
  · obtain ⟨sl, q⟩ := un.slot b o e n hb hx'
    obtain ⟨sl', q'⟩ := fr' b (by rw [frs_stack O]; exact List.mem_cons_of_mem _ hb) _ q
    exact ⟨sl', q'⟩
  · obtain ⟨o', q⟩ := un.there b o e hx'
    by_cases hs : b ∈ frs X.stack
    · obtain ⟨sl, q'⟩ := fr' b hs _ q
      exact ⟨_, q'⟩
    · exact ⟨o', st b o' (kB b o' q hs)⟩
  · refine (I.hok b u e).stay (fun c v hc q => st c v (kB c v q ?_)) (fun _ q => q) fun _ _ q => q
    rcases hc with z | z
    · rw [z]; exact nT b u e
    · exact nT c _ z
  · obtain ⟨o, q⟩ := objok_there (I.hok b u e)
    exact ⟨o, kB b o q (nT b u e)⟩
  · exact kB b o (un.keep b o e n hb (by simp)) (stk_ne I O e hb)
  · obtain ⟨o', q⟩ := un.there b o e (by simp)
    exact ⟨o', kB b o' q (stk_ne I O e hb)⟩
/-- one that flew in from a callee leaves this def too -/
theorem fly_on {s2 : Shared} {H2 : Hp} {e C : Addr} {M : Model} {E : Value → Shared → Prop} (I : Inv X pins σ H1 s1) (O : Own X) (F : Fly X.prog X.w X.stack H1 H2 s1 s2 e C) :
    wpAny M X.A (leaving X.env (.ref e)) (fun _ s'' => Fly X.prog X.w X.outer X.H₀ H2 X.s₀ s'' e C) E s2 := by
  obtain ⟨B, a0, hfl, hB1, hB2, hB3⟩ := F.fl
  have J := I.call' (s' := s2) (ch := []) F.os F.un F.hok F.bare (fun b z => nomatch z)
  have hfl' := hfl
  rw [O.stk] at hfl'
  refine wpAny_leaves_onW (by rw [I.ok.frames, O.stk]) O.fr hfl' fun h' x1 x4 => ?_
  have st : ∀ b o, B.get? b = some o → h'.get? b = some o := x1.1
  have stB : ∀ b o, B.get? b = some o → s2.heap.get? b = some o := hfl.1
  have fr' : ∀ b ∈ frs X.stack, ∀ o, s2.heap.get? b = some o → ∃ sl, h'.get? b = some { o with slots := sl } := fun b hb o e => by
    obtain ⟨_, o', e', nd⟩ := J.stack.mem hb
    rw [e] at e'
    cases e'
    exact x4 b o e nd
  have un := J.base
  rw [O.ex] at un
  have unI := I.base
  rw [O.ex] at unI
  have oldB : ∀ b o, X.s₀.heap.get? b = some o → X.H₀ b = none → b ∉ X.fs → B.get? b = some o := fun b o e n hb => by
    refine hB2 b o (unI.keep b o e n hb (by simp)) (unI.free b o e n (by simp)) ?_
    exact stk_ne I O e hb
  have old3 : ∀ b o, X.s₀.heap.get? b = some o → b ∉ X.fs → ∃ o', B.get? b = some o' := fun b o e hb => by
    obtain ⟨o1, q⟩ := unI.there b o e (by simp)
    exact hB3 b o1 q (stk_ne I O e hb)
  refine ⟨J.os, J.bare, ⟨fun b o e n hb hx' => st b o (oldB b o e n hb), fun b o e n hb hx' => ?_, un.free, fun b o e hx' => ?_, un.tups, un.frzs, un.tbls⟩, fun b u e => ?_, ⟨B, a0, x1, hB1, oldB, old3⟩⟩
  · obtain ⟨sl, q⟩ := un.slot b o e n hb hx'
    obtain ⟨sl', q'⟩ := fr' b (by rw [frs_stack O]; exact List.mem_cons_of_mem _ hb) _ q
    exact ⟨sl', q'⟩
  · obtain ⟨o', q⟩ := un.there b o e hx'
    by_cases hs : b ∈ frs X.stack
    · obtain ⟨sl, q'⟩ := fr' b hs _ q
      exact ⟨_, q'⟩
    · obtain ⟨ob, z⟩ := old3 b o e fun z => hs (by rw [frs_stack O]; exact List.mem_cons_of_mem _ z)
      exact ⟨ob, st b ob z⟩
  · refine (F.hok b u e).stay (fun c v hc q => ?_) (fun _ q => q) fun _ _ q => q
    have hc' : ∃ y, H2 c = some y := by
      rcases hc with z | z
      · rw [z]; exact ⟨u, e⟩
      · exact ⟨_, z⟩
    obtain ⟨y, hy⟩ := hc'
    obtain ⟨ob, z⟩ := hB1 c y hy
    rw [stB c ob z] at q
    cases q
    exact st c _ z
end
end NC
namespace NC
open PySem PySem.Spec PyProof.Rows L2
section
variable {P : Program} {w : World} {K : PySem.W.Frag} {mg : Str → Option Value} {base : Heap} {N : List Str} {qual : Str} {scope : Scope} {f : Addr} {cd : Value} {A : Around} {outer : List Env} {s : Shared} {H : Hp} {E : XK}
/-- the body of a def that may raise -/
abbrev cxE (P : Program) (w : World) (K : PySem.W.Frag) (mg : Str → Option Value) (base : Heap) (N : List Str) (qual : Str) (scope : Scope) (f : Addr) (cd : Value) (A : Around) (outer : List Env) (s : Shared) (H : Hp) (E : XK) : Cx := cxOf (CXE P w) P w K mg base N qual scope f cd A outer s H E
theorem own_cxE : Own (cxE P w K mg base N qual scope f cd A outer s H E) := ⟨rfl, rfl, rfl⟩
theorem passE : Passes (CXE P w) (cxE P w K mg base N qual scope f cd A outer s H E) E := by
  intro pins σ H1 s1 e s' I h
  obtain ⟨ea, C, H', rfl, F, hE⟩ := h
  show wpAny (model P w) _ (leaving _ (.ref ea)) _ _ s'
  exact thn (fly_on I own_cxE F) fun _ s'' F' => ⟨ea, C, H', rfl, F', hE⟩
theorem ownE : PassesOwn (model P w) (cxE P w K mg base N qual scope f cd A outer s H E).A (cxE P w K mg base N qual scope f cd A outer s H E).env (cxE P w K mg base N qual scope f cd A outer s H E).xe := PassesOwn.leaving
/-- an own exception class without methods, as the top made it -/
structure ExcC (x : Str) (C : Addr) (mg : Str → Option Value) (h : Heap) : Prop where
  own : OwnCls x C [.type "ValueError", .type "Exception", .type "BaseException", .type "object"] "ValueError.__new__" mg h
theorem ExcC.keeps {x : Str} {C : Addr} {h h' : Heap} (O : ExcC x C mg h) (k : ∀ b o, h.get? b = some o → h'.get? b = some o) : ExcC x C mg h' := ⟨O.own.keeps k⟩
/-- raise C(text) -/
def tRaise (E : XK) (C : Addr) (te : TE) : TS := fun _ σ H => te σ H fun v H1 => ([v] : List V).length = 1 ∧ ∀ e, E (.ref e) (some C) H1
theorem ps_raise {x : Str} {C : Addr} {e₀ : Expr} {te : TE} {np cpos pos : Pos} (O : ExcC x C mg base) (hh : A.handled = none) (hg : Gl (cxE P w K mg base N qual scope f cd A outer s H E) x) (he : PE (cxE P w K mg base N qual scope f cd A outer s H E) e₀ te)
    (h : plainE e₀ = true := by rfl) (hdb : (x == ("__debug__" : Str)) = false := by decide) :
    PS (cxE P w K mg base N qual scope f cd A outer s H E) (.Raise (some (.Call (.Name x np) [e₀] [] cpos)) none pos) (tRaise E C te) := by
  intro pins s1 σ H1 D I hw
  obtain ⟨tl, Nn, nm, q, bs, hdct, sn, sub, ab, col, dd, k0, k1, k2, k3, k5, mN, hC, hN, hni, T⟩ := O.own.obj
  have ha : PA (cxE P w K mg base N qual scope f cd A outer s H E) [e₀] (tCons te tNil) := pa_c he pa_nil h
  refine wpAny_Raise_call_subT (C := C) (nm := nm) (q := q) (N := Nn) (bs := bs) (bm := tl) (hdct := hdct) (sn := sn) (sub := sub) (ab := ab) (col := col) (dd := dd) (k0 := k0) (k1 := k1) (k2 := k2) (k3 := k3) (k5 := k5)
    PySem.F.excBase_ValueError (mN := mN) (T.hasType PySem.F.excBase_ValueError.hasBase) hh (by rw [star_plain h]; rfl) hni (ld_glob I hg O.own.bound ⟨rfl, ?_⟩ hdb)
  have e1 := ha cpos pins s1 σ H1 (fun vs H2 => vs.length = 1 ∧ ∀ e, E (.ref e) (some C) H2) I hw
  rw [star_plain h] at e1 ⊢
  refine Calls.evalArgs_plain (thn e1 fun us s2 ⟨vs, H2, I2, r, q1, q2⟩ => ⟨rfl, ?_, I2.bk _ _ hC, hN.keeps I2.bk, T.keeps I2.bk, fun h' e hm => ?_⟩)
  · rw [← r.length, q1]; decide
  · show wpAny (model P w) _ (leaving _ (.ref e)) _ _ _
    exact thn (fly_made I2 own_cxE hm) fun _ s'' F' => ⟨e, C, H2, rfl, F', q2 e⟩
end
end NC
/-! ### a caught exception: its class, try -/
namespace NC
open PySem PySem.Spec PyProof.Rows L2
/-- an exception of the class at D stands at x -/
def ExcAt (x D : Addr) (h : Heap) : Prop := ∃ o, h.get? x = some o ∧ o.cls = .ref D ∧ PySem.W.notCls o = true
/-- what isinstance asks of the exception's class -/
structure ClsE (K : PySem.W.Frag) (D : Addr) : Prop where
  ga : PySem.W.findIn K (.ref D) "__getattribute__" = some (some (.builtin "BaseException.__getattribute__"))
  gt : PySem.W.findIn K (.ref D) "__getattr__" = some none
  hb : PySem.W.mroIn K D (.type "BaseException") = some true
  hd : PySem.W.hasDictIn K D = true
  ha : PySem.W.findIn K (.ref D) "__class__" = some (some (.builtin "object.__class__"))
  hn : PySem.W.specialIn K (.builtin "object.__class__") "__get__" = some (some (.builtin "getset_descriptor.__get__"))
  ht : PySem.W.takesIn K (.builtin "object.__class__") = some true
  hm : PySem.W.mroIn K D (.type "object") = some true
section
variable {prog : Program} {w : World} {A : Around} {E : Value → Shared → Prop} {s : Shared} {K : PySem.W.Frag} {x D : Addr}
theorem ExcAt.type {M : Model} {h : Heap} (I : ExcAt x D h) : PySem.W.Looks M h (typeOf (.ref x)) (.ref D) := by
  obtain ⟨o, h1, h2, _⟩ := I
  exact h2 ▸ (PySem.W.Looks.ld h1).andThen .now
open PySem.W Builtin.ObjectAttr in
theorem exc_find {M : Model} {h : Heap} (c : ClsE K D) (X : K.In h) : Looks M h (find (.ref x) (.ref D) "__class__") (.bind (.builtin "getset_descriptor.__get__") (.builtin "object.__class__")) := by
  have L1 := looks_findIn (M := M) X c.ha
  have L2 : Looks M h (getOf (some (.builtin "object.__class__"))) (some (.builtin "getset_descriptor.__get__")) := looks_specialIn X c.hn
  have L3 := looks_takesIn (M := M) X c.ht
  exact L1.andThen (L2.andThen ((show Looks M h (dataDescriptor? (some (.builtin "object.__class__")) (some (.builtin "getset_descriptor.__get__"))) (some (.builtin "getset_descriptor.__get__", .builtin "object.__class__")) from L3.andThen .now).andThen (Looks.tag .now)))
open PySem.W PySem.Calls Builtin Builtin.ObjectAttr Builtin.Getset_descriptor in
theorem exc_get {tp : Value} {R : Result → Shared → Prop} (X : K.In s.heap) (I : ExcAt x D s.heap) (hm : mroIn K D (.type "object") = some true)
    (h : R (.ok (.ret (.ref D))) s) : codeAny (model prog w) A (.call (.builtin "getset_descriptor.__get__") ⟨[.builtin "object.__class__", .ref x, tp], []⟩) R s := by
  obtain ⟨hh, g, dr, t, os⟩ := s
  have L0 := I.type (M := model prog w)
  have L1 := looks_mroIn (M := model prog w) X hm
  refine codeAny_call_builtin KF.slot_gs.plain KF.entry_gs (KF.slot_gs.check _ _ _ _ _ _ _ _ KF.type_class (KF.args_gs _ _ _) ?_)
  unfold Builtin.«getset_descriptor.__get__» descrGet
  rw [dga_obj]
  refine wpAny_bind (wpAny_pure ?_)
  unfold descrGetter descrCheckInstance descrNameAndClass isInstance
  simp only [KF.owner_class]
  repeat lk
  refine ⟨Code.quiet_builtin _ (by decide +kernel), codeAny_builtin KF.entry_class ?_⟩
  unfold Builtin.«object.__class__» shownTypeOf
  repeat lk
  exact h
open PySem.W PySem.Calls Builtin.ObjectAttr in
theorem exc_getattr {tk : Tok} {R : Result → Shared → Prop} (c : ClsE K D) (X : K.In s.heap) (I : ExcAt x D s.heap) (h : R (.ok (.ret (.ref D))) s) :
    codeAny (model prog w) A (.call (.builtin "BaseException.__getattribute__") ⟨[.ref x, .str "__class__" tk], []⟩) R s := by
  obtain ⟨hh, g, d, t, os⟩ := s
  have L0 := I.type (M := model prog w)
  have L1 := looks_mroIn (M := model prog w) X c.hb
  have L3 := exc_find (M := model prog w) (x := x) c X
  have hk : builtinKind "BaseException.__getattribute__" = some .slot := by decide +kernel
  have hsplit : splitId "BaseException.__getattribute__" = some ("BaseException", "__getattribute__") := by decide +kernel
  have ha := F.args_bexc_ga (.ref x) (.str "__class__" tk)
  refine codeAny_call_builtin F.excAttr_ValueError.ga.plain F.entry_bexc_ga ?_
  simp only [checkBuiltinCall, hk, hsplit]
  refine wpAny_bind ?_
  unfold isInstance
  refine wpAny_bind (L0.at (L1.at ?_))
  rw [if_neg (by decide)]
  repeat (any_goals (first | assumption | with_reducible refine L0.at ?_ | with_reducible refine L3.at ?_ | wp_step))
  exact exc_get (s := ⟨hh, g, d, t, os⟩) X I c.hm (wpAny_pure h)
open PySem.W PySem.Calls in
theorem exc_class {Q : Option Value → Shared → Prop} (c : ClsE K D) (X : K.In s.heap) (I : ExcAt x D s.heap) (h : Q (some (.ref D)) { s with toks := s.toks + 1 }) : wpAny (model prog w) A (getAttr? (.ref x) "__class__") Q E s := by
  obtain ⟨hh, g, d, t, os⟩ := s
  have L0 := I.type (M := model prog w)
  have L1 := looks_findIn (M := model prog w) X c.ga
  have L2 := looks_findIn (M := model prog w) X c.gt
  have f3 := F.excAttr_ValueError.ga.bind (.ref x)
  unfold getAttr? getAttrBy? getAttrBy
  refine wpAny_bind (wpAny_mkText (wpAny_bind (wpAny_attempt (wpAny_holding (wpAny_bind (L0.at (wpAny_bind (L1.at ?_))))))))
  have hx2 : (Value.builtin "BaseException.__getattribute__" == Value.builtin "object.__getattribute__") = false := by decide +kernel
  have hx1 : (onTheHeap (Value.ref D) && Value.builtin "BaseException.__getattribute__" == Value.builtin "object.__getattribute__") = false := by rw [hx2]; rfl
  dsimp only
  rw [if_neg (by rw [hx1]; exact Bool.false_ne_true)]
  unfold getAttrByItsOwn hookBefore
  rw [if_pos (show onTheHeap (Value.ref D) = true from rfl)]
  refine wpAny_bind (L2.at (wpAny_bind (wpAny_attempt (wpAny_holding ?_))))
  show wpAny _ _ (boundAndCalled _ _ _) _ _ _
  unfold boundAndCalled
  rw [f3]
  refine wpAny_bind (wpAny_pure (wpAny_call (exc_getattr (s := ⟨hh, g, d, t + 1, os⟩) c X I ?_)))
  exact handed_on rfl (wpAny_pure h)
open PySem.W in
theorem kitx_exc (c : ClsE K D) : KitX K (.ref x) (.ref D) (ExcAt x D) where
  ty := fun _ _ _ I => I.type
  it := fun _ _ X _ => by
    obtain ⟨cdD, hcD, _⟩ := any_some c.hd
    unfold clsIn at hcD
    split at hcD
    · rename_i c' d' cd' sl' ho
      intro A' Q' E' s' k q
      unfold isType loadHead
      exact wpAny_bind (wpAny_loadPart (k _ _ (X _ _ ho)) (wpAny_pure q))
    · cases hcD
  ne := fun h tp dd its n sl X htp => by
    obtain ⟨cdD, hcD, _⟩ := any_some c.hd
    refine Bool.eq_false_iff.mpr fun q => ?_
    have e : D = tp := Value.ref.inj (beq_iff_eq.mp q)
    subst e
    unfold clsIn at hcD
    split at hcD
    · rename_i c' d' cd' sl' ho
      have z := (X _ _ ho).symm.trans htp
      cases z
    · cases hcD
  ca := fun X I k => exc_class c X I k
end
section
variable {X : Cx} {pins : List (Addr × Obj)} {σ : L2.St} {H1 H2 : Hp} {s1 s2 : Shared}
/-- isinstance of a caught exception -/
def rIsE (K : PySem.W.Frag) (ea D : Addr) : List V → Hp → VK → Prop := fun xs H Q => (∃ C b, xs = [.ref ea, .ref C] ∧ PySem.W.kitOne K (.ref D) (.ref C) = some b ∧ Q (.bl b) H) ∨ ∃ n b, xs = [.ref ea, .ty n] ∧ PySem.W.kitOne K (.ref D) (.type n) = some b ∧ Q (.bl b) H
theorem call_isE {ea D : Addr} {oe : Obj} (hp : (ea, oe) ∈ X.pn) (hc : oe.cls = .ref D) (hn : PySem.W.notCls oe = true) (c : ClsE X.K D) : CallR X (.builtin "isinstance") (rIsE X.K ea D) := by
  intro pins s σ H xs us Q I r h
  have hE : ExcAt ea D s.heap := ⟨oe, (I.pin _ (List.mem_append_left _ hp)).1, hc, hn⟩
  rcases h with ⟨C, b, rfl, h2, q⟩ | ⟨n, b, rfl, h2, q⟩
  · obtain ⟨u, w', rfl, r1, r2⟩ := vals2 r
    cases (show u = Value.ref ea from r1)
    cases (show w' = Value.ref C from r2)
    exact PySem.W.kia_one (kitx_exc c) I.kIn hE h2 (fun z => nomatch z) fun tk => ⟨.bl b, H, I.tok tk, rfl, q⟩
  · obtain ⟨u, w', rfl, r1, r2⟩ := vals2 r
    cases (show u = Value.ref ea from r1)
    cases (show w' = Value.type n from r2)
    exact PySem.W.kia_one (kitx_exc c) I.kIn hE h2 (fun z => nomatch z) fun tk => ⟨.bl b, H, I.tok tk, rfl, q⟩
/-- behind a caught exception the def goes on -/
theorem inv_land {B : Heap} {ea C : Addr} {h' : Heap} (I : Inv X pins σ H1 s1) (O : Own X) (F : Fly X.prog X.w X.stack H1 H2 s1 s2 ea C) (stB : ∀ b o, B.get? b = some o → s2.heap.get? b = some o)
    (hB1 : ∀ b u, H2 b = some u → ∃ o, B.get? b = some o) (hB2 : ∀ b o, s1.heap.get? b = some o → H1 b = none → b ∉ frs X.stack → B.get? b = some o)
    (hB3 : ∀ b o, s1.heap.get? b = some o → b ∉ frs X.stack → ∃ o', B.get? b = some o') (st : ∀ b o, B.get? b = some o → h'.get? b = some o) (up : s2.heap.UpToSlots h') : Inv X pins σ H2 { s2 with heap := h' } := by
  have J := I.call' (s' := s2) (ch := []) F.os F.un F.hok F.bare (fun b z => nomatch z)
  have fr' : ∀ b ∈ frs X.stack, ∀ o, s2.heap.get? b = some o → ∃ sl, h'.get? b = some { o with slots := sl } := fun b hb o e => by
    obtain ⟨_, o', e', nd⟩ := J.stack.mem hb
    rw [e] at e'
    cases e'
    exact up b o e nd
  have un := J.base
  have unI := I.base
  rw [O.ex] at un unI
  have oldB : ∀ b o, X.s₀.heap.get? b = some o → X.H₀ b = none → b ∉ X.fs → B.get? b = some o := fun b o e n hb =>
    hB2 b o (unI.keep b o e n hb (by simp)) (unI.free b o e n (by simp)) (stk_ne I O e hb)
  have old3 : ∀ b o, X.s₀.heap.get? b = some o → b ∉ X.fs → ∃ o', B.get? b = some o' := fun b o e hb => by
    obtain ⟨o1, q⟩ := unI.there b o e (by simp)
    exact hB3 b o1 q (stk_ne I O e hb)
  have cellK : ∀ c v, s2.heap.IsCell c v → h'.IsCell c v := fun c v ⟨o, ho, hd⟩ => by
    obtain ⟨sl, q⟩ := up c o ho fun vs z => by rw [hd] at z; cases z
    exact ⟨_, q, hd⟩
  refine ⟨J.ok, J.os, J.bare, ?_, ?_, fun x c e => ?_, J.free, J.freeC, fun p hp => ?_, fun b u e => ?_, J.len⟩
  · rw [O.ex]
    refine ⟨fun b o e n hb hx' => st b o (oldB b o e n hb), fun b o e n hb hx' => ?_, un.free, fun b o e hx' => ?_, un.tups, un.frzs, un.tbls⟩
    · obtain ⟨sl, q⟩ := un.slot b o e n hb hx'
      obtain ⟨sl', q'⟩ := fr' b (by rw [frs_stack O]; exact List.mem_cons_of_mem _ hb) _ q
      exact ⟨sl', q'⟩
    · obtain ⟨o', q⟩ := un.there b o e hx'
      by_cases hs : b ∈ frs X.stack
      · obtain ⟨sl, q'⟩ := fr' b hs _ q
        exact ⟨_, q'⟩
      · obtain ⟨ob, z⟩ := old3 b o e fun z => hs (by rw [frs_stack O]; exact List.mem_cons_of_mem _ z)
        exact ⟨ob, st b ob z⟩
  · obtain ⟨m, ns, f⟩ := J.loc
    refine ⟨m, up.ns ns, fun i x v a b c => ?_⟩
    obtain ⟨u, r, q⟩ := f i x v a b c
    refine ⟨u, r, ?_⟩
    rcases q with q | ⟨q1, c', q2, q3⟩
    · exact .inl q
    · exact .inr ⟨q1, c', q2, cellK _ _ q3⟩
  · obtain ⟨v, q⟩ := J.cell x c e
    exact ⟨v, cellK _ _ q⟩
  · obtain ⟨p1, p2, p3, p4, p5⟩ := I.pin p hp
    refine ⟨st _ _ (hB2 _ _ p1 p2 ?_), (J.pin p hp).2.1, p3, p4, p5⟩
    rw [frs_stack O]
    intro z
    rcases List.mem_cons.mp z with q | q
    · exact p3 q
    · exact p4 q
  · refine (F.hok b u e).stay (fun c v hc q => ?_) (fun _ q => q) fun _ _ q => q
    have hc' : ∃ y, H2 c = some y := by
      rcases hc with z | z
      · rw [z]; exact ⟨u, e⟩
      · exact ⟨_, z⟩
    obtain ⟨y, hy⟩ := hc'
    obtain ⟨ob, z⟩ := hB1 c y hy
    rw [stB c ob z] at q
    cases q
    exact st c _ z
/-- in a handler's suite -/
def _root_.L2.Cx.hnd (X : Cx) (ea : Addr) (l : List (Addr × Obj)) : Cx := { X with A := X.A.mark (some (.ref ea)), calm := false, pn := l ++ X.pn, xe := fun _ _ => False }
theorem inv_hnd {H : Hp} {s : Shared} {ea : Addr} {l : List (Addr × Obj)} (I : Inv X pins σ H s) (hl : ∀ p ∈ l, s.heap.get? p.1 = some p.2 ∧ H p.1 = none ∧ p.1 ≠ X.env.locals ∧ p.1 ∉ X.fs ∧ ∀ v, p.2.data ≠ .cell v) : Inv (X.hnd ea l) pins σ H s := by
  have ok := I.ok
  refine ⟨⟨ok.mod, ok.kind, ok.glob, ok.blt, ok.above, ok.inj, ok.has, ok.cab, (fun z => nomatch z), ok.frames, ok.stk, ok.exf, ok.bs, ok.bsz, ok.noex, ok.exfs, ok.funs, ok.frf⟩, I.os, I.bare, I.base, I.loc, I.cell, I.free, I.freeC, fun p hp => ?_, I.hok, I.len⟩
  rw [show (X.hnd ea l).pn = l ++ X.pn from rfl, List.append_assoc] at hp
  rcases List.mem_append.mp hp with q | q
  · exact hl p q
  · exact I.pin p q
theorem inv_unhnd {H : Hp} {s : Shared} {ea : Addr} {l : List (Addr × Obj)} (ok : X.Ok) (I : Inv (X.hnd ea l) pins σ H s) : Inv X pins σ H s :=
  ⟨ok, I.os, I.bare, I.base, I.loc, I.cell, I.free, I.freeC, fun p hp => I.pin p (by rw [show (X.hnd ea l).pn = l ++ X.pn from rfl, List.append_assoc]; exact List.mem_append_right _ hp), I.hok, I.len⟩
theorem call_isH {ea D : Addr} {oe : Obj} {l : List (Addr × Obj)} (hp : (ea, oe) ∈ l) (hc : oe.cls = .ref D) (hn : PySem.W.notCls oe = true) (c : ClsE X.K D) : CallR (X.hnd ea l) (.builtin "isinstance") (rIsE X.K ea D) := call_isE (X := X.hnd ea l) (List.mem_append_left _ hp) hc hn c
/-- an expression that may raise -/
def PEx (X : Cx) (e : Expr) (t : XK → TE) : Prop :=
  ∀ (E : XK) (pins : List (Addr × Obj)) (s : Shared) (σ : L2.St) (H : Hp) (Q : VK), Inv X pins σ H s → t E σ H Q →
    wpAny (model X.prog X.w) X.A (eval e X.env) (EP X pins σ Q) (fun v s' => ∃ H1 s1, Inv X pins σ H1 s1 ∧ CXE X.prog X.w X.stack H1 s1 E v s') s
theorem pex_call {k : Nat} {f : Addr} {fd : FuncData} {ps : List Str} {sp : Sp} {x : Str} {p pos : Pos} {e : Expr} {es : List Expr} {t : TA} (F : FnOk X.prog X.w X.K X.mg X.base (CXE X.prog X.w) k f fd ps sp) (hr : Room k X.A) (hg : Gl X x) (hm : X.mg x = some (.ref f)) (hk : PySem.W.keepIn X.K (.ref f) = true) (hb : Binds X.K fd ps [])
    (ha : PA X.nox (e :: es) t) (hdb : (x == ("__debug__" : Str)) = false := by decide) (he : starEach (e :: es) X.env = (false, eval e X.env) :: starEach es X.env := by rfl) (hpl : (backTo pos (starEach es X.env)).any (·.1) = false := by rfl) :
    PEx X (.Call (.Name x p) (e :: es) [] pos) (fun E => tCall sp [] E t) := by
  intro E pins s σ H Q I h
  refine wpAny_Call_Name_kw (ld_glob I hg hm ?_ hdb)
  refine PySem.W.callWith_K (h₀ := X.base) I.ok.mod.kin hk (wpAny_mono (ha pos pins s σ H _ (I.wish _) h) (fun us s1 ⟨vs, H1, I1', r, q⟩ => ⟨I1'.kIn, ?_⟩) fun _ _ z => False.elim z) he hpl
  have I1 := I1'.unwish
  have hl : us.length = ps.length := by
    rw [← r.length]
    have := F.len _ _ _ _ q
    rwa [List.append_nil] at this
  have hb1 := hb s1 us I1.kIn (by rw [List.append_nil]; exact hl)
  have q : sp (vs ++ []) H1 Q E := q
  rw [List.append_nil] at hb1 q
  refine wpAny_call (codeAny_mono (F.run X.A X.stack s1 H1 ⟨us, []⟩ us vs Q E hr I1.env0 hb1 r q) fun r s' hq => ?_)
  cases r with
  | error e => exact ⟨H1, s1, I1, hq⟩
  | ok fl =>
    cases fl with
    | ret u => exact I1.after hq
    | next => exact False.elim hq
    | brk => exact False.elim hq
    | cont => exact False.elim hq
theorem pex_gf {k : Nat} {ps : List Str} {sp : Sp} {x : Str} {p pos : Pos} {e : Expr} {es : List Expr} {t : TA} (G : GF X.prog X.w X.K X.mg X.base (CXE X.prog X.w) k x ps sp) (hr : Room k X.A) (hg : Gl X x) (ha : PA X.nox (e :: es) t) (h : (e :: es).all plainE = true := by rfl) (hdb : (x == ("__debug__" : Str)) = false := by decide) :
    PEx X (.Call (.Name x p) (e :: es) [] pos) (fun E => tCall sp [] E t) := by
  obtain ⟨f, fd, F, hm, hk, hb⟩ := G
  rw [List.all_cons, Bool.and_eq_true] at h
  exact pex_call F hr hg hm hk hb ha hdb (star_plain h.1) (star_any h.2)
/-- what the try wants of an exception: the handler's class takes it, the suite goes on -/
def Caught (K : PySem.W.Frag) (CH : Addr) (R : Addr → Addr → Hp → Prop) : XK := fun v C H' => ∃ ea C0, v = .ref ea ∧ C = some C0 ∧ PySem.W.exmOne K (.ref C0) (.ref CH) = some true ∧ R ea C0 H'
theorem looks_fly {M : Model} {B h : Heap} {l : List Env} {e C : Addr} {a0 : Value} (x : Heap.FlyingW B l e (.ref C) a0 h) : PySem.W.Looks M h (typeOf (.ref e)) (.ref C) := by
  obtain ⟨ob, h1, h2⟩ := x.there
  exact h2 ▸ (PySem.W.Looks.ld h1).andThen .now
section
variable {i : Nat} {x cn n : Str} {CH : Addr} {e : Expr} {t : XK → TE} {ts : TS} {b₀ : Stmt} {bs : List Stmt} {p1 p2 p3 p4 p5 : Pos}
/-- try: x = e, except C: suite -/
def tTryA (K : PySem.W.Frag) (CH : Addr) (i : Nat) (t : XK → TE) (ts : TS) : TS := fun D σ H => t (Caught K CH fun _ _ H' => ts D σ H') σ H fun v H1 => D.nx (σ.set i (some v)) H1
theorem ps_tryA (O : Own X) (hN : X.N.Nodup) (hi : X.N[i]? = some x) (hx : Loc X.env.scope x) (he : PEx X e t) (hgl : Gl X cn) (hm : X.mg cn = some (.ref CH)) (hs : ∀ ea, PSs (X.hnd ea []) (b₀ :: bs) ts)
    (hsw : swapsWith e (some (.Name x p1)) p2.line X.env = pure false := by rfl) (hf : X.fn x = true ∨ X.env.scope.names.lookup x = some .local := by first | exact .inl rfl | exact .inr rfl | assumption) (hdb : (cn == ("__debug__" : Str)) = false := by decide) :
    PS X (.Try [.Assign [.Name x p1] e p2] [.ExceptHandler (some (.Name cn p3)) none (b₀ :: bs) p4] [] [] p5) (tTryA X.K CH i t ts) := by
  intro pins s σ H D I h
  refine wpAny_Try_except (wpAny_execs_cons (wpAny_Assign_Name (wpAny_mono (he _ pins s σ H _ I h) (fun v s1 ⟨y, H1, I1, r1, q1⟩ => ?_) fun ev s1 hx' => ?_) hsw))
  · exact store_ok I1 hN hi hx r1 (fun s2 I2 => wpAny_execs_nil (wpAny_execs_nil ⟨_, H1, I2, q1⟩)) hf
  · obtain ⟨H1, s0, I1, ea, C, H2, rfl, F, ea', C0, e1, e2, hex, hts⟩ := hx'
    cases e1
    cases e2
    obtain ⟨B, a0, hfl, hB1, hB2, hB3⟩ := F.fl
    have hfl' := hfl
    rw [O.stk] at hfl'
    refine wpAny_looks_onW (by rw [I1.ok.frames, O.stk]) O.fr hfl' fun h2 held up2 => wpAny_landsW held fun h3 fl3 up3 => ?_
    have J := inv_land I1 O F hfl.1 hB1 hB2 hB3 fl3.1 (up2.trans up3)
    refine wpAny_handleBy_cons (codeAny_handlers_test ?_) (by intro q; cases q)
    refine ld_glob (X := X.hnd ea []) (inv_hnd J fun p hp => nomatch hp) hgl hm ?_ hdb
    refine (PySem.W.exm_one (J.kIn) (looks_fly fl3) hex).here ?_
    refine codeAny_handlers_suite (lands_againW fl3 fun h4 fl4 up4 => ?_)
    have J4 := inv_land I1 O F hfl.1 hB1 hB2 hB3 fl4.1 ((up2.trans up3).trans up4)
    refine wpAny_mono (hs ea pins _ σ H2 D (inv_hnd J4 fun p hp => nomatch hp) hts) (fun f s' q => ?_) fun _ _ z => z.elim
    cases f with
    | next => obtain ⟨σ', H', I', q⟩ := q; exact ⟨σ', H', inv_unhnd I.ok I', q⟩
    | brk => obtain ⟨σ', H', I', q⟩ := q; exact ⟨σ', H', inv_unhnd I.ok I', q⟩
    | cont => obtain ⟨σ', H', I', q⟩ := q; exact ⟨σ', H', inv_unhnd I.ok I', q⟩
    | ret u => obtain ⟨v, σ', H', I', r, q⟩ := q; exact ⟨v, σ', H', inv_unhnd I.ok I', r, q⟩
/-- the names forgotten -/
theorem inv_forget {H : Hp} {s : Shared} {h' : Heap} {m' : Str → Option Value} {tk : Nat} (I : Inv X pins σ H s) (ns : h'.Ns X.env.locals m') (sb : Heap.SameBut X.env.locals s.heap h') : Inv X pins (List.replicate X.N.length none) H { s with heap := h', toks := tk } := by
  have other : ∀ b, b ≠ X.env.locals → h'.get? b = s.heap.get? b := fun b hb => sb.2 b hb
  have neL : ∀ b o, X.s₀.heap.get? b = some o → b ≠ X.env.locals := fun b o e => Nat.ne_of_lt (Nat.lt_of_lt_of_le (Heap.lt_size e) I.ok.above)
  have trL : ∀ b u, H b = some u → b ≠ X.env.locals := fun b u e z => by rw [z, I.free] at e; cases e
  refine ⟨I.ok, I.os, I.bare, ⟨fun b o e n hb hx' => ?_, fun b o e n hb hx' => ?_, I.base.free, fun b o e hx' => ?_, I.base.tups, I.base.frzs, I.base.tbls⟩, ⟨m', ns, fun i x v a b c => ?_⟩, fun x c e => ?_, I.free, I.freeC, fun p hp => ?_, fun b u e => ?_, by simp⟩
  · exact (other b (neL b o e)).trans (I.base.keep b o e n hb hx')
  · obtain ⟨sl, q⟩ := I.base.slot b o e n hb hx'
    exact ⟨sl, (other b (neL b o e)).trans q⟩
  · obtain ⟨o', q⟩ := I.base.there b o e hx'
    exact ⟨o', (other b (neL b o e)).trans q⟩
  · rw [List.getElem?_replicate] at b
    split at b <;> cases b
  · obtain ⟨v, o, ho, hd⟩ := I.cell x c e
    exact ⟨v, o, (other c (I.cne x c e)).trans ho, hd⟩
  · obtain ⟨a1, a2, a3, a4, a5⟩ := I.pin p hp
    exact ⟨(other _ a3).trans a1, a2, a3, a4, a5⟩
  · refine (I.hok b u e).stay (fun c v hc q => ?_) (fun _ q => q) fun _ _ q => q
    have hc' : c ≠ X.env.locals := by
      rcases hc with z | z
      · rw [z]; exact trL b u e
      · exact trL c _ z
    exact (other c hc').trans q
/-- try: e, except C as n: a suite that returns -/
def tTryB (K : PySem.W.Frag) (CH CN : Addr) (i : Nat) (t : XK → TE) (ts : Addr → TS) : TS := fun D σ H => t (Caught K CH fun ea C0 H' => C0 = CN ∧ ts ea { nx := fun _ _ => False, bk := fun _ _ => False, ct := fun _ _ => False, rt := D.rt } (σ.set i (some (.ref ea))) H') σ H fun _ H1 => D.nx σ H1
theorem ps_tryB {CN : Addr} {tsf : Addr → TS} (O : Own X) (hN : X.N.Nodup) (hi : X.N[i]? = some n) (hx : X.env.scope.names.lookup n = some .local) (he : PEx X e t) (hgl : Gl X cn) (hm : X.mg cn = some (.ref CH))
    (hs : ∀ ea oe, oe.cls = .ref CN → PySem.W.notCls oe = true → PSs (X.hnd ea [(ea, oe)]) (b₀ :: bs) (tsf ea))
    (hsw : swapsWith e none p2.line X.env = pure false := by rfl) (hdb : (cn == ("__debug__" : Str)) = false := by decide) :
    PS X (.Try [.Expr e p2] [.ExceptHandler (some (.Name cn p3)) (some n) (b₀ :: bs) p4] [] [] p5) (tTryB X.K CH CN i t tsf) := by
  intro pins s σ H D I h
  refine wpAny_Try_except (wpAny_execs_cons (wpAny_Expr_any (wpAny_mono (he _ pins s σ H _ I h) (fun v s1 ⟨y, H1, I1, r1, q1⟩ => ?_) fun ev s1 hx' => ?_) I.quiet hsw))
  · exact wpAny_execs_nil (wpAny_execs_nil ⟨_, H1, I1, q1⟩)
  · obtain ⟨H1, s0, I1, ea, C, H2, rfl, F, ea', C0, e1, e2, hex, e3, hts⟩ := hx'
    cases e1
    cases e2
    subst e3
    obtain ⟨B, a0, hfl, hB1, hB2, hB3⟩ := F.fl
    have hfl' := hfl
    rw [O.stk] at hfl'
    refine wpAny_looks_onW (by rw [I1.ok.frames, O.stk]) O.fr hfl' fun h2 held up2 => wpAny_landsW held fun h3 fl3 up3 => ?_
    have J := inv_land I1 O F hfl.1 hB1 hB2 hB3 fl3.1 (up2.trans up3)
    refine wpAny_handleBy_cons (codeAny_handlers_test ?_) (by intro q; cases q)
    refine ld_glob (X := X.hnd ea []) (inv_hnd J fun p hp => nomatch hp) hgl hm ?_ hdb
    refine (PySem.W.exm_one (J.kIn) (looks_fly fl3) hex).here ?_
    refine codeAny_handlers_suite_as (lands_againW fl3 fun h4 fl4 up4 => ?_)
    have J4 := inv_land I1 O F hfl.1 hB1 hB2 hB3 fl4.1 ((up2.trans up3).trans up4)
    obtain ⟨oe, vs, f1, f2, f3, _⟩ := fl4.first
    have hne : ∀ b u, H2 b = some u → b ≠ ea := fun b u q z => by
      obtain ⟨o, q'⟩ := hB1 b u q
      rw [z, fl4.2.1] at q'
      cases q'
    have hfree : H2 ea = none := by
      cases q : H2 ea with
      | none => rfl
      | some u => exact absurd rfl (hne ea u q)
    have J5 : Inv (X.hnd ea [(ea, oe)]) pins σ H2 _ := inv_hnd J4 fun p hp => by
      cases List.mem_singleton.mp hp
      refine ⟨f1, hfree, fun z => ?_, fun z => ?_, fun v z => by rw [f3] at z; cases z⟩
      · obtain ⟨m, ns, _⟩ := J4.loc
        obtain ⟨oL, es, ep, hL, hd, _⟩ := ns
        have z : ea = X.env.locals := z
        rw [← z, f1] at hL
        cases hL
        rw [f3] at hd
        cases hd
      · have z : ea ∈ frs X.stack := by rw [frs_stack O]; exact List.mem_cons_of_mem _ z
        obtain ⟨_, o', e', nd⟩ := J4.stack.mem z
        rw [f1] at e'
        cases e'
        exact nd vs f3
    refine store_ok (X := X.hnd ea [(ea, oe)]) J5 hN hi (.inl hx) (v := .ref ea) rfl (fun s5 J6 => ?_) (.inr hx)
    refine wpAny_mono (hs ea oe f2 (by unfold PySem.W.notCls; rw [f3]) pins s5 _ H2 _ J6 hts) (fun f s' q => ?_) fun _ _ z => z.elim
    cases f with
    | next => obtain ⟨_, _, _, q⟩ := q; exact q.elim
    | brk => obtain ⟨_, _, _, q⟩ := q; exact q.elim
    | cont => obtain ⟨_, _, _, q⟩ := q; exact q.elim
    | ret u =>
      obtain ⟨v, σ', H', I', r, q⟩ := q
      have I7 := inv_unhnd I.ok I'
      obtain ⟨m, ns, _⟩ := I7.loc
      exact wpAny_nameGoes hx ns (by rw [I.ok.kind]; rfl) fun h' m' ns' sb => ⟨v, _, H', inv_forget I7 ns' sb, r, q⟩
end
end
end NC
namespace NC
open PySem PySem.Spec PyProof.Rows L2
section
variable {P : Program} {w : World} {K : PySem.W.Frag} {mg : Str → Option Value} {base : Heap}
/-- a def that may raise, by its body -/
theorem okE {x qual : Str} {st : Stmt} {f : Addr} {fd : FuncData} {N ps : List Str} {k : Nat} {sp : Sp} (F : Fun K x qual st f fd) (S : FnScope N ps (defScope st)) (len : ∀ vs H Q E, sp vs H Q E → vs.length = ps.length)
    (hbody : ∀ (cdv : Value) (A : Around) (outer : List Env) (s : Shared) (H : Hp) (vs : List V) (Q : VK) (E : XK), Room k (A.deeper (envOfC qual (defScope st) s.heap.objs.size f cdv)) → sp vs H Q E →
      ∃ t, PSs (cxE P w K mg base N qual (defScope st) f cdv A outer s H E) (defBody st) t ∧ t { nx := fun _ H' => Q .non H', rt := Q } (L2.start N vs) H) : FnOk P w K mg base (CXE P w) (k + 1) f fd ps sp := by
  obtain ⟨oc, od, kV, doc, pm, an, cdv, ct, osl, rfl, lk, hcd⟩ := F.ex
  exact fn_of lk hcd S len fun A outer s H vs Q E hr hsp => hbody cdv A outer s H vs Q E hr hsp
/-- a class of exceptions as the fragment has it -/
theorem exc_of {x : Str} {C : Addr} (X : K.In base) (hm : mg x = some (.ref C)) (q : PySem.W.excIn K C [.type "ValueError", .type "Exception", .type "BaseException", .type "object"] "ValueError.__new__" = true) : ExcC x C mg base := by
  refine ⟨⟨hm, ?_⟩⟩
  unfold PySem.W.excIn at q
  split at q
  · rename_i dd cd sl ho
    split at q
    · rename_i C' bm k0 k1 k2 k3 n k5 hm hs
      simp only [Bool.and_eq_true, beq_iff_eq, Bool.not_eq_true'] at q
      obtain ⟨⟨⟨⟨⟨rfl, rfl⟩, hdel⟩, ht⟩, hok⟩, hni⟩ := q
      obtain ⟨nm, bs, mro, ns, qn, hd, sn, sub, ab, col, del⟩ := cd
      dsimp only at hm hdel hok hni
      subst hm hdel
      have hsl : sl = #[k0, k1, k2, k3, some (.builtin "ValueError.__new__"), k5] := by
        obtain ⟨l⟩ := sl
        simp only at hs
        rw [hs]
      subst hsl
      exact ⟨bm, ns, nm, qn, bs, hd, sn, sub, ab, col, dd, k0, k1, k2, k3, k5, _, X _ _ ho, .of_isNs (PySem.W.isNs_of_in X hok), PySem.W.nsMap_none_of_in X hok hni, PySem.W.tail_of_in X ht⟩
    · cases q
  · cases q
end
end NC
/-! ### x = [.. for ..]: the store lies within the comprehension -/
namespace NC
open PySem PySem.Spec PyProof.Rows L2
end NC
/-! ### comprehensions with names of the def round them -/
namespace NC
open PySem PySem.Spec PyProof.Rows L2
def compCxC (X : Cx) (N : List Str) (scope : Scope) (cl : List (Str × Addr)) (C : Addr) (s : Shared) (H : Hp) : Cx where
  prog := X.prog
  w := X.w
  K := X.K
  mg := X.mg
  base := X.base
  A := X.A
  N := N
  s₀ := s
  H₀ := H
  env := compEnvC scope cl C X.env
  outer := X.stack
  stack := X.stack
  ex := []
  calm := X.calm
  fn := fun _ => false
  pn := []
  xe := fun _ _ => False
/-- a comprehension's scope: its own names N, names fs of the def round it -/
structure CompScopeC (N fs : List Str) (sc : Scope) : Prop where
  kind : sc.kind = .function
  nd : (N ++ fs).Nodup
  nocell : ∀ y ∈ sc.names, y.2 ≠ .cell
  loc : ∀ y ∈ sc.names, y.2 = .local → sc.names.lookup y.1 = some .local
  fre : ∀ x ∈ fs, sc.names.lookup x = some .free
  all : ∀ y ∈ sc.names, y.2 = .free → y.1 ∈ fs
theorem look_map (f : Str → NameKind → NameKind) : ∀ (l : List (Str × NameKind)) (x : Str) (k : NameKind), (l.map fun p => (p.1, f p.1 p.2)).lookup x = some k → ∃ k', l.lookup x = some k' ∧ f x k' = k
  | [], _, _, h => by cases h
  | (n, k0) :: r, x, k, h => by
    rw [List.map_cons] at h
    cases hx : x == n with
    | true =>
      simp only [List.lookup_cons, hx] at h ⊢
      have e : x = n := by simpa using hx
      subst e
      exact ⟨k0, rfl, Option.some.inj h⟩
    | false =>
      simp only [List.lookup_cons, hx] at h ⊢
      exact look_map f r x k h
theorem look_map' (f : Str → NameKind → NameKind) : ∀ (l : List (Str × NameKind)) (x : Str) (k : NameKind), l.lookup x = some k → (l.map fun p => (p.1, f p.1 p.2)).lookup x = some (f x k)
  | [], _, _, h => by cases h
  | (n, k0) :: r, x, k, h => by
    rw [List.map_cons]
    cases hx : x == n with
    | true =>
      simp only [List.lookup_cons, hx] at h ⊢
      have e : x = n := by simpa using hx
      subst e
      cases h
      rfl
    | false =>
      simp only [List.lookup_cons, hx] at h ⊢
      exact look_map' f r x k h
def relK (env : Env) (n : Str) (k : NameKind) : NameKind := if (k == .free && env.scope.kind == .function && env.kindOf n == some .cell) = true then .cell else k
theorem relabel_names (scope : Scope) (env : Env) : (relabel scope env).names = scope.names.map fun p => (p.1, relK env p.1 p.2) := by
  unfold relabel relK
  apply List.map_congr_left
  rintro ⟨n, k⟩ _
  show (if (k == .free && env.scope.kind == .function && env.kindOf n == some .cell) = true then (n, NameKind.cell) else (n, k)) = _
  split <;> rfl
theorem relK_free {env : Env} {n : Str} : relK env n .free = .cell ∨ relK env n .free = .free := by
  unfold relK
  split
  · exact .inl rfl
  · exact .inr rfl
theorem relK_not {env : Env} {n : Str} {k : NameKind} (h : k ≠ .free) : relK env n k = k := by
  unfold relK
  rw [if_neg]
  intro z
  simp only [Bool.and_eq_true] at z
  exact h (by simpa using z.1.1)
/-- what a comprehension is handed: the cells of fs are cells round it -/
structure CompClos (X : Cx) (fs : List Str) (cl : List (Str × Addr)) : Prop where
  at_ : ∀ x c, cl.lookup x = some c → X.env.cells.lookup x = some c
  has : ∀ x ∈ fs, ∃ c, cl.lookup x = some c
  only : ∀ x c, cl.lookup x = some c → x ∈ fs
  kd : ∀ x ∈ fs, X.env.kindOf x ≠ some .local
theorem compC_ok {X : Cx} {pins : List (Addr × Obj)} {σ : L2.St} {H : Hp} {s : Shared} {N fs : List Str} {scope : Scope} {cl : List (Str × Addr)} {C : Addr} (I : Inv X pins σ H s) (S : CompScopeC N fs scope) (L : CompClos X fs cl) (hC : s.heap.objs.size ≤ C) : (compCxC X (N ++ fs) scope cl C s H).Ok where
  mod := I.ok.mod
  kind := S.kind
  glob := I.ok.glob
  blt := I.ok.blt
  above := hC
  inj := fun x y c h1 h2 => I.ok.inj x y c (L.at_ _ _ h1) (L.at_ _ _ h2)
  has := fun x h => by
    have q : ∃ k, (relabel scope X.env).names.lookup x = some k ∧ (k = .cell ∨ k = .free) := by
      rcases h with h | h
      · exact ⟨_, h, .inl rfl⟩
      · exact ⟨_, h, .inr rfl⟩
    obtain ⟨k, hk, hkk⟩ := q
    rw [relabel_names] at hk
    obtain ⟨k', h1, h2⟩ := look_map _ _ _ _ hk
    have hm := PySem.mem_of_lookup h1
    by_cases hf : k' = .free
    · rw [hf] at hm
      exact L.has x (S.all _ hm rfl)
    · rw [relK_not hf] at h2
      rcases hkk with e | e
      · exact absurd (h2.trans e) (S.nocell _ hm)
      · exact absurd (h2.trans e) hf
  cab := fun x c h _ => by cases h
  hd := I.ok.hd
  frames := I.ok.frames
  stk := .inl rfl
  exf := fun b hb => nomatch hb
  bs := I.bs
  bsz := Nat.le_trans I.ok.bsz I.sz
  noex := fun _ _ _ hb => nomatch hb
  exfs := fun b hb => nomatch hb
  funs := I.stack
  frf := I.stkFree
def tCompC (K : PySem.W.Frag) (n : Nat) (js : List Nat) (ti : TE) (tg : Addr → Shared → Hp → TG) (tt : Addr → Shared → Hp → TT) (te : Addr → Shared → Hp → TE) : TE := fun σ H Q => ti σ H fun x H1 => ∃ a xs, x = .ref a ∧ SqL K H1 a xs ∧ ∀ D, H1 D = none → ∃ W : Nat → L2.St → Hp → Prop, W 0 (List.replicate n none ++ js.map fun j => (σ[j]?).getD none) (upd H1 D (.lst [])) ∧
  (∀ i σ' H', i ≤ xs.length → W i σ' H' → SqL K H' a xs) ∧
  (∀ C s0 H0 i x σ' H', xs[i]? = some x → W i σ' H' → tg C s0 H0 x σ' H' fun σ2 H2 => tt C s0 H0 σ2 H2 fun b H3 => if b = true then te C s0 H0 σ2 H3 fun y H4 => ∃ ys, H4 D = some (.lst ys) ∧ ys.length < sizeLine ∧ W (i + 1) σ2 (upd H4 D (.lst (ys ++ [y]))) else W (i + 1) σ2 H3) ∧
  ∀ σ' H', W xs.length σ' H' → Q (.ref D) H'
theorem pe_compC {X : Cx} {elt target iter : Expr} {ifs : List Expr} {scope : Scope} {pos : Pos} {N fs : List Str} {js : List Nat} {cl : List (Str × Addr)} {ti : TE} {te : Addr → Shared → Hp → TE} {tg : Addr → Shared → Hp → TG} {tt : Addr → Shared → Hp → TT} (hc : X.calm = true) (S : CompScopeC N fs scope) (hclos : closureFor scope X.env = pure cl) (L : CompClos X fs cl)
    (hjs : js.map (fun j => X.N[j]?) = fs.map some) (hvis : ∀ x ∈ fs, Vis X.env.scope x) (hi : PE X iter ti)
    (hb : ∀ C s H, PG (compCxC X (N ++ fs) scope cl C s H) target (tg C s H) ∧ PF (compCxC X (N ++ fs) scope cl C s H) ifs (tt C s H) ∧ PE (compCxC X (N ++ fs) scope cl C s H) elt (te C s H)) (hs : ∀ x, foldedSetIterable iter X.env x = pure x := by intro _; rfl) :
    PE X (.ListComp elt [⟨target, iter, ifs, 0⟩] scope pos) (tCompC X.K N.length js ti tg tt te) := by
  intro pins s σ H Q I h
  rw [eval_ListComp]
  refine wpAny_comprehension_free (use := none) rfl hs hclos S.kind S.loc (thn (hi pins s σ H _ I h) fun xv s1 ⟨x, H1, I1, r1, a, xs, e, hq, q⟩ => ?_)
  subst e
  cases (show xv = Value.ref a from r1)
  obtain ⟨its, rv, p, hz⟩ := I1.list hq
  refine wpAny_pyIter_list p.isList (wpAny_newObj_type (hd := by size_fits) (wpAny_newFunctionEnv S.nocell (by intro y hy; simp at hy) (fun h1 hns hsb => ?_) S.kind))
  dsimp only at hns hsb ⊢
  generalize hH1 : s1.heap.push { cls := .type "list_iterator", data := .fields #[.ref a, .int 0 0] } = G1 at hns hsb ⊢
  have hD : G1.objs.size = s1.heap.objs.size + 1 := by rw [← hH1, Heap.size_push]
  generalize hH2 : G1.push { cls := .type "list", dict := none, data := .seq ([] : List Value).toArray } = G2 at hns hsb ⊢
  have hC : G2.objs.size = s1.heap.objs.size + 2 := by rw [← hH2, Heap.size_push, hD]
  have old2 : ∀ b o, G2.get? b = some o → h1.get? b = some o := fun b o e => hsb.extBut b o (Nat.ne_of_lt (Heap.lt_size e)) (Heap.get?_push_of_some _ e)
  have old : ∀ b o, s1.heap.get? b = some o → h1.get? b = some o := fun b o e => old2 b o (hH2 ▸ Heap.get?_push_of_some _ (hH1 ▸ Heap.get?_push_of_some _ e))
  have hit : h1.IsListIter s1.heap.objs.size a 0 := ⟨_, old2 _ _ (hH2 ▸ Heap.get?_push_of_some _ (hH1 ▸ Heap.get?_push_size _ rfl)), rfl, rfl⟩
  have hacc : h1.get? G1.objs.size = some { cls := .type "list", dict := none, data := .seq ([] : List Value).toArray } := old2 _ _ (hH2 ▸ Heap.get?_push_size _ rfl)
  have nD : H1 G1.objs.size = none := I1.hok.fresh (by rw [hD]; exact Nat.le_succ _)
  have nIt : H1 s1.heap.objs.size = none := I1.hok.fresh (Nat.le_refl _)
  have nC : H1 G2.objs.size = none := I1.hok.fresh (by rw [hC]; exact Nat.le_add_right _ _)
  obtain ⟨W, w0, wl, ws, wd⟩ := q G1.objs.size nD
  have itD : s1.heap.objs.size ≠ G1.objs.size := by rw [hD]; exact Nat.ne_of_lt (Nat.lt_succ_self _)
  have CD : G2.objs.size ≠ G1.objs.size := by rw [hC, hD]; exact Nat.ne_of_gt (Nat.lt_succ_self _)
  have itC : s1.heap.objs.size ≠ G2.objs.size := by rw [hC]; exact Nat.ne_of_lt (Nat.lt_succ_of_lt (Nat.lt_succ_self _))
  have J0 : Inv (compCxC X (N ++ fs) scope cl G2.objs.size s1 H1) [] (List.replicate N.length none ++ js.map fun j => (σ[j]?).getD none) (upd H1 G1.objs.size (.lst [])) { s1 with heap := h1, toks := s1.toks + ([] : List (Str × Value)).length } := by
    refine ⟨compC_ok I1 S L (by rw [hC]; exact Nat.le_add_right _ _), rfl, I1.bare, Un.laid old (by rw [hD]; exact Nat.le_succ _) nD, ⟨_, hns, fun i x v e1 e2 hv => ?_⟩, fun x c e => ?_, ?_, fun x c e => ?_, (fun p hp => nomatch hp), I1.hok.laid (a := G1.objs.size) (o := .lst []) old (by rw [hD]; exact Nat.le_succ _) ⟨Nat.zero_le _, [], _, .nil, hacc⟩, ?_⟩
    · have e1 : (N ++ fs)[i]? = some x := e1
      by_cases hi : i < N.length
      · rw [List.getElem?_append_left (by rw [List.length_replicate]; exact hi), List.getElem?_replicate] at e2
        split at e2 <;> cases e2
      · rw [List.getElem?_append_right (by rw [List.length_replicate]; omega), List.length_replicate, List.getElem?_map] at e2
        rw [List.getElem?_append_right (by omega)] at e1
        cases hj : js[i - N.length]? with
        | none => rw [hj] at e2; cases e2
        | some j =>
          rw [hj] at e2
          have e2 : (σ[j]?).getD none = some v := Option.some.inj e2
          have hx : x ∈ fs := List.mem_of_getElem? e1
          have hNj : X.N[j]? = some x := by
            have z : (js.map fun j => X.N[j]?)[i - N.length]? = some (X.N[j]?) := by rw [List.getElem?_map, hj]; rfl
            rw [hjs, List.getElem?_map, e1] at z
            exact (Option.some.inj z).symm
          have hσ : σ[j]? = some (some v) := by
            cases hq : σ[j]? with
            | none => rw [hq] at e2; cases e2
            | some o => rw [hq] at e2; exact congrArg some e2
          obtain ⟨m, _, lk⟩ := I1.loc
          obtain ⟨u, ru, l⟩ := lk j x v hNj hσ (hvis x hx)
          refine ⟨u, ru, ?_⟩
          rcases l with ⟨z, _⟩ | ⟨_, c, hcc, hcell⟩
          · exact absurd z (L.kd x hx)
          · obtain ⟨c', hc'⟩ := L.has x hx
            have e : c' = c := Option.some.inj ((L.at_ _ _ hc').symm.trans hcc)
            subst e
            have hk : (relabel scope X.env).names.lookup x = some (relK X.env x .free) := by
              rw [relabel_names]
              exact look_map' _ _ _ _ (S.fre x hx)
            refine .inr ⟨?_, c', hc', ?_⟩
            · rcases relK_free (env := X.env) (n := x) with z | z
              · exact .inl (hk.trans (congrArg some z))
              · exact .inr (hk.trans (congrArg some z))
            · obtain ⟨o, ho, r⟩ := hcell
              exact ⟨o, old _ _ ho, r⟩
    · obtain ⟨v, o, ho, r⟩ := I1.cell x c (L.at_ x c e)
      exact ⟨v, o, old _ _ ho, r⟩
    · show upd H1 G1.objs.size _ G2.objs.size = none
      rw [upd_ne CD]; exact nC
    · obtain ⟨v, o, ho, r⟩ := I1.cell x c (L.at_ x c e)
      show upd H1 G1.objs.size _ c = none
      rw [upd_ne fun z => by
        have := Heap.lt_size ho
        rw [z, hD] at this
        exact absurd this (Nat.not_lt.mpr (Nat.le_succ _))]
      exact I1.freeC x c (L.at_ x c e)
    · show (List.replicate N.length none ++ js.map fun j => (σ[j]?).getD none).length = (N ++ fs).length
      have := congrArg List.length hjs
      rw [List.length_map, List.length_map] at this
      rw [List.length_append, List.length_append, List.length_replicate, List.length_map, this]
  have T := turn_list (P := X.prog) (w := X.w) (K := X.K) (tg := target) a s1.heap.objs.size
  have fpk : ∀ {H' : Hp}, H' s1.heap.objs.size = none → ∀ b ∈ [s1.heap.objs.size], FpOk (compCxC X (N ++ fs) scope cl G2.objs.size s1 H1) [] H' b := fun hn b hb => by
    rw [List.mem_singleton.mp hb]
    exact ⟨hn, itC, fun z => (by obtain ⟨_, o, ho, _⟩ := I1.stack.mem z; exact absurd (Heap.lt_size ho) (Nat.lt_irrefl _)), .inr (Nat.le_refl _), fun x c e => (by obtain ⟨v, o, ho, r⟩ := I1.cell x c (L.at_ x c e); exact Nat.ne_of_lt (Heap.lt_size ho)), (fun p hp => nomatch hp)⟩
  -- the loop
  have loop : ∀ s2 : Shared, Inv (compCxC X (N ++ fs) scope cl G2.objs.size s1 H1) [] (List.replicate N.length none ++ js.map fun j => (σ[j]?).getD none) (upd H1 G1.objs.size (.lst [])) s2 → s2.heap.IsListIter s1.heap.objs.size a 0 →
      codeAny (model X.prog X.w) X.A (.compLoop (.ListComp elt [⟨target, iter, ifs, 0⟩] scope pos) 0 (.ref s1.heap.objs.size) (.ref G1.objs.size) (compEnvC scope cl G2.objs.size X.env))
        (compPost (model X.prog X.w) X.A X.xe none (EP X pins σ Q) (.ref G1.objs.size) G2.objs.size) s2 := by
    intro s2 J2 st2
    refine compLoop_any (fun n s' => ∃ i σ' H', n = xs.length - i ∧ i ≤ xs.length ∧ Inv (compCxC X (N ++ fs) scope cl G2.objs.size s1 H1) [] σ' H' s' ∧ s'.heap.IsListIter s1.heap.objs.size a i ∧ H' s1.heap.objs.size = none ∧ W i σ' H') ?_ xs.length ⟨0, _, _, rfl, Nat.zero_le _, J2, st2, by rw [upd_ne itD]; exact nIt, w0⟩
    rintro n s3 ⟨i, σ3, H3, rfl, hil, J3, st3, fr3, w3⟩
    have hsq := wl i σ3 H3 hil w3
    by_cases hlt : i < xs.length
    · have hx : xs[i]? = some xs[i] := List.getElem?_eq_getElem hlt
      refine thn (T.item (compCxC X (N ++ fs) scope cl G2.objs.size s1 H1) rfl rfl rfl hc i [] s3 σ3 H3 _ J3 (fpk fr3) st3 ⟨xs, _, hsq, hx⟩) fun r s4 ⟨u, hr, h4⟩ => ?_
      subst hr
      refine thn h4 fun _ s5 ⟨x, H5, J5, r5, ⟨e5, y5⟩, st5, fr5⟩ => ?_
      subst e5
      have ex := y5 xs hsq
      have J5' := J5.pinned (fpk (fr5 _ (by simp))) (T.obj _ _ st5)
      obtain ⟨hg, ht, hel⟩ := hb G2.objs.size s1 H1
      have back : ∀ {σ7 : L2.St} {H7 : Hp} {s7 : Shared}, Inv (compCxC X (N ++ fs) scope cl G2.objs.size s1 H1) ([] ++ pinsAt [s1.heap.objs.size] s5.heap) σ7 H7 s7 → W (i + 1) σ7 H7 →
          ∃ m, m < xs.length - i ∧ ∃ i σ' H', m = xs.length - i ∧ i ≤ xs.length ∧ Inv (compCxC X (N ++ fs) scope cl G2.objs.size s1 H1) [] σ' H' s7 ∧ s7.heap.IsListIter s1.heap.objs.size a i ∧ H' s1.heap.objs.size = none ∧ W i σ' H' := fun {σ7 H7 s7} J7 w7 => by
        refine ⟨xs.length - (i + 1), by omega, i + 1, σ7, H7, rfl, hlt, J7.unpinned, T.keep _ _ _ st5 fun b hb o e => (J7.pin (b, o) (List.mem_append_right _ (List.mem_append_right _ (mem_pinsAt hb e)))).1, ?_, w7⟩
        obtain ⟨o, e, d⟩ := T.obj _ _ st5 _ (List.mem_singleton.mpr rfl)
        exact (J7.pin (_, o) (List.mem_append_right _ (List.mem_append_right _ (mem_pinsAt (List.mem_singleton.mpr rfl) e)))).2.1
      refine thn (hg _ s5 σ3 H5 x u _ J5' r5 (ws G2.objs.size s1 H1 i x σ3 H5 ex w3)) fun _ s6 ⟨σ6, H6, J6, q6⟩ => ?_
      refine thn (ht _ s6 σ6 H6 _ J6 q6) fun ok s7 ⟨H7, J7, q7⟩ => ?_
      cases ok with
      | false => exact back J7 q7
      | true =>
        refine thn (hel _ s7 σ6 H7 _ J7 q7) fun y s8 ⟨yv, H8, J8, ry, ys, hys, hyl, w8⟩ => ?_
        refine thn (mt_append (X := compCxC X (N ++ fs) scope cl G2.objs.size s1 H1) _ s8 σ6 H8 (.ref G1.objs.size) [yv] (.ref G1.objs.size) [y] (fun _ H9 => W (i + 1) σ6 H9) J8 rfl (.cons ry .nil) ⟨_, ys, yv, rfl, rfl, hys, hyl, w8⟩) fun z s9 ⟨_, H9, J9, _, w9⟩ => ?_
        exact back J9 w9
    · have hie : i = xs.length := by omega
      subst hie
      refine thn (T.done (compCxC X (N ++ fs) scope cl G2.objs.size s1 H1) rfl rfl rfl hc xs.length [] s3 σ3 H3 _ J3 (fpk fr3) st3 ⟨xs, hsq, Nat.le_refl _⟩) fun r s4 ⟨hr, J4⟩ => ?_
      subst hr
      obtain ⟨m, hm, _⟩ := J4.loc
      show ∃ m, Heap.Ns _ _ m ∧ _
      refine ⟨m, hm, fun h' sb => ?_⟩
      have neC : ∀ b o, s1.heap.get? b = some o → b ≠ G2.objs.size := fun b o e => Nat.ne_of_lt (Nat.lt_of_lt_of_le (Heap.lt_size e) (by rw [hC]; exact Nat.le_add_right _ _))
      have un := J4.base
      have trC : ∀ b v, H3 b = some v → b ≠ G2.objs.size := fun b v e z => by
        have := J4.free
        rw [z] at e
        rw [show H3 G2.objs.size = none from this] at e
        cases e
      refine ⟨.ref G1.objs.size, H3, I1.call' (s' := { s4 with heap := h' }) (ch := []) J4.os ⟨fun b o e n hb hx => (sb.2 b (neC b o e)).trans (un.keep b o e n hb hx), fun b o e n hb hx => ?_, un.free, fun b o e hx => ?_, un.tups, un.frzs, un.tbls⟩ (fun b v e => ?_) J4.bare (fun b z => nomatch z), rfl, wd σ3 H3 w3⟩
      · obtain ⟨sl, q⟩ := un.slot b o e n hb hx
        exact ⟨sl, (sb.2 b (neC b o e)).trans q⟩
      · obtain ⟨o', q⟩ := un.there b o e hx
        exact ⟨o', (sb.2 b (neC b o e)).trans q⟩
      · refine (J4.hok b v e).stay (fun c u hc q => (sb.2 c ?_).trans q) (fun _ q => q) fun _ _ q => q
        rcases hc with rfl | hc
        · exact trC _ _ e
        · exact trC _ _ hc
  exact codeAny_compStart_list (loop _ J0 hit) (wpAny_pyIter_listiter hit (loop _ J0 hit))
end NC
/-! ### x = [.. for .. in a range or a zip] -/
namespace NC
open PySem PySem.Spec PyProof.Rows L2
theorem clos1 {X : Cx} {x : Str} {c : Addr} (h : X.env.cells.lookup x = some c) (k : X.env.kindOf x = some .cell) : CompClos X [x] [(x, c)] where
  at_ := fun y d e => by
    have := PySem.mem_of_lookup e
    simp at this
    rw [this.1, this.2]
    exact h
  has := fun y hy => ⟨c, by rw [List.mem_singleton.mp hy]; simp⟩
  only := fun y d e => by
    have := PySem.mem_of_lookup e
    simp at this
    rw [this.1]
    exact List.mem_singleton.mpr rfl
  kd := fun y hy => by rw [List.mem_singleton.mp hy, k]; intro z; cases z
end NC
/-! ### str.replace as a list function -/
namespace NC
open PySem Builtin Builtin.Str
theorem at_pre {x y : Str} {i : Nat} (hw : y.cps.toList ≠ []) : StrLaws.At x y x.length i ↔ ∃ r, x.cps.toList.drop i = y.cps.toList ++ r := by
  have hl : x.cps.toList.length = x.length := by simp [Str.length]
  have hy : y.cps.toList.length = y.length := by simp [Str.length]
  unfold StrLaws.At
  rw [StrLaws.subAt_eq, beq_iff_eq]
  constructor
  · rintro ⟨_, h⟩
    exact ⟨(x.cps.toList.drop i).drop y.length, by rw [← h, List.take_append_drop]⟩
  · rintro ⟨r, h⟩
    refine ⟨?_, by rw [h, ← hy, List.take_left]⟩
    have := congrArg List.length h
    rw [List.length_drop, List.length_append, hl, hy] at this
    have hy0 : y.length ≠ 0 := fun q => hw (List.eq_nil_of_length_eq_zero (by rw [hy]; exact q))
    omega
theorem repl_gap {x y : Str} {z : List Nat} (hw : y.cps.toList ≠ []) : ∀ (n a c : Nat), c - a = n → a ≤ c → c ≤ x.length → (∀ k, a ≤ k → k < c → ¬ StrLaws.At x y x.length k) → repl y.cps.toList z (x.cps.toList.drop a) = (x.cps.toList.drop a).take (c - a) ++ repl y.cps.toList z (x.cps.toList.drop c)
  | 0, a, c, hn, hac, hc, _ => by
    have : a = c := by omega
    subst this
    simp
  | n + 1, a, c, hn, hac, hc, hno => by
    have hl : x.cps.toList.length = x.length := by simp [Str.length]
    have hlt : a < x.cps.toList.length := by omega
    have e : x.cps.toList.drop a = x.cps.toList[a] :: x.cps.toList.drop (a + 1) := List.drop_eq_getElem_cons hlt
    have hm : y.cps.toList.isPrefixOf (x.cps.toList[a] :: x.cps.toList.drop (a + 1)) = false := by
      rw [← e, Bool.eq_false_iff]
      intro q
      obtain ⟨r, hr⟩ := List.isPrefixOf_iff_prefix.mp q
      exact hno a (Nat.le_refl _) (by omega) ((at_pre hw).mpr ⟨r, hr.symm⟩)
    have ih := repl_gap hw n (a + 1) c (by omega) (by omega) hc (fun k h1 h2 => hno k (by omega) h2) (z := z)
    rw [e, repl_miss hm, ih, show c - a = (c - (a + 1)) + 1 by omega, List.take_succ_cons]
    rfl
/-- the parts between the cuts, from a -/
def partsFrom (x : Str) (w : Nat) : Nat → List Nat → List (List Nat)
  | a, [] => [(x.cps.toList.drop a).take (x.length - a)]
  | a, c :: r => (x.cps.toList.drop a).take (c - a) :: partsFrom x w (c + w) r
def glue (z : List Nat) : List (List Nat) → List Nat
  | [] => []
  | [p] => p
  | p :: q :: r => p ++ (z ++ glue z (q :: r))
theorem glue_parts {x y : Str} {z : List Nat} (hw : y.cps.toList ≠ []) : ∀ (cuts : List Nat) (a f : Nat), a ≤ x.length → StrLaws.ChainG x y x.length a cuts f → (∀ k, f ≤ k → ¬ StrLaws.At x y x.length k) → glue z (partsFrom x y.length a cuts) = repl y.cps.toList z (x.cps.toList.drop a)
  | [], a, f, ha, h, hno => by
    have hl : x.cps.toList.length = x.length := by simp [Str.length]
    have e : f = a := h
    subst e
    rw [repl_gap hw _ f x.length rfl ha (Nat.le_refl _) fun k h1 _ => hno k h1, ← hl, List.drop_length]
    show (x.cps.toList.drop f).take (x.length - f) = _
    rw [← hl]
    simp [repl_nil]
  | c :: r, a, f, ha, h, hno => by
    obtain ⟨h1, h2, h3, h4⟩ := h
    have hy : y.cps.toList.length = y.length := by simp [Str.length]
    have hcl : c + y.length ≤ x.length := h2.1
    have ih := glue_parts hw r (c + y.length) f hcl h4 hno (z := z)
    obtain ⟨rr, hr⟩ := (at_pre hw).mp h2
    have hd : x.cps.toList.drop (c + y.length) = rr := by rw [← List.drop_drop, hr, ← hy, List.drop_left]
    have ep : ∃ q qs, partsFrom x y.length (c + y.length) r = q :: qs := by
      cases r with
      | nil => exact ⟨_, _, rfl⟩
      | cons d r => exact ⟨_, _, rfl⟩
    obtain ⟨q, qs, eq⟩ := ep
    show glue z ((x.cps.toList.drop a).take (c - a) :: partsFrom x y.length (c + y.length) r) = _
    rw [eq]
    show _ ++ (z ++ glue z (q :: qs)) = _
    rw [← eq, ih, repl_gap hw _ a c rfl h1 (by omega) h3, hr, hd]
    cases hyl : y.cps.toList with
    | nil => exact absurd hyl hw
    | cons u us =>
      rw [show u :: us ++ rr = (u :: us) ++ rr from rfl, show repl (u :: us) z (u :: us ++ rr) = z ++ repl (u :: us) z rr from repl_hit]
theorem parts_eq (x : Str) (w : Nat) : ∀ (cuts : List Nat) (a : Nat), (((a :: cuts.map (· + w)).zip (cuts ++ [x.length])).map fun (i, j) => strSub x i j).map (fun p => p.cps.toList) = partsFrom x w a cuts
  | [], a => by
    show [(strSub x a x.length).cps.toList] = _
    rw [StrLaws.strSub_toList]
    rfl
  | c :: r, a => by
    show (strSub x a c).cps.toList :: _ = _
    rw [StrLaws.strSub_toList]
    show _ :: (List.map (fun p => p.cps.toList) (List.map (fun (i, j) => strSub x i j) (((c + w) :: r.map (· + w)).zip (r ++ [x.length])))) = _
    rw [parts_eq x w r (c + w)]
    rfl
theorem glued_eq (z : Str) : ∀ (ps : List Str) (p : Str), (glued z (p :: ps)).cps.toList = glue z.cps.toList ((p :: ps).map fun p => p.cps.toList) := by
  have h : ∀ (ps : List Str) (acc : Array Nat), (ps.foldl (fun acc p => acc ++ z.cps ++ p.cps) acc).toList = glue z.cps.toList (acc.toList :: ps.map fun p => p.cps.toList) := fun ps => by
    induction ps with
    | nil => intro acc; rfl
    | cons q ps ih =>
      intro acc
      rw [List.foldl_cons, ih]
      cases ps with
      | nil => simp [glue]
      | cons r ps => simp [glue]
  intro ps p
  exact h ps p.cps
/-- str.replace, as a list function -/
theorem replace_list {x y z : Str} (hw : y.cps.toList ≠ []) : (Txt.replace x y z).cps.toList = repl y.cps.toList z.cps.toList x.cps.toList := by
  have hy : y.cps.toList.length = y.length := by simp [Str.length]
  have hy1 : 1 ≤ y.length := by
    rw [← hy]
    exact List.length_pos_iff.mpr hw
  obtain ⟨f, hch, hno⟩ := StrLaws.occ_tight x y hy1
  have main := glue_parts (z := z.cps.toList) hw _ 0 f (Nat.zero_le _) hch hno
  rw [List.drop_zero] at main
  have hyn : (y.length == 0) = false := beq_false_of_ne (by omega)
  unfold Txt.replace
  rw [hyn, Bool.false_and, Bool.or_false]
  cases hc : occurrences x y 0 x.length (x.length + 1) with
  | nil =>
    rw [hc] at main
    rw [if_pos (show ([] : List Nat).isEmpty = true from rfl), ← main]
    show _ = (x.cps.toList.drop 0).take (x.length - 0)
    rw [List.drop_zero, Nat.sub_zero, List.take_of_length_le (by simp [Str.length])]
  | cons c r =>
    rw [if_neg (by simp), ← main, hc]
    show (glued z (partsBetween x (c :: r) y.length)).cps.toList = _
    have e := parts_eq x y.length (c :: r) 0
    unfold partsBetween
    rw [← e]
    exact glued_eq z _ _
/-- the last sign -/
theorem slice_last (z : Str) : (Txt.slice z (some (-1)) none).cps.toList = z.cps.toList.drop (z.length - 1) := by
  have hl : z.cps.toList.length = z.length := by simp [Str.length]
  by_cases h : z.length = 0
  · have h1 := Txt.slice_le z (some (-1)) none
    have e1 : (Txt.slice z (some (-1)) none).cps.toList = [] := List.eq_nil_of_length_eq_zero (by
      have : (Txt.slice z (some (-1)) none).cps.toList.length = (Txt.slice z (some (-1)) none).length := by simp [Str.length]
      omega)
    have e2 : z.cps.toList = [] := List.eq_nil_of_length_eq_zero (by omega)
    rw [e1, e2, List.drop_nil]
  · have e := beq_iff_eq.mp (PyProof.Rows.slice_closes_from_neg (x := z) (i := -1) (a := -1 + (z.length : Int)) (b := (z.length : Int)) (by decide) (by omega) rfl rfl)
    rw [e]
    show ((z.cps.toList.drop (-1 + (z.length : Int)).toNat).take ((z.length : Int) - (-1 + (z.length : Int))).toNat).toArray.toList = _
    rw [List.toList_toArray, show (-1 + (z.length : Int)).toNat = z.length - 1 by omega, show ((z.length : Int) - (-1 + (z.length : Int))).toNat = 1 by omega, List.take_of_length_le (by rw [List.length_drop]; omega)]
theorem last_iff (z : Str) (c : Nat) : z.cps.toList.drop (z.length - 1) = [c] ↔ z.cps.toList.getLast? = some c := by
  have hl : z.cps.toList.length = z.length := by simp [Str.length]
  generalize z.cps.toList = l at hl ⊢
  rw [← hl]
  rcases List.eq_nil_or_concat l with rfl | ⟨m, x, rfl⟩
  · simp
  · simp
end NC
/-! ### the counter of tokens never falls -/
namespace NC
open PySem
theorem runs_toks {M : Model} {Γ : Ctx} {p : Pos} {t : Sem Fin} {fs : List Frame} {s : Shared} {e : End} {s' : Shared} (h : Runs M Γ p t fs s e s') : s.toks ≤ s'.toks := by
  induction h with
  | done => exact Nat.le_refl _
  | raise => exact Nat.le_refl _
  | yield => exact Nat.le_refl _
  | fresh _ ih => exact Nat.le_trans (Nat.le_succ _) ih
  | call _ _ i1 i2 => exact Nat.le_trans i1 i2
  | resumeFresh _ _ _ _ i1 i2 => exact Nat.le_trans i1 i2
  | resumeSuspended _ _ _ _ i1 i2 => exact Nat.le_trans i1 i2
  | segRet _ _ i1 i2 => exact Nat.le_trans i1 i2
  | segGen _ _ i1 i2 => exact Nat.le_trans i1 i2
  | segSuspGen _ _ _ _ i1 i2 => exact Nat.le_trans i1 i2
  | _ => assumption
theorem wakes_toks {M : Model} {Γ : Ctx} {p : Pos} {g : Nat} {r : Resume} {s : Shared} {res : GenResult} {s' : Shared} (h : Wakes M Γ p g r s res s') : s.toks ≤ s'.toks := by
  unfold Wakes at h
  split at h
  · exact h.elim
  · split at h
    · obtain ⟨e₁, s₁, h1, _, _, rfl⟩ := h
      have q := runs_toks h1
      exact q
    · obtain ⟨_, rfl⟩ := h
      exact Nat.le_refl _
    · obtain ⟨_, rfl⟩ := h
      exact Nat.le_refl _
  · obtain ⟨e₁, s₁, h1, _, _, rfl⟩ := h
    have q := runs_toks h1
    exact q
  all_goals (obtain ⟨_, rfl⟩ := h; exact Nat.le_refl _)
theorem wp_toks {α : Type} (M : Model) (Γ : Ctx) (n : Nat) : ∀ (m : Sem α) (Q : α → Pos → Shared → Prop) (E : Value → Pos → Shared → Prop) (p : Pos) (s : Shared), n ≤ s.toks → Sem.wp M Γ m Q E p s →
    Sem.wp M Γ m (fun a p' s' => Q a p' s' ∧ n ≤ s'.toks) (fun e p' s' => E e p' s' ∧ n ≤ s'.toks) p s := by
  intro m Q E
  induction m with
  | pure a => intro p s hn h; exact ⟨h, hn⟩
  | raise e => intro p s hn h; exact ⟨h, hn⟩
  | fresh k ih => intro p s hn h; exact ih _ p _ (Nat.le_succ_of_le hn) h
  | load a _ k ih => intro p s hn h; obtain ⟨o, ho, h⟩ := h; exact ⟨o, ho, ih o p s hn h⟩
  | update a _ f k ih => intro p s hn h; exact ⟨h.1, ih () p _ hn h.2⟩
  | choose src n' k ih => intro p s hn h; exact ⟨h.1, ih _ p _ hn h.2⟩
  | call c h' _ _ k ih => intro p s hn h; obtain ⟨r, s', h1, h2⟩ := h; exact ⟨r, s', h1, ih r p s' (Nat.le_trans hn (runs_toks h1)) h2⟩
  | genState g k ih => intro p s hn h; obtain ⟨st, hs, h⟩ := h; exact ⟨st, hs, ih _ p s hn h⟩
  | resume g r _ k ih => intro p s hn h; obtain ⟨res, s', h1, h2⟩ := h; exact ⟨res, s', h1, ih res p s' (Nat.le_trans hn (wakes_toks h1)) h2⟩
  | unsupported _ => intro p s hn h; exact h
  | finish _ => intro p s hn h; exact h
  | register _ _ _ => intro p s hn h; exact h
  | yield _ _ _ _ _ => intro p s hn h; exact h
  | fork _ _ _ => intro p s hn h; exact h
  | await _ _ _ _ _ _ => intro p s hn h; exact h
  | rule _ k ih => intro p s hn h; exact ih () p s hn h
  | «at» p' k ih => intro p s hn h; exact ih () p' s hn h
  | loadIfAlive a k ih => intro p s hn h; exact ih _ p s hn h
  | point _ k ih => intro p s hn h; exact ih () p s hn h
  | alloc o k ih => intro p s hn h; exact ih _ p _ hn h
  | ask k ih => intro p s hn h; exact ih _ p s hn h
  | os q _ k ih => intro p s hn h; exact ih _ p _ hn h
  | handled own k ih => intro p s hn h; exact ih _ p s hn h
  | newGen c k ih => intro p s hn h; exact ih _ p _ hn h
  | stack k ih => intro p s hn h; exact ih _ p s hn h
  | thread k ih => intro p s hn h; exact ih _ p s hn h
/-- what is to be shown behind a tree may take the counter's bound for granted -/
theorem wpAny_toks {α : Type} {M : Model} {A : Around} {m : Sem α} {Q : α → Shared → Prop} {E : Value → Shared → Prop} {s : Shared} (h : wpAny M A m (fun a s' => s.toks ≤ s'.toks → Q a s') (fun e s' => s.toks ≤ s'.toks → E e s') s) : wpAny M A m Q E s :=
  fun Γ p hΓ => Sem.wp_mono M Γ m (fun _ _ _ z => z.1 z.2) (fun _ _ _ z => z.1 z.2) p s (wp_toks M Γ s.toks m _ _ p s (Nat.le_refl _) (h Γ p hΓ))
end NC
/-! ### statements that want the counter of tokens above 0 -/
namespace NC
open PySem PySem.Spec PyProof.Rows L2
def PEp (X : Cx) (e : Expr) (t : TE) : Prop :=
  ∀ (pins : List (Addr × Obj)) (s : Shared) (σ : L2.St) (H : Hp) (Q : VK), Inv X pins σ H s → 0 < s.toks → t σ H Q → wpAny (model X.prog X.w) X.A (eval e X.env) (EP X pins σ Q) X.xe s
def PSp (X : Cx) (st : Stmt) (t : TS) : Prop :=
  ∀ (pins : List (Addr × Obj)) (s : Shared) (σ : L2.St) (H : Hp) (D : Ends), Inv X pins σ H s → 0 < s.toks → t D σ H → wpAny (model X.prog X.w) X.A (exec st X.env) (SP X pins D) X.xe s
def PSsp (X : Cx) (st : List Stmt) (t : TS) : Prop :=
  ∀ (pins : List (Addr × Obj)) (s : Shared) (σ : L2.St) (H : Hp) (D : Ends), Inv X pins σ H s → 0 < s.toks → t D σ H → wpAny (model X.prog X.w) X.A (execs st X.env) (SP X pins D) X.xe s
theorem thnp {α : Type} {t : Sem α} {Q Q' : α → Shared → Prop} {M : Model} {A : Around} {E : Value → Shared → Prop} {s : Shared} (hp : 0 < s.toks) (h : wpAny M A t Q E s) (hQ : ∀ a s', Q a s' → 0 < s'.toks → Q' a s') : wpAny M A t Q' E s :=
  wpAny_toks (wpAny_mono h (fun a s' q le => hQ a s' q (Nat.lt_of_lt_of_le hp le)) fun _ _ z _ => z)
section
variable {X : Cx} {st : Stmt} {rest : List Stmt} {t u : TS} {e : Expr} {te : TE} {pos : Pos}
theorem pep_of (h : PE X e te) : PEp X e te := fun pins s σ H Q I _ q => h pins s σ H Q I q
theorem psp_of (h : PS X st t) : PSp X st t := fun pins s σ H D I _ q => h pins s σ H D I q
theorem pssp_cons (h1 : PSp X st t) (h2 : PSsp X rest u) : PSsp X (st :: rest) (tSeq t u) := by
  intro pins s σ H D I hp h
  refine wpAny_execs_cons (thnp hp (h1 pins s σ H { D with nx := u D } I hp h) fun f s1 q hp1 => ?_)
  cases f with
  | next =>
    obtain ⟨σ', H', I', q⟩ := q
    exact h2 pins s1 σ' H' D I' hp1 q
  | ret v => exact q
  | brk => exact q
  | cont => exact q
theorem pssp_one (h1 : PSp X st t) : PSsp X [st] t := by
  intro pins s σ H D I hp h
  refine wpAny_execs_cons (thn (h1 pins s σ H D I hp h) fun f s1 q => ?_)
  cases f with
  | next => exact wpAny_execs_nil q
  | ret v => exact q
  | brk => exact q
  | cont => exact q
theorem psp_set {i : Nat} {x : Str} {pos' : Pos} (hN : X.N.Nodup) (hi : X.N[i]? = some x) (hx : Loc X.env.scope x) (he : PEp X e te) (hs : swapsWith e (some (.Name x pos')) pos.line X.env = pure false := by rfl) (hf : X.fn x = true ∨ X.env.scope.names.lookup x = some .local := by first | exact .inl rfl | exact .inr rfl | assumption) :
    PSp X (.Assign [.Name x pos'] e pos) (tAsg te (gName i)) := by
  intro pins s σ H D I hp h
  refine wpAny_Assign_Name (thn (he pins s σ H _ I hp h) fun v s1 ⟨y, H1, I1, r1, q1⟩ => ?_) hs
  exact store_ok I1 hN hi hx r1 (fun s2 I2 => ⟨_, H1, I2, q1⟩) hf
/-- a text that is set makes a token: from there on the counter is above 0 -/
theorem pss_tok {i j : Nat} {x c : Str} {pos' p1 : Pos} (hN : X.N.Nodup) (hi : X.N[i]? = some x) (hx : Loc X.env.scope x) (h2 : PSsp X rest u) (hs : swapsWith (.Constant (.str c) j p1) (some (.Name x pos')) pos.line X.env = pure false := by rfl) (hf : X.fn x = true ∨ X.env.scope.names.lookup x = some .local := by first | exact .inl rfl | exact .inr rfl | assumption) :
    PSs X (.Assign [.Name x pos'] (.Constant (.str c) j p1) pos :: rest) (tSeq (tAsg (tC (.str c)) (gName i)) u) := by
  intro pins s σ H D I h
  refine wpAny_execs_cons (wpAny_Assign_Name (Calls.Constant_str ?_) hs)
  refine thnp (Q := fun _ s2 => ∃ σ' H', Inv X pins σ' H' s2 ∧ u D σ' H') (Nat.succ_pos _) (store_ok (I.tok _) hN hi hx (v := .str c) ⟨_, rfl⟩ (fun s2 I2 => ⟨_, H, I2, h⟩) hf) fun _ s1 ⟨σ', H', I', q⟩ hp1 => ?_
  exact h2 pins s1 σ' H' D I' hp1 q
/-- x.replace('..', '..') -/
inductive RReplI (y z : Str) (v : V) (H : Hp) (Q : VK) : Prop where
  | mk (x : Str) (c1 : v = .str x) (c2 : x.length ≤ 1000000) (c3 : z.length ≤ 14) (c4 : (y == z) = false) (c5 : Q (.str (Txt.replace x y z)) H)
def tRepl (y z : Str) (to : TE) : TE := fun σ H Q => to σ H fun v H1 => RReplI y z v H1 Q
theorem pep_repl {o : Expr} {to : TE} {y z : Str} {k1 k2 : Nat} {p1 p2 apos cpos : Pos} (ho : PEp X o to)
    (hbase : attributeBase o "replace" X.env (eval o X.env) = eval o X.env := by rfl)
    (hfew : ((backTo cpos (starEach [.Constant (.str y) k1 p1, .Constant (.str z) k2 p2] X.env)).all (fun x => !x.1) && (backToKw cpos (keywordEach [] X.env)).all (fun x => x.1.isSome)
      && decide ([Expr.Constant (.str y) k1 p1, .Constant (.str z) k2 p2].length + ([] : List Keyword).length + (if ([] : List Keyword).isEmpty then 0 else 1) < 30)) = true := by rfl)
    (hline : (apos.endLine == cpos.line) = true := by rfl) :
    PEp X (.Call (.Attribute o "replace" apos) [.Constant (.str y) k1 p1, .Constant (.str z) k2 p2] [] cpos) (tRepl y z to) := by
  intro pins s σ H Q I hp h
  refine wpAny_Call_method_late hbase hfew hline rfl (thnp hp (ho pins s σ H _ I hp h) fun v s1 ⟨x, H1, I1, r1, xs, ex, hx, hz, hyz, q1⟩ hp1 => ?_)
  subst ex
  obtain ⟨t, rfl⟩ := r1
  refine ⟨"str", "str.replace", F.plainAttrs_str, F.slot_str_replace, F.type_str_replace, typeIs_str _ _ _, fun a e => (by cases e), ?_⟩
  have e1 : starEach [Expr.Constant (.str y) k1 p1, .Constant (.str z) k2 p2] X.env = [(false, eval (.Constant (.str y) k1 p1) X.env), (false, eval (.Constant (.str z) k2 p2) X.env)] := rfl
  rw [e1]
  refine Calls.callWith_builtin rfl (Calls.evalArgs_plain ?_)
  show wpAny _ _ (spliced ((false, eval (.Constant (.str y) k1 p1) X.env) :: backTo cpos [(false, eval (.Constant (.str z) k2 p2) X.env)])) _ _ s1
  refine Calls.spliced_cons (Calls.Constant_str ?_)
  show wpAny _ _ (spliced [(false, eval (.Constant (.str z) k2 p2) X.env)]) _ _ _
  refine Calls.spliced_cons (Calls.Constant_str (Calls.spliced_nil ?_))
  refine SC.replaceW (u := s1.toks) (v := s1.toks + 1) (Nat.ne_of_gt hp1) (Nat.succ_ne_zero _) (Nat.ne_of_lt (Nat.lt_succ_self _)) hyz (by omega) hz fun t' k => ?_
  exact ⟨.str _, H1, I1.tok _, ⟨_, rfl⟩, q1⟩
/-- for, over what PI says, the body wanting the counter above 0 -/
theorem psp_for {tg iter : Expr} {body : List Stmt} {wi : TI} {g : TG} {tb : TS} (hpo : PassesOwn (model X.prog X.w) X.A X.env X.xe) (hc : X.calm = true) (hi : PI X tg iter wi) (hg : PG X tg g) (hb : PSsp X body tb)
    (hs : ∀ x, foldedSetIterable iter X.env x = pure x := by intro _; rfl) : PSp X (.For tg iter body [] pos) (tFor wi g tb) := by
  intro pins s σ H D I hp h
  refine wpAny_For (thnp hp (hi pins s σ H _ I h) fun v s1 h1 hp1 => thnp hp1 h1 fun itv s2 h2 hp2 => ?_) hs
  obtain ⟨it, fp, tn, J, H2, e, I2, T, st2, f2, W, ⟨m0, w0⟩, turn⟩ := h2
  subst e
  have stat : ∀ {H' : Hp}, (∀ b ∈ fp, H' b = none) → ∀ b ∈ fp, FpOk X pins H' b := fun hn b hb => ⟨hn b hb, (f2 b hb).2⟩
  refine codeAny_forLoop_any (fun n s' => 0 < s'.toks ∧ ∃ i σ' H', Inv X pins σ' H' s' ∧ tn i s'.heap ∧ (∀ b ∈ fp, H' b = none) ∧ W i n σ' H') ?_ m0 ⟨hp2, 0, σ, H2, I2, st2, fun b hb => (f2 b hb).1, w0⟩
  rintro n s3 ⟨hp3, i, σ3, H3, I3, st3, fr3, w3⟩
  rcases turn i n σ3 H3 w3 with ⟨stop, qn⟩ | ⟨go, N, hN, step⟩
  · refine wpAny_passesOwn hpo (thn (T.done X rfl rfl rfl hc i pins s3 σ3 H3 X.xe I3 (stat fr3) st3 stop) fun r s4 ⟨hr, I4⟩ => ?_)
    subst hr
    exact wpAny_execs_nil ⟨σ3, H3, I4, qn⟩
  · refine wpAny_passesOwn hpo (thnp hp3 (T.item X rfl rfl rfl hc i pins s3 σ3 H3 X.xe I3 (stat fr3) st3 go) fun r s4 ⟨u, hr, h4⟩ hp4 => ?_)
    subst hr
    refine wpAny_passesOwn hpo (thnp hp4 h4 fun _ s5 ⟨x, H5, I5, r5, y5, st5, fr5⟩ hp5 => ?_)
    have I5' := I5.pinned (stat fr5) (T.obj _ _ st5)
    refine wpAny_passesOwn hpo (thnp hp5 (hg _ s5 σ3 H5 x u _ I5' r5 (step x H5 y5)) fun _ s6 ⟨σ6, H6, I6, q6⟩ hp6 => ?_)
    refine wpAny_passesOwn hpo (thnp hp6 (hb _ s6 σ6 H6 _ I6 hp6 q6) fun f s7 q7 hp7 => ?_)
    have again : ∀ {σ7 : L2.St} {H7 : Hp}, Inv X (pins ++ pinsAt fp s5.heap) σ7 H7 s7 → N σ7 H7 → ∃ m, m < n ∧ 0 < s7.toks ∧ ∃ i σ' H', Inv X pins σ' H' s7 ∧ tn i s7.heap ∧ (∀ b ∈ fp, H' b = none) ∧ W i m σ' H' := fun {σ7 H7} I7 n7 => by
      obtain ⟨m', hm, w7⟩ := hN σ7 H7 n7
      refine ⟨m', hm, hp7, i + 1, σ7, H7, I7.unpinned, T.keep _ _ _ st5 fun b hb o e => (I7.pin (b, o) (List.mem_append_right _ (List.mem_append_right _ (mem_pinsAt hb e)))).1, fun b hb => ?_, w7⟩
      obtain ⟨o, e, d⟩ := T.obj _ _ st5 b hb
      exact (I7.pin (b, o) (List.mem_append_right _ (List.mem_append_right _ (mem_pinsAt hb e)))).2.1
    cases f with
    | next => obtain ⟨σ7, H7, I7, n7⟩ := q7; exact again I7 n7
    | cont => obtain ⟨σ7, H7, I7, n7⟩ := q7; exact again I7 n7
    | brk => obtain ⟨σ7, H7, I7, q7⟩ := q7; exact ⟨σ7, H7, I7.unpinned, q7⟩
    | ret v => obtain ⟨x7, σ7, H7, I7, r7, q7⟩ := q7; exact ⟨x7, σ7, H7, I7.unpinned, r7, q7⟩
end
end NC
/-! ### the defs of the text -/
namespace NC
open PySem PySem.Spec PyProof.Rows L2
def top (i : Nat) : Stmt := PySem.Challenge.pw_namecall_k10_lines_read_or_refused.main.body.getD i (.Pass ⟨0, 0, 0, 0⟩)
/-- the built-in names that the text leaves alone -/
structure NoNames (mg : Str → Option Value) : Prop where
  len : mg "len" = none
  abs : mg "abs" = none
  isinstance : mg "isinstance" = none
  tuple : mg "tuple" = none
  str : mg "str" = none
  range : mg "range" = none
  int : mg "int" = none
  bool : mg "bool" = none
  ValueError : mg "ValueError" = none
section
variable {P : Program} {w : World} {K : PySem.W.Frag} {mg : Str → Option Value} {base : Heap}
seal L2.PE L2.PA L2.PT L2.PS L2.PSs L2.PW L2.PG L2.PGs L2.PI L2.PO L2.OpR L2.UnR L2.CallR L2.TruR L2.IxR L2.SlR
abbrev s__law_any_word : Stmt := top 18
theorem sc__law_any_word : FnScope ["_law_cell", "_law_left", "_law_word"] ["_law_cell"] (defScope s__law_any_word) := ⟨rfl, rfl, rfl, by decide +kernel, rfl, by decide +kernel, by decide +kernel⟩
theorem word_bound {k L : Nat} (h : 26 ^ k * L ≤ 10 ^ 39) (hL : 1 ≤ L) : k ≤ 28 := by
  refine Nat.le_of_not_lt fun z => ?_
  have h1 : 26 ^ 28 ≤ 26 ^ k := Nat.pow_le_pow_right (by decide) (by omega)
  have h2 : 26 ^ k * 1 ≤ 26 ^ k * L := Nat.mul_le_mul_left _ hL
  have h3 : ¬ (26 ^ 28 ≤ 10 ^ 39) := by decide +kernel
  omega
end
end NC
/-! ### the law's own raising and filling -/
namespace NC
open PySem PySem.Spec PyProof.Rows L2
/-- a pile of terms, the top ahead -/
def PileAt (H : Hp) (p : Addr) (vs : List V) (S : List Tm) : Prop := H p = some (.lst vs) ∧ Paired (TermAt H) vs S.reverse
theorem PileAt.pop {H : Hp} {p : Addr} {vs : List V} {S : List Tm} {x : Tm} (h : PileAt H p vs (x :: S)) : ∃ vs' v, vs = vs' ++ [v] ∧ TermAt H v x ∧ Paired (TermAt H) vs' S.reverse := by
  have q := h.2
  rw [List.reverse_cons] at q
  obtain ⟨vs', v, e, r, tv⟩ := paired_snoc_inv q
  exact ⟨vs', v, e, tv, r⟩
theorem PileAt.same {H H' : Hp} {p : Addr} {vs : List V} {S : List Tm} (h : PileAt H p vs S) (s : Same H H') : PileAt H' p vs S := ⟨s _ _ h.1, paired_imp (fun _ _ q => q.same s) h.2⟩
theorem PileAt.len {H : Hp} {p : Addr} {vs : List V} {S : List Tm} (h : PileAt H p vs S) : vs.length = S.length := by rw [Paired.length h.2, List.length_reverse]
section
variable {P : Program} {w : World} {K : PySem.W.Frag} {mg : Str → Option Value} {base : Heap}
seal L2.PE L2.PA L2.PT L2.PS L2.PSs L2.PW L2.PG L2.PGs L2.PI L2.PO L2.OpR L2.UnR L2.CallR L2.TruR L2.IxR L2.SlR
abbrev s__law_at : Stmt := top 10
theorem sc__law_at : FnScope ["_law_script", "_law_k"] ["_law_script", "_law_k"] (defScope s__law_at) := ⟨rfl, rfl, rfl, by decide +kernel, rfl, by decide +kernel, by decide +kernel⟩
inductive Sp_latI (K : PySem.W.Frag) (vs : List V) (H : Hp) (Q : VK) : Prop where
  | mk (a : _) (ns : List Int) (k : Nat) (c1 : vs = [.ref a, .int (k : Int)]) (c2 : SqL K H a (ns.map V.int)) (c3 : ns.length ≤ 63) (c4 : ∀ i, Q (.int i) H)
def sp_lat (K : PySem.W.Frag) : Sp := fun vs H Q u3_ => Sp_latI K vs H Q
theorem ok__law_at {f : Addr} {fd : FuncData} (F : Fun K "_law_at" "_law_at" s__law_at f fd) (N_ : NoNames mg) : FnOk P w K mg base CX0 1 f fd ["_law_script", "_law_k"] (sp_lat K) := by
  refine F.ok sc__law_at (fun vs H Q E h => ?_) (fun cdv A outer s H vs Q E hr h => ?_)
  · obtain ⟨a, ns, n, rfl, _⟩ := h
    rfl
  · obtain ⟨a, ns, n, rfl, hS, hl, k⟩ := h
    refine ⟨_, (pss_cons (ps_if (pt_cmpR op_lt (pv 1) (pCB call_len_seq (by rfl) N_.len boot_len (pa_c (pv 0) pa_nil)) (nomark _)) (pss_one (ps_ret (pe_ix ix_list (pv 0) (pv 1) (fun _ _ => rfl)))) pss_nil)
      (pss_one (ps_ret pe_int))), ?_⟩
    show (let V1_ : TS := _; let V2_ : TS := _; tSeq (tIfS _ V2_ _) V1_ _ _ _)
    intro V1_ V2_
    refine ⟨_, rfl, _, rfl, _, _, rfl, Or.inl hS, _, _, rfl, rfl, _, rfl, ifD (fun hlt => ?_) (fun _ => k 0)⟩
    rw [List.length_map] at hlt
    have hlt : n < ns.length := by omega
    exact ⟨_, rfl, _, rfl, _, _, _, _, rfl, rfl, hS, (atI_nat (j := n) (by rw [List.getElem?_map, List.getElem?_eq_getElem hlt]; rfl)), k _⟩
end
end NC
/-! ### named terms written as lines -/
namespace NC
open PySem PySem.Spec PyProof.Rows L2
def NT.cost : NT → Nat
  | .name _ => 1
  | .form _ b => b.cost + 3
  | .call a b => a.cost + b.cost + 4
theorem NT.cost_le : ∀ t : NT, t.cost ≤ 4 * t.size
  | .name _ => by simp [NT.cost, NT.size]
  | .form _ b => by have := b.cost_le; simp only [NT.cost, NT.size]; omega
  | .call a b => by have h1 := a.cost_le; have h2 := b.cost_le; simp only [NT.cost, NT.size]; omega
theorem NT.cost_pos : ∀ t : NT, 1 ≤ t.cost
  | .name _ => Nat.le_refl _
  | .form _ b => by simp only [NT.cost]; omega
  | .call a b => by simp only [NT.cost]; omega
abbrev Pc := Sum Str NT
def pcAt (H : Hp) (v : V) : Pc → Prop
  | .inl s => v = .str s
  | .inr t => NamedAt H v t
theorem pcAt.mono {H H' : Hp} {v : V} {p : Pc} (h : pcAt H v p) (k : Tups H H') : pcAt H' v p := by
  cases p with
  | inl s => exact h
  | inr t => exact NamedAt.mono h k
def pcL : Pc → List Nat
  | .inl s => s.cps.toList
  | .inr t => t.line
def pcC : Pc → Nat
  | .inl _ => 1
  | .inr t => t.cost
theorem pcC_pos (p : Pc) : 1 ≤ pcC p := by
  cases p with
  | inl s => exact Nat.le_refl _
  | inr t => exact t.cost_pos
def pendT (its : List Pc) : List Nat := its.reverse.flatMap pcL
theorem pendT_snoc (its : List Pc) (q : Pc) : pendT (its ++ [q]) = pcL q ++ pendT its := by
  unfold pendT
  rw [List.reverse_append]
  rfl
def costs (its : List Pc) : Nat := (its.map pcC).sum
theorem costs_snoc (its : List Pc) (q : Pc) : costs (its ++ [q]) = costs its + pcC q := by
  unfold costs
  rw [List.map_append, List.sum_append]
  simp
theorem len_costs : ∀ its : List Pc, its.length ≤ costs its
  | [] => Nat.le_refl _
  | q :: r => by
    have := len_costs r
    have h := pcC_pos q
    show r.length + 1 ≤ pcC q + costs r
    omega
theorem sum_flat : ∀ ws : List Str, (ws.map (·.length)).sum = (ws.flatMap (·.cps.toList)).length
  | [] => rfl
  | w :: ws => by
    rw [List.map_cons, List.sum_cons, List.flatMap_cons, List.length_append, sum_flat ws]
    rfl
theorem s_col : (Str.ofString ":").cps.toList = [58] := by decide +kernel
theorem s_opn : (Str.ofString "(").cps.toList = [40] := by decide +kernel
theorem s_cls : (Str.ofString ")").cps.toList = [41] := by decide +kernel
theorem s_blk : (Str.ofString " ").cps.toList = [32] := by decide +kernel
section
variable {P : Program} {w : World} {K : PySem.W.Frag} {mg : Str → Option Value} {base : Heap}
seal L2.PE L2.PA L2.PT L2.PS L2.PSs L2.PW L2.PG L2.PGs L2.PI L2.PO L2.OpR L2.UnR L2.CallR L2.TruR L2.IxR L2.SlR
end
end NC
/-! ### lines read -/
namespace NC
open PySem PySem.Spec PyProof.Rows L2
theorem length_putF_in (f : Str) (v : V) : ∀ (fs : List (Str × V)) (x : V), fs.lookup f = some x → (putF f v fs).length = fs.length
  | [], x, h => by cases h
  | (g, y) :: r, x, h => by
    unfold putF
    split
    · rfl
    · rename_i hne
      rw [List.lookup_cons] at h
      have : (f == g) = false := by simpa using fun z => hne z.symm
      rw [this] at h
      show (putF f v r).length + 1 = r.length + 1
      rw [length_putF_in f v r x h]
def rdMeths : List Str := ["is_over", "take", "need", "take_word", "next_name", "ended"]
structure RdCls (K : PySem.W.Frag) (C : Addr) : Prop where
  cl : Cls K C
  nL : NoAttr K C "line"
  nA : NoAttr K C "at"
  nB : NoAttr K C "begun"
/-- the object alone -/
structure RdO (C x bg : Addr) (L : Str) (p : Nat) (dx : Addr) (fs : List (Str × V)) (H : Hp) : Prop where
  ins : H x = some (.ins C dx fs)
  line : fs.lookup ("line" : Str) = some (.str L)
  at_ : fs.lookup ("at" : Str) = some (.int (p : Int))
  begun : fs.lookup ("begun" : Str) = some (.ref bg)
  meth : ∀ m ∈ rdMeths, fs.lookup m = none
  few : fs.length < 900
def RdAt (C x bg : Addr) (L : Str) (p : Nat) (S : List Bg) (H : Hp) : Prop := ∃ dx fs vs, RdO C x bg L p dx fs H ∧ H bg = some (.lst vs) ∧ Paired (BgAt H) vs S.reverse
theorem RdO.keep {C x bg : Addr} {L : Str} {p : Nat} {dx : Addr} {fs : List (Str × V)} {H H' : Hp} (h : RdO C x bg L p dx fs H) (e : H' x = H x) : RdO C x bg L p dx fs H' := ⟨e.trans h.ins, h.line, h.at_, h.begun, h.meth, h.few⟩
/-- one further -/
theorem RdO.step {C x bg : Addr} {L : Str} {p : Nat} {dx : Addr} {fs : List (Str × V)} {H : Hp} (h : RdO C x bg L p dx fs H) : RdO C x bg L (p + 1) dx (putF ("at" : Str) (.int ((p : Int) + 1)) fs) (upd H x (.ins C dx (putF ("at" : Str) (.int ((p : Int) + 1)) fs))) := by
  refine ⟨upd_same, ?_, ?_, ?_, fun m hm => ?_, ?_⟩
  · rw [lookup_putF, if_neg (by decide +kernel)]; exact h.line
  · rw [lookup_putF, if_pos rfl]; rfl
  · rw [lookup_putF, if_neg (by decide +kernel)]; exact h.begun
  · rw [lookup_putF, if_neg ?_]
    · exact h.meth m hm
    · intro z
      rw [z] at hm
      exact absurd hm (by decide +kernel)
  · rw [length_putF_in _ _ _ _ h.at_]; exact h.few
theorem bg_ne {C x bg : Addr} {L : Str} {p : Nat} {dx : Addr} {fs : List (Str × V)} {H : Hp} {vs : List V} (h : RdO C x bg L p dx fs H) (hb : H bg = some (.lst vs)) : bg ≠ x := fun z => by
  have := h.ins
  rw [← z, hb] at this
  cases this
theorem upd_tups {H : Hp} {x C dx : Addr} {fs fs' : List (Str × V)} (h : H x = some (.ins C dx fs)) : Tups H (upd H x (.ins C dx fs')) := fun b xs e => by
  rw [upd_ne fun z => by rw [z, h] at e; cases e]
  exact e
/-- the reader one further, all else as it was -/
theorem RdAt.step {C x bg : Addr} {L : Str} {p : Nat} {S : List Bg} {dx : Addr} {fs : List (Str × V)} {vs : List V} {H : Hp} (h : RdO C x bg L p dx fs H) (hb : H bg = some (.lst vs)) (hp : Paired (BgAt H) vs S.reverse) :
    RdAt C x bg L (p + 1) S (upd H x (.ins C dx (putF ("at" : Str) (.int ((p : Int) + 1)) fs))) ∧ Keep [x] H (upd H x (.ins C dx (putF ("at" : Str) (.int ((p : Int) + 1)) fs))) :=
  ⟨⟨dx, _, vs, h.step, by rw [upd_ne (bg_ne h hb)]; exact hb, bgs_mono hp (upd_tups h.ins)⟩, fun b o nb e => by rw [upd_ne fun z => nb (by simp [z])]; exact e⟩
theorem one_eq {c c' : Nat} {sg : Str} (h : sg.cps.toList = [c]) : (V.str ⟨#[c']⟩ = V.str sg) ↔ c' = c := by
  constructor
  · intro z
    have := V.str.inj z
    rw [← this] at h
    have h' : [c'] = [c] := h
    exact (List.cons.inj h').1
  · intro z
    congr 1
    refine str_ext ?_
    rw [h, z]
section
variable {P : Program} {w : World} {K : PySem.W.Frag} {mg : Str → Option Value} {base : Heap}
seal L2.PE L2.PA L2.PT L2.PS L2.PSs L2.PW L2.PG L2.PGs L2.PI L2.PO L2.OpR L2.UnR L2.CallR L2.TruR L2.IxR L2.SlR
abbrev s_Reader___init__ : Stmt := inClass (top 7) 0
theorem sc_Reader___init__ : FnScope ["self", "line"] ["self", "line"] (defScope s_Reader___init__) := ⟨rfl, rfl, rfl, by decide +kernel, rfl, by decide +kernel, by decide +kernel⟩
abbrev s_Reader_is_over : Stmt := inClass (top 7) 1
theorem sc_Reader_is_over : FnScope ["self"] ["self"] (defScope s_Reader_is_over) := ⟨rfl, rfl, rfl, by decide +kernel, rfl, by decide +kernel, by decide +kernel⟩
abbrev s_Reader_take : Stmt := inClass (top 7) 2
theorem sc_Reader_take : FnScope ["self", "sign"] ["self", "sign"] (defScope s_Reader_take) := ⟨rfl, rfl, rfl, by decide +kernel, rfl, by decide +kernel, by decide +kernel⟩
abbrev s_Reader_need : Stmt := inClass (top 7) 3
theorem sc_Reader_need : FnScope ["self", "sign"] ["self", "sign"] (defScope s_Reader_need) := ⟨rfl, rfl, rfl, by decide +kernel, rfl, by decide +kernel, by decide +kernel⟩
abbrev s_Reader_take_word : Stmt := inClass (top 7) 4
theorem sc_Reader_take_word : FnScope ["self", "start"] ["self"] (defScope s_Reader_take_word) := ⟨rfl, rfl, rfl, by decide +kernel, rfl, by decide +kernel, by decide +kernel⟩
abbrev s_Reader_next_name : Stmt := inClass (top 7) 5
theorem sc_Reader_next_name : FnScope ["self", "word"] ["self"] (defScope s_Reader_next_name) := ⟨rfl, rfl, rfl, by decide +kernel, rfl, by decide +kernel, by decide +kernel⟩
abbrev s_Reader_ended : Stmt := inClass (top 7) 6
theorem sc_Reader_ended : FnScope ["self", "part", "over"] ["self", "part"] (defScope s_Reader_ended) := ⟨rfl, rfl, rfl, by decide +kernel, rfl, by decide +kernel, by decide +kernel⟩
abbrev s_read : Stmt := top 8
theorem sc_read : FnScope ["line", "reader", "term"] ["line"] (defScope s_read) := ⟨rfl, rfl, rfl, by decide +kernel, rfl, by decide +kernel, by decide +kernel⟩
inductive Sp_rinitI (C : Addr) (vs : List V) (H : Hp) (Q : VK) : Prop where
  | mk (x : _) (dx : _) (L : _) (c1 : vs = [.ref x, .str L]) (c2 : H x = some (.ins C dx [])) (c3 : ∀ bg H', H bg = none → RdAt C x bg L 0 [] H' → (∀ b o, b ≠ x → H b = some o → H' b = some o) → Q .non H')
def sp_rinit (C : Addr) : Sp := fun vs H Q u3_ => Sp_rinitI C vs H Q
theorem ok_rinit {f C : Addr} {fd : FuncData} (F : Fun K "__init__" "Reader.__init__" s_Reader___init__ f fd) (R : RdCls K C) : FnOk P w K mg base CX0 1 f fd ["self", "line"] (sp_rinit C) := by
  refine F.ok sc_Reader___init__ (fun vs H Q E h => ?_) (fun cdv A outer s H vs Q E hr h => ?_)
  · obtain ⟨x, dx, L, rfl, _⟩ := h
    rfl
  · obtain ⟨x, dx, L, rfl, hx, k⟩ := h
    refine ⟨_, (pss_cons (ps_fld (pv 0) (pv 1) rfl)
      (pss_cons (ps_fld (pv 0) pe_int rfl)
      (pss_one (ps_fld (pv 0) (pLst pa_nil) rfl)))), ?_⟩
    show (let V1_ : TS := _; let V2_ : TS := tSeq _ V1_; tSeq _ V2_ _ _ _)
    intro V1_ V2_
    refine ⟨_, rfl, _, rfl, x, C, dx, [], rfl, hx, R.cl, R.nL, by decide, ?_⟩
    refine ⟨_, rfl, x, C, dx, _, rfl, upd_same, R.cl, R.nA, by show 1 < 1000; decide, ?_⟩
    refine ⟨small' (by simp), fun bg H3 nb s3 hb3 => ⟨_, rfl, x, C, dx, _, rfl, s3 _ _ upd_same, R.cl, R.nB, by show 2 < 1000; decide, ?_⟩⟩
    have hbx : bg ≠ x := fun z => by rw [z, upd_same] at nb; cases nb
    refine k bg _ ?_ ⟨dx, _, [], ⟨upd_same, ?_, ?_, ?_, ?_, ?_⟩, by rw [upd_ne hbx]; exact hb3, .nil⟩ fun b o n e => ?_
    · rw [upd_ne hbx, upd_ne hbx] at nb; exact nb
    · rw [lookup_putF, if_neg (by decide +kernel), lookup_putF, if_neg (by decide +kernel), lookup_putF, if_pos rfl]
    · rw [lookup_putF, if_neg (by decide +kernel), lookup_putF, if_pos rfl]; rfl
    · rw [lookup_putF, if_pos rfl]
    · intro m hm
      have ne : ∀ z ∈ rdMeths, z ≠ "begun" ∧ z ≠ "at" ∧ z ≠ "line" := by decide +kernel
      obtain ⟨h1, h2, h3⟩ := ne m hm
      rw [lookup_putF, if_neg h1, lookup_putF, if_neg h2, lookup_putF, if_neg h3]
      rfl
    · refine Nat.lt_of_le_of_lt (length_putF _ _ _) (Nat.succ_lt_succ ?_ : _ < 899 + 1)
      refine Nat.lt_of_le_of_lt (length_putF _ _ _) (Nat.succ_lt_succ ?_ : _ < 898 + 1)
      refine Nat.lt_of_le_of_lt (length_putF _ _ _) (by decide)
    · rw [upd_ne n]
      refine s3 _ _ ?_
      rw [upd_ne n, upd_ne n]
      exact e
inductive Sp_roverI (C : Addr) (vs : List V) (H : Hp) (Q : VK) : Prop where
  | mk (x : _) (bg : _) (L : _) (p : _) (dx : _) (fs : _) (c1 : vs = [.ref x]) (c2 : RdO C x bg L p dx fs H) (c3 : L.length ≤ 500000) (c4 : Q (.bl (decide (p = L.length))) H)
def sp_rover (C : Addr) : Sp := fun vs H Q u3_ => Sp_roverI C vs H Q
theorem ok_rover {f C : Addr} {fd : FuncData} (F : Fun K "is_over" "Reader.is_over" s_Reader_is_over f fd) (N_ : NoNames mg) (R : RdCls K C) : FnOk P w K mg base CX0 1 f fd ["self"] (sp_rover C) := by
  refine F.ok sc_Reader_is_over (fun vs H Q E h => ?_) (fun cdv A outer s H vs Q E hr h => ?_)
  · obtain ⟨x, bg, L, p, dx, fs, rfl, _⟩ := h
    rfl
  · obtain ⟨x, bg, L, p, dx, fs, rfl, hx, hL, k⟩ := h
    refine ⟨_, (pss_one (ps_ret (pe_cmpR op_eq (pe_fld (pv 0) rfl) (pCB call_len_str (by rfl) N_.len boot_len (pa_c (pe_fld (pv 0) rfl) pa_nil)) (nomark _)))), ?_⟩
    refine ⟨_, rfl, x, C, dx, fs, _, rfl, hx.ins, R.cl, R.nA, hx.at_, _, rfl, x, C, dx, fs, _, rfl, hx.ins, R.cl, R.nL, hx.line, L, rfl, small' (by omega), rfl, ?_⟩
    have e : decide (V.int (p : Int) = V.int (L.length : Int)) = decide (p = L.length) := by
      by_cases q : p = L.length
      · rw [decide_eq_true q, decide_eq_true (by rw [q])]
      · rw [decide_eq_false q, decide_eq_false fun z => q (by have := V.int.inj z; omega)]
    rw [e]
    exact k
inductive Sp_rtakeI (C : Addr) (vs : List V) (H : Hp) (Q : VK) : Prop where
  | mk (x : _) (bg : _) (L : _) (p : _) (S : _) (sg : _) (c : _) (c1 : vs = [.ref x, .str sg]) (c2 : sg.cps.toList = [c]) (c3 : RdAt C x bg L p S H) (c4 : p ≤ L.length) (c5 : L.length ≤ 500000) (c6 : (L.cps.toList[p]? = some c → ∀ H', Keep [x] H H' → RdAt C x bg L (p + 1) S H' → Q (.bl true) H')) (c7 : (L.cps.toList[p]? ≠ some c → Q (.bl false) H))
def sp_rtake (C : Addr) : Sp := fun vs H Q u3_ => Sp_rtakeI C vs H Q
theorem ok_rtake {f C : Addr} {fd : FuncData} (F : Fun K "take" "Reader.take" s_Reader_take f fd) (R : RdCls K C) (G_Reader_is_over : GM P w K mg base CX0 1 C "is_over" ["self"] (sp_rover C)) : FnOk P w K mg base CX0 2 f fd ["self", "sign"] (sp_rtake C) := by
  refine F.ok sc_Reader_take (fun vs H Q E h => ?_) (fun cdv A outer s H vs Q E hr h => ?_)
  · obtain ⟨x, bg, L, p, S, sg, c, rfl, _⟩ := h
    rfl
  · obtain ⟨x, bg, L, p, S, sg, c, rfl, hsg, ⟨dx, fs, vs, hx, hb, hp⟩, hpl, hL, k1, k2⟩ := h
    have hlen : L.cps.toList.length = L.length := by simp [Str.length]
    refine ⟨_, (pss_cons (ps_if (PW.pt (pw_or (pt_val (pe_gm0 (pv 0) R.cl G_Reader_is_over (hr.mono (by decide)) pass0)) (pw_or1 (pt_cmpR op_ne (pe_ix ix_str (pe_fld (pv 0) rfl) (pe_fld (pv 0) rfl) (fun _ _ => rfl)) (pv 1) (nomark _))))) (pss_one (ps_ret pe_bl)) pss_nil)
      (pss_cons (ps_fldaug (pv 0) pe_int in_add)
      (pss_one (ps_ret pe_bl)))), ?_⟩
    show (let V1_ : TS := _; let V2_ : TS := tSeq _ V1_; let V3_ : TS := _; tSeq (tIfS _ V3_ _) V2_ _ _ _)
    intro V1_ V2_ V3_
    refine ⟨_, rfl, x, dx, fs, rfl, hx.ins, hx.meth _ (by decide +kernel), x, bg, L, p, dx, fs, rfl, hx, hL, _, rfl, ?_⟩
    by_cases e : p = L.length
    · rw [decide_eq_true e]
      refine iteT (iteT (k2 ?_))
      rw [List.getElem?_eq_none (by omega)]
      simp
    · rw [decide_eq_false e]
      obtain ⟨c', hc'⟩ : ∃ c', L.cps.toList[p]? = some c' := ⟨_, List.getElem?_eq_getElem (by omega)⟩
      refine iteF ⟨_, rfl, x, C, dx, fs, _, rfl, hx.ins, R.cl, R.nL, hx.line, _, rfl, x, C, dx, fs, _, rfl, hx.ins, R.cl, R.nA, hx.at_, L, (p : Int), c', rfl, rfl, small' (by omega), atI_nat hc', _, rfl, rfl, _, rfl, ?_⟩
      by_cases ec : c' = c
      · subst ec
        refine ifNF ((one_eq hsg).mpr rfl) ?_
        refine ⟨_, rfl, x, C, dx, fs, _, rfl, hx.ins, R.cl, R.nA, hx.at_, _, _, rfl, rfl, dx, fs, hx.ins, Nat.lt_trans hx.few (by decide), ?_⟩
        obtain ⟨q1, q2⟩ := RdAt.step hx hb hp
        exact k1 hc' _ q2 q1
      · refine ifNT (fun z => ec ((one_eq hsg).mp z)) (k2 ?_)
        rw [hc']
        exact fun z => ec (Option.some.inj z)
inductive Sp_rneedI (C : Addr) (vs : List V) (H : Hp) (Q : VK) : Prop where
  | mk (x : _) (bg : _) (L : _) (p : _) (S : _) (sg : _) (c : _) (c1 : vs = [.ref x, .str sg]) (c2 : sg.cps.toList = [c]) (c3 : RdAt C x bg L p S H) (c4 : p ≤ L.length) (c5 : L.length ≤ 500000) (c6 : L.cps.toList[p]? = some c) (c7 : ∀ H', Keep [x] H H' → RdAt C x bg L (p + 1) S H' → Q .non H')
def sp_rneed (C : Addr) : Sp := fun vs H Q u3_ => Sp_rneedI C vs H Q
theorem ok_rneed {f C : Addr} {fd : FuncData} (F : Fun K "need" "Reader.need" s_Reader_need f fd) (R : RdCls K C) (G_Reader_take : GM P w K mg base CX0 2 C "take" ["self", "sign"] (sp_rtake C)) : FnOk P w K mg base CX0 3 f fd ["self", "sign"] (sp_rneed C) := by
  refine F.ok sc_Reader_need (fun vs H Q E h => ?_) (fun cdv A outer s H vs Q E hr h => ?_)
  · obtain ⟨x, bg, L, p, S, sg, c, rfl, _⟩ := h
    rfl
  · obtain ⟨x, bg, L, p, S, sg, c, rfl, hsg, hR, hpl, hL, hc, k⟩ := h
    obtain ⟨dx, fs, vs, hx, hb, hp⟩ := id hR
    refine ⟨_, (pss_one (ps_if (pt_not (pt_val (pe_gm (pv 0) R.cl G_Reader_take (hr.mono (by decide)) pass0 (pa_c (pv 1) pa_nil)))) (pss_one ps_never) pss_nil)), ?_⟩
    show (let V1_ : TS := _; tIfS _ V1_ _ _ _ _)
    intro V1_
    exact ⟨_, rfl, x, dx, fs, rfl, hx.ins, hx.meth _ (by decide +kernel), _, rfl, x, bg, L, p, S, sg, c, rfl, hsg, hR, hpl, hL, fun _ H' kp r => ⟨_, rfl, iteF (k H' kp r)⟩, fun n => absurd hc n⟩
theorem drop_get {l u r : List Nat} {p i : Nat} (h : l.drop p = u ++ r) : l[p + i]? = (u ++ r)[i]? := by rw [← h, List.getElem?_drop]
theorem drop_len {l u r : List Nat} {p : Nat} (h : l.drop p = u ++ r) (hp : p ≤ l.length) : p + u.length + r.length = l.length := by
  have := congrArg List.length h
  rw [List.length_drop, List.length_append] at this
  omega
theorem drop_more {l u r : List Nat} {p : Nat} (h : l.drop p = u ++ r) : l.drop (p + u.length) = r := by
  rw [← List.drop_drop, h, List.drop_left]
inductive Sp_rwordI (C : Addr) (vs : List V) (H : Hp) (Q : VK) : Prop where
  | mk (x : _) (bg : _) (L : Str) (p : _) (S : _) (wd : Str) (rest : _) (c1 : vs = [.ref x]) (c2 : RdAt C x bg L p S H) (c3 : p ≤ L.length) (c4 : L.length ≤ 500000) (c5 : (∀ c ∈ L.cps.toList, c < 128)) (c6 : L.cps.toList.drop p = wd.cps.toList ++ rest) (c7 : WdL wd) (c8 : (∀ c, rest[0]? = some c → ¬ (97 ≤ c ∧ c ≤ 122))) (c9 : ∀ H', Keep [x] H H' → RdAt C x bg L (p + wd.cps.toList.length) S H' → Q (.str wd) H')
def sp_rword (C : Addr) : Sp := fun vs H Q u3_ => Sp_rwordI C vs H Q
theorem ok_rword {f C : Addr} {fd : FuncData} {tk : Tok} (F : Fun K "take_word" "Reader.take_word" s_Reader_take_word f fd) (R : RdCls K C) (hLet : mg "LETTERS" = some (.str (Str.ofString "abcdefghijklmnopqrstuvwxyz") tk)) (G_Reader_is_over : GM P w K mg base CX0 1 C "is_over" ["self"] (sp_rover C)) : FnOk P w K mg base CX0 2 f fd ["self"] (sp_rword C) := by
  refine F.ok sc_Reader_take_word (fun vs H Q E h => ?_) (fun cdv A outer s H vs Q E hr h => ?_)
  · obtain ⟨x, bg, L, p, S, wd, rest, rfl, _⟩ := h
    rfl
  · obtain ⟨x, bg, L, p, S, wd, rest, rfl, hR, hpl, hL, hasc, hdr, hwd, hrest, k⟩ := h
    have hlen : L.cps.toList.length = L.length := by simp [Str.length]
    have hdl := drop_len hdr (by rw [hlen]; exact hpl)
    rw [hlen] at hdl
    have hpos : 1 ≤ wd.cps.toList.length := by
      have := hwd.1
      cases q : wd.cps.toList with
      | nil => exact absurd q this
      | cons a r => simp
    obtain ⟨dx0, fs0, vs0, hx0, _⟩ := id hR
    refine ⟨_, (pss_cons (ps_set (i := 1) sc_Reader_take_word.nd rfl (Or.inl rfl) (pe_fld (pv 0) rfl))
      (pss_cons (ps_while PassesOwn.never (PW.pt (pw_and (pt_not (pt_val (pe_gm0 (pv 0) R.cl G_Reader_is_over (hr.mono (by decide)) pass0))) (pw_and1 (pt_cmpR op_in_str (pe_ix ix_str (pe_fld (pv 0) rfl) (pe_fld (pv 0) rfl) (fun _ _ => rfl)) (pe_glob (v := .str (Str.ofString "abcdefghijklmnopqrstuvwxyz")) rfl hLet ⟨_, rfl⟩) rfl)))) (pss_one (ps_fldaug (pv 0) pe_int in_add)))
      (pss_cons (ps_if (pt_cmpR op_eq (pe_fld (pv 0) rfl) (pv 1) (nomark _)) (pss_one ps_never) pss_nil)
      (pss_one (ps_ret (pe_slice sl_str (pe_fld (pv 0) rfl) (po_some (pv 1)) (po_some (pe_fld (pv 0) rfl)))))))), ?_⟩
    show (let V1_ : TS := _; let V2_ : TS := _; let V3_ : TS := tSeq (tIfS _ V2_ _) V1_; let V4_ : TS := _; let V5_ : TS := tSeq (tWhile _ V4_) V3_; tSeq _ V5_ _ _ _)
    intro V1_ V2_ V3_ V4_ V5_
    refine ⟨_, rfl, x, C, dx0, fs0, _, rfl, hx0.ins, R.cl, R.nA, hx0.at_, ?_⟩
    refine ⟨fun m σ H' => ∃ i, m = wd.cps.toList.length - i ∧ i ≤ wd.cps.toList.length ∧ σ = [some (.ref x), some (.int (p : Int))] ∧ Keep [x] H H' ∧ RdAt C x bg L (p + i) S H', ⟨_, 0, rfl, Nat.zero_le _, rfl, Keep.refl _ _, hR⟩, ?_⟩
    rintro m σ H1 ⟨i, rfl, hi, rfl, k1, hR1⟩
    obtain ⟨dx, fs, vs, hx, hb, hp⟩ := id hR1
    refine ⟨_, rfl, x, dx, fs, rfl, hx.ins, hx.meth _ (by decide +kernel), x, bg, L, p + i, dx, fs, rfl, hx, hL, _, rfl, ?_⟩
    have out : i = wd.cps.toList.length → Q (.str (Txt.slice L (some (p : Int)) (some ((p + i : Nat) : Int)))) H1 := fun e => by
      rw [show Txt.slice L (some (p : Int)) (some ((p + i : Nat) : Int)) = wd from str_ext (by
        rw [slice_cps (by omega) (by omega), hdr, show p + i - p = wd.cps.toList.length by omega, List.take_left])]
      rw [e] at hR1
      exact k H1 k1 hR1
    by_cases e : i = wd.cps.toList.length
    · -- behind the word
      by_cases hr0 : p + i = L.length
      · rw [decide_eq_true hr0]
        refine iteF (iteF ?_)
        refine ⟨_, rfl, x, C, dx, fs, _, rfl, hx.ins, R.cl, R.nA, hx.at_, _, rfl, rfl, _, rfl, ifF (fun z => by have := V.int.inj z; omega) ?_⟩
        refine ⟨_, rfl, x, C, dx, fs, _, rfl, hx.ins, R.cl, R.nL, hx.line, _, rfl, _, rfl, _, rfl, x, C, dx, fs, _, rfl, hx.ins, R.cl, R.nA, hx.at_, _, rfl, L, rfl, small' (by omega), out e⟩
      · rw [decide_eq_false hr0]
        obtain ⟨c, hc⟩ : ∃ c, L.cps.toList[p + i]? = some c := ⟨_, List.getElem?_eq_getElem (by omega)⟩
        have hcr : rest[0]? = some c := by
          rw [drop_get hdr, e, List.getElem?_append_right (Nat.le_refl _), Nat.sub_self] at hc
          exact hc
        refine iteT ⟨_, rfl, x, C, dx, fs, _, rfl, hx.ins, R.cl, R.nL, hx.line, _, rfl, x, C, dx, fs, _, rfl, hx.ins, R.cl, R.nA, hx.at_, L, ((p + i : Nat) : Int), c, rfl, rfl, small' (by omega), atI_nat hc, _, _, rfl, rfl, _, rfl, ?_⟩
        rw [in_letters c (hasc c (List.mem_of_getElem? hc)), decide_eq_false (hrest c hcr)]
        refine iteF ?_
        refine ⟨_, rfl, x, C, dx, fs, _, rfl, hx.ins, R.cl, R.nA, hx.at_, _, rfl, rfl, _, rfl, ifF (fun z => by have := V.int.inj z; omega) ?_⟩
        refine ⟨_, rfl, x, C, dx, fs, _, rfl, hx.ins, R.cl, R.nL, hx.line, _, rfl, _, rfl, _, rfl, x, C, dx, fs, _, rfl, hx.ins, R.cl, R.nA, hx.at_, _, rfl, L, rfl, small' (by omega), out e⟩
    · have hlt : i < wd.cps.toList.length := by omega
      rw [decide_eq_false (by omega)]
      obtain ⟨c, hc0⟩ : ∃ c, wd.cps.toList[i]? = some c := ⟨_, List.getElem?_eq_getElem hlt⟩
      have hc : L.cps.toList[p + i]? = some c := by rw [drop_get hdr, List.getElem?_append_left hlt]; exact hc0
      refine iteT ⟨_, rfl, x, C, dx, fs, _, rfl, hx.ins, R.cl, R.nL, hx.line, _, rfl, x, C, dx, fs, _, rfl, hx.ins, R.cl, R.nA, hx.at_, L, ((p + i : Nat) : Int), c, rfl, rfl, small' (by omega), atI_nat hc, _, _, rfl, rfl, _, rfl, ?_⟩
      rw [in_letters c (hasc c (List.mem_of_getElem? hc)), decide_eq_true (hwd.2 c (List.mem_of_getElem? hc0))]
      refine iteT ⟨fun σ' H' => ∃ m', m' < wd.cps.toList.length - i ∧ ∃ i, m' = wd.cps.toList.length - i ∧ i ≤ wd.cps.toList.length ∧ σ' = [some (.ref x), some (.int (p : Int))] ∧ Keep [x] H H' ∧ RdAt C x bg L (p + i) S H', fun _ _ h => h, ?_⟩
      refine ⟨_, rfl, x, C, dx, fs, _, rfl, hx.ins, R.cl, R.nA, hx.at_, _, _, rfl, rfl, dx, fs, hx.ins, Nat.lt_trans hx.few (by decide), ?_⟩
      obtain ⟨q1, q2⟩ := RdAt.step hx hb hp
      exact ⟨_, by omega, i + 1, rfl, hlt, rfl, k1.trans q2, q1⟩
/-- something more is begun, or done with -/
theorem RdAt.begin {C x bg : Addr} {L : Str} {p : Nat} {S : List Bg} {dx : Addr} {fs : List (Str × V)} {vs : List V} {b : Bg} {u : V} {H H1 H2 : Hp} (h : RdO C x bg L p dx fs H) (hb : H bg = some (.lst vs)) (hp : Paired (BgAt H) vs S.reverse) (s1 : Same H H1) (hu : BgAt H1 u b) (k : Keep [bg] H1 H2) (h2 : H2 bg = some (.lst (vs ++ [u]))) : RdAt C x bg L p (b :: S) H2 := by
  have nb := bg_ne h hb
  have tu : Tups H1 H2 := kp1_tups k (s1 _ _ hb)
  refine ⟨dx, fs, _, h.keep ?_, h2, ?_⟩
  · rw [k _ _ (by simp [nb.symm]) (s1 _ _ h.ins), h.ins]
  · rw [List.reverse_cons]
    exact paired_snoc (hu.mono tu) (bgs_mono (bgs_mono hp (.of_same s1)) tu)
end
end NC
/-! ### lines read: names, ends, and the whole -/
namespace NC
open PySem PySem.Spec PyProof.Rows L2
section
variable {P : Program} {w : World} {K : PySem.W.Frag} {mg : Str → Option Value} {base : Heap}
seal L2.PE L2.PA L2.PT L2.PS L2.PSs L2.PW L2.PG L2.PGs L2.PI L2.PO L2.OpR L2.UnR L2.CallR L2.TruR L2.IxR L2.SlR
def Bg.okM : Bg → Prop
  | .form w => WdL w
  | .one b => b.okL
  | .two a => a.okL
/-- what is to be read: a term, and what is begun round it -/
structure ToRead (L : Str) (p : Nat) (t : NT) (S : List Bg) : Prop where
  line : L.cps.toList.drop p = t.line ++ rem S
  ok : t.okL
  oks : ∀ b ∈ S, b.okM
  le : p ≤ L.length
  few : S.length ≤ p
structure LineOk (L : Str) : Prop where
  len : L.length ≤ 500000
  asc : ∀ c ∈ L.cps.toList, c < 128
theorem len_cps (L : Str) : L.cps.toList.length = L.length := by simp [Str.length]
inductive Sp_rnameI (C : Addr) (vs : List V) (H : Hp) (Q : VK) : Prop where
  | mk (x : _) (bg : _) (L : _) (p : _) (S : _) (t : NT) (c1 : vs = [.ref x]) (c2 : RdAt C x bg L p S H) (c3 : LineOk L) (c4 : ToRead L p t S) (c5 : ∀ v wd S' p' H', Keep [x, bg] H H' → RdAt C x bg L p' S' H' → NamedAt H' v (.name wd) → WdL wd → L.cps.toList.drop p' = rem S' → plug (.name wd) S' = plug t S → (∀ b ∈ S', b.okM) → p < p' → p' ≤ L.length → S'.length ≤ p' → Q v H')
def sp_rname (C : Addr) : Sp := fun vs H Q u3_ => Sp_rnameI C vs H Q
inductive InvNameI (C x bg : Addr) (L : Str) (p : Nat) (S : List Bg) (t : NT) (H : Hp) (m : Nat) (σ : L2.St) (H' : Hp) : Prop where
  | mk (xw : _) (S' : _) (p' : _) (t' : _) (c1 : σ = [some (.ref x), xw]) (c2 : Keep [x, bg] H H') (c3 : RdAt C x bg L p' S' H') (c4 : ToRead L p' t' S') (c5 : plug t' S' = plug t S) (c6 : p ≤ p') (c7 : m = t'.size)
def InvName (C x bg : Addr) (L : Str) (p : Nat) (S : List Bg) (t : NT) (H : Hp) (m : Nat) (σ : L2.St) (H' : Hp) : Prop := InvNameI C x bg L p S t H m σ H'
theorem wd_pos {wd : Str} (h : WdL wd) : 1 ≤ wd.cps.toList.length := by
  cases q : wd.cps.toList with
  | nil => exact absurd q h.1
  | cons a r => simp
theorem wd_head {wd : Str} (h : WdL wd) (r : List Nat) : ∃ c, (wd.cps.toList ++ r)[0]? = some c ∧ 97 ≤ c ∧ c ≤ 122 := by
  have hp := wd_pos h
  obtain ⟨c, hc⟩ : ∃ c, wd.cps.toList[0]? = some c := ⟨_, List.getElem?_eq_getElem (by omega)⟩
  exact ⟨c, by rw [List.getElem?_append_left (by omega)]; exact hc, h.2 c (List.mem_of_getElem? hc)⟩
theorem ok_rname {f C : Addr} {fd : FuncData} (F : Fun K "next_name" "Reader.next_name" s_Reader_next_name f fd) (R : RdCls K C) (G_Reader_take : GM P w K mg base CX0 2 C "take" ["self", "sign"] (sp_rtake C)) (G_Reader_take_word : GM P w K mg base CX0 2 C "take_word" ["self"] (sp_rword C)) : FnOk P w K mg base CX0 3 f fd ["self"] (sp_rname C) := by
  refine F.ok sc_Reader_next_name (fun vs H Q E h => ?_) (fun cdv A outer s H vs Q E hr h => ?_)
  · obtain ⟨x, bg, L, p, S, t, rfl, _⟩ := h
    rfl
  · obtain ⟨x, bg, L, p, S, t, rfl, hR, hL, hT, k⟩ := h
    have hlen := len_cps L
    refine ⟨_, (pss_one (ps_while PassesOwn.never (pt_val pe_bl) (pss_one (ps_if (pt_val (pe_gm (pv 0) R.cl G_Reader_take (hr.mono (by decide)) pass0 (pa_c pe_str pa_nil))) (pss_one (ps_expr (pApp (pe_fld (pv 0) rfl) (pTup (pa_c pe_str pa_nil))))) (pss_cons (ps_set (i := 1) sc_Reader_next_name.nd rfl (Or.inl rfl) (pe_gm0 (pv 0) R.cl G_Reader_take_word (hr.mono (by decide)) pass0))
      (pss_cons (ps_if (pt_not (pt_val (pe_gm (pv 0) R.cl G_Reader_take (hr.mono (by decide)) pass0 (pa_c pe_str pa_nil)))) (pss_one (ps_ret (pTup (pa_c pe_str (pa_c (pv 1) pa_nil))))) pss_nil)
      (pss_one (ps_expr (pApp (pe_fld (pv 0) rfl) (pTup (pa_c pe_str (pa_c (pv 1) pa_nil)))))))))))), ?_⟩
    show (let V1_ : TS := _; let V2_ : TS := _; let V3_ : TS := _; let V4_ : TS := tSeq (tIfS _ V3_ _) V2_; let V5_ : TS := tSeq _ V4_; let V6_ : TS := tIfS _ V1_ V5_; tWhile _ V6_ _ _ _)
    intro V1_ V2_ V3_ V4_ V5_ V6_
    refine ⟨InvName C x bg L p S t H, ⟨t.size, none, S, p, t, rfl, Keep.refl _ _, hR, hT, rfl, Nat.le_refl _, rfl⟩, ?_⟩
    rintro m σ H1 ⟨xw, S1, p1, t1, rfl, k1, hR1, hT1, hpl, hpp, rfl⟩
    refine ⟨_, rfl, iteT ⟨fun σ' H' => ∃ m', m' < t1.size ∧ InvName C x bg L p S t H m' σ' H', fun _ _ h => h, ?_⟩⟩
    obtain ⟨dx, fs, vs, hx, hb, hp⟩ := id hR1
    have h0 : L.cps.toList[p1]? = (t1.line ++ rem S1)[0]? := by
      have := drop_get (i := 0) hT1.line
      rw [Nat.add_zero] at this
      exact this
    refine ⟨_, rfl, x, dx, fs, rfl, hx.ins, hx.meth _ (by decide +kernel), x, bg, L, p1, S1, _, 40, rfl, s_opn, hR1, hT1.le, hL.len, fun hc H2 k2 hR2 => ⟨_, rfl, iteT ?_⟩, fun hc => ⟨_, rfl, iteF ?_⟩⟩
    · -- a call begins
      cases t1 with
      | name wd =>
        obtain ⟨c, h1, h2, _⟩ := wd_head (show WdL wd from hT1.ok) (rem S1)
        rw [h0, show (NT.name wd).line = wd.cps.toList from rfl, h1] at hc
        have := Option.some.inj hc
        omega
      | form wd b =>
        obtain ⟨c, h1, h2, _⟩ := wd_head (show WdL wd from hT1.ok.1) (58 :: b.line ++ rem S1)
        rw [h0, show (NT.form wd b).line ++ rem S1 = wd.cps.toList ++ (58 :: b.line ++ rem S1) by simp [NT.line], h1] at hc
        have := Option.some.inj hc
        omega
      | call a b =>
        obtain ⟨dx2, fs2, vs2, hx2, hb2, hp2⟩ := id hR2
        have K12 : Keep [x, bg] H1 H2 := k2.sub (by simp)
        refine ⟨_, rfl, x, C, dx2, fs2, _, rfl, hx2.ins, R.cl, R.nB, hx2.begun, Or.inl ⟨rfl, _, SqL.of hb2⟩, small' (by show 1 ≤ 1000000; decide), fun b9 H9 n9 s9 h9 => ⟨_, _, _, rfl, rfl, s9 _ _ hb2, ?_, fun H10 k10 h10 => ?_⟩⟩
        · have := Paired.length hp2
          rw [List.length_reverse] at this
          have h1 := hT1.few
          have h2 := hT1.le
          have h3 := hL.len
          exact small (by omega)
        · have K29 : Keep [x, bg] H2 H10 := (Keep.of_same s9).trans (k10.sub (by simp))
          refine ⟨a.size, by show a.size < a.size + b.size + 1; omega, _, .one b :: S1, p1 + 1, a, rfl, (k1.trans K12).trans K29, RdAt.begin hx2 hb2 hp2 s9 ⟨b9, rfl, h9⟩ k10 h10, ⟨?_, hT1.ok.1, ?_, ?_, by have := hT1.few; rw [List.length_cons]; omega⟩, hpl, by omega, rfl⟩
          · have e := hT1.line
            have e' : L.cps.toList.drop p1 = [40] ++ (a.line ++ 32 :: (b.line ++ [41]) ++ rem S1) := by rw [e]; simp [NT.line]
            rw [show p1 + 1 = p1 + [40].length from rfl, drop_more e']
            show _ = a.line ++ 32 :: (b.line ++ 41 :: rem S1)
            simp
          · intro z hz
            rcases List.mem_cons.mp hz with rfl | hz
            · exact hT1.ok.2
            · exact hT1.oks z hz
          · have := (List.getElem?_eq_some_iff.mp hc).1
            omega
    · -- a word
      obtain ⟨wd, rest, hdr, hwd, hrest, hcase⟩ : ∃ wd : Str, ∃ rest, L.cps.toList.drop p1 = wd.cps.toList ++ rest ∧ WdL wd ∧ (∀ c, rest[0]? = some c → ¬ (97 ≤ c ∧ c ≤ 122)) ∧ ((∃ b, t1 = .form wd b ∧ rest = 58 :: (b.line ++ rem S1)) ∨ (t1 = .name wd ∧ rest = rem S1)) := by
        cases t1 with
        | name wd =>
          refine ⟨wd, rem S1, hT1.line, hT1.ok, fun c hc => ?_, .inr ⟨rfl, rfl⟩⟩
          rcases rem_head S1 c hc with rfl | rfl <;> omega
        | form wd b =>
          refine ⟨wd, 58 :: (b.line ++ rem S1), by rw [hT1.line]; simp [NT.line], hT1.ok.1, fun c hc => ?_, .inl ⟨b, rfl, rfl⟩⟩
          have := Option.some.inj hc
          omega
        | call a b =>
          exact absurd (by rw [h0]; rfl) hc
      have hpos := wd_pos hwd
      have hdl := drop_len hdr (by rw [hlen]; exact hT1.le)
      rw [hlen] at hdl
      refine ⟨_, rfl, x, dx, fs, rfl, hx.ins, hx.meth _ (by decide +kernel), x, bg, L, p1, S1, wd, rest, rfl, hR1, hT1.le, hL.len, hL.asc, hdr, hwd, hrest, fun H2 k2 hR2 => ?_⟩
      obtain ⟨dx2, fs2, vs2, hx2, hb2, hp2⟩ := id hR2
      have K12 : Keep [x, bg] H1 H2 := k2.sub (by simp)
      have hafter := drop_more hdr
      have h58 : L.cps.toList[p1 + wd.cps.toList.length]? = rest[0]? := by
        rw [drop_get hdr, List.getElem?_append_right (Nat.le_refl _), Nat.sub_self]
      refine ⟨_, rfl, x, dx2, fs2, rfl, hx2.ins, hx2.meth _ (by decide +kernel), x, bg, L, p1 + wd.cps.toList.length, S1, _, 58, rfl, s_col, hR2, by omega, hL.len, fun hc2 H3 k3 hR3 => ⟨_, rfl, iteF ?_⟩, fun hc2 => ⟨_, rfl, iteT ?_⟩⟩
      · -- a form begins
        rcases hcase with ⟨b, rfl, rfl⟩ | ⟨rfl, rfl⟩
        · obtain ⟨dx3, fs3, vs3, hx3, hb3, hp3⟩ := id hR3
          have K23 : Keep [x, bg] H2 H3 := k3.sub (by simp)
          refine ⟨_, rfl, x, C, dx3, fs3, _, rfl, hx3.ins, R.cl, R.nB, hx3.begun, Or.inl ⟨rfl, _, SqL.of hb3⟩, _, rfl, small' (by show 2 ≤ 1000000; decide), fun b9 H9 n9 s9 h9 => ⟨_, _, _, rfl, rfl, s9 _ _ hb3, ?_, fun H10 k10 h10 => ?_⟩⟩
          · have := Paired.length hp3
            rw [List.length_reverse] at this
            have h1 := hT1.few
            have h2 := hT1.le
            have h3 := hL.len
            exact small (by omega)
          · have K39 : Keep [x, bg] H3 H10 := (Keep.of_same s9).trans (k10.sub (by simp))
            rw [List.length_cons] at hdl
            refine ⟨b.size, by show b.size < b.size + 1; omega, _, .form wd :: S1, p1 + wd.cps.toList.length + 1, b, rfl, ((k1.trans K12).trans K23).trans K39, RdAt.begin hx3 hb3 hp3 s9 ⟨b9, rfl, h9⟩ k10 h10, ⟨?_, hT1.ok.2, ?_, by omega, by have := hT1.few; rw [List.length_cons]; omega⟩, hpl, by omega, rfl⟩
            · rw [show p1 + wd.cps.toList.length + 1 = p1 + wd.cps.toList.length + [58].length from rfl, drop_more (u := [58]) (r := b.line ++ rem S1) hafter]
              rfl
            · intro z hz
              rcases List.mem_cons.mp hz with rfl | hz
              · exact hwd
              · exact hT1.oks z hz
        · rw [h58] at hc2
          rcases rem_head S1 58 hc2 with z | z <;> omega
      · -- a name
        rcases hcase with ⟨b, rfl, rfl⟩ | ⟨rfl, rfl⟩
        · exact absurd (by rw [h58]; rfl) hc2
        · refine ⟨_, rfl, small' (by show 2 ≤ 1000000; decide), fun b9 H9 n9 s9 h9 => ?_⟩
          refine k _ wd S1 _ H9 ((k1.trans K12).trans (.of_same s9)) ?_ (.name h9) hwd hafter hpl hT1.oks (by omega) (by omega) (by have := hT1.few; omega)
          exact ⟨dx2, fs2, vs2, hx2.keep (by rw [s9 _ _ hx2.ins, hx2.ins]), s9 _ _ hb2, bgs_mono hp2 (.of_same s9)⟩
inductive Sp_rendedI (C : Addr) (vs : List V) (H : Hp) (Q : VK) : Prop where
  | mk (x : _) (bg : _) (L : Str) (p : _) (S : _) (v : _) (t : NT) (c1 : vs = [.ref x, v]) (c2 : RdAt C x bg L p S H) (c3 : LineOk L) (c4 : NamedAt H v t) (c5 : t.okL) (c6 : L.cps.toList.drop p = rem S) (c7 : (∀ b ∈ S, b.okM)) (c8 : p ≤ L.length) (c9 : S.length ≤ p) (c10 : (∀ S' p' t' H', Keep [x, bg] H H' → RdAt C x bg L p' S' H' → ToRead L p' t' S' → plug t' S' = plug t S → p < p' → Q .non H')) (c11 : (∀ v' H', Keep [x, bg] H H' → RdAt C x bg L L.length [] H' → NamedAt H' v' (plug t S) → Q v' H'))
def sp_rended (C : Addr) : Sp := fun vs H Q u3_ => Sp_rendedI C vs H Q
inductive InvEndedI (C x bg : Addr) (L : Str) (p : Nat) (S : List Bg) (t : NT) (H : Hp) (m : Nat) (σ : L2.St) (H' : Hp) : Prop where
  | mk (xo : _) (v : _) (S' : _) (p' : _) (t' : _) (c1 : σ = [some (.ref x), some v, xo]) (c2 : Keep [x, bg] H H') (c3 : RdAt C x bg L p' S' H') (c4 : NamedAt H' v t') (c5 : t'.okL) (c6 : L.cps.toList.drop p' = rem S') (c7 : (∀ b ∈ S', b.okM)) (c8 : p' ≤ L.length) (c9 : S'.length ≤ p') (c10 : plug t' S' = plug t S) (c11 : p ≤ p') (c12 : m = S'.length)
def InvEnded (C x bg : Addr) (L : Str) (p : Nat) (S : List Bg) (t : NT) (H : Hp) (m : Nat) (σ : L2.St) (H' : Hp) : Prop := InvEndedI C x bg L p S t H m σ H'
theorem kp2_tups {C x bg : Addr} {L : Str} {p : Nat} {dx : Addr} {fs : List (Str × V)} {vs : List V} {H H' : Hp} (h : RdO C x bg L p dx fs H) (hb : H bg = some (.lst vs)) (k : Keep [x, bg] H H') : Tups H H' := fun b xs e => k b _ (fun z => by
  rcases List.mem_cons.mp z with z | z
  · rw [z, h.ins] at e; cases e
  · rw [List.mem_singleton.mp z, hb] at e; cases e) e
theorem ok_rended {f C : Addr} {fd : FuncData} (F : Fun K "ended" "Reader.ended" s_Reader_ended f fd) (N_ : NoNames mg) (R : RdCls K C) (G_Reader_need : GM P w K mg base CX0 3 C "need" ["self", "sign"] (sp_rneed C)) : FnOk P w K mg base CX0 4 f fd ["self", "part"] (sp_rended C) := by
  refine F.ok sc_Reader_ended (fun vs H Q E h => ?_) (fun cdv A outer s H vs Q E hr h => ?_)
  · obtain ⟨x, bg, L, p, S, v, t, rfl, _⟩ := h
    rfl
  · obtain ⟨x, bg, L, p, S, v, t, rfl, hR, hL, hv, hok, hdr, hoks, hle, hfew, k1, k2⟩ := h
    have hlen := len_cps L
    refine ⟨_, (pss_cons (ps_while PassesOwn.never (pt_truth (pe_fld (pv 0) rfl) (fun _ => rfl)) (pss_cons (ps_set (i := 2) sc_Reader_ended.nd rfl (Or.inl rfl) (pPop (pe_fld (pv 0) rfl)))
      (pss_one (ps_if (pt_cmpR op_eq (pe_ix ix_tup (pv 2) pe_int (fun _ _ => rfl)) pe_str (nomark _)) (pss_one (ps_set (i := 1) sc_Reader_ended.nd rfl (Or.inl rfl) (pTup (pa_c pe_str (pa_c (pe_ix ix_tup (pv 2) pe_int (fun _ _ => rfl)) (pa_c (pv 1) pa_nil)))))) (pss_one (ps_if (pt_cmpR op_eq (pCB call_len_seq (by rfl) N_.len boot_len (pa_c (pv 2) pa_nil)) pe_int (nomark _)) (pss_cons (ps_expr (pe_gm (pv 0) R.cl G_Reader_need (hr.mono (by decide)) pass0 (pa_c pe_str pa_nil)))
      (pss_one (ps_set (i := 1) sc_Reader_ended.nd rfl (Or.inl rfl) (pTup (pa_c pe_str (pa_c (pe_ix ix_tup (pv 2) pe_int (fun _ _ => rfl)) (pa_c (pv 1) pa_nil))))))) (pss_cons (ps_expr (pe_gm (pv 0) R.cl G_Reader_need (hr.mono (by decide)) pass0 (pa_c pe_str pa_nil)))
      (pss_cons (ps_expr (pApp (pe_fld (pv 0) rfl) (pTup (pa_c pe_str (pa_c (pv 1) pa_nil)))))
      (pss_one (ps_ret pe_non))))))))))
      (pss_one (ps_ret (pv 1)))), ?_⟩
    show (let V1_ : TS := _; let V2_ : TS := _; let V3_ : TS := _; let V4_ : TS := tSeq _ V3_; let V5_ : TS := _; let V6_ : TS := tSeq _ V5_; let V7_ : TS := tSeq _ V6_; let V8_ : TS := tIfS _ V4_ V7_; let V9_ : TS := tIfS _ V2_ V8_; let V10_ : TS := tSeq _ V9_; tSeq (tWhile _ V10_) V1_ _ _ _)
    intro V1_ V2_ V3_ V4_ V5_ V6_ V7_ V8_ V9_ V10_
    refine ⟨InvEnded C x bg L p S t H, ⟨S.length, none, v, S, p, t, rfl, Keep.refl _ _, hR, hv, hok, hdr, hoks, hle, hfew, rfl, Nat.le_refl _, rfl⟩, ?_⟩
    rintro m σ H1 ⟨xo, v1, S1, p1, t1, rfl, kk1, hR1, hv1, hok1, hdr1, hoks1, hle1, hfew1, hpl, hpp, rfl⟩
    obtain ⟨dx, fs, vs, hx, hb, hp⟩ := id hR1
    have hvl := Paired.length hp
    rw [List.length_reverse] at hvl
    cases S1 with
    | nil =>
      have e : vs = [] := List.length_eq_zero_iff.mp hvl
      subst e
      refine ⟨_, rfl, x, C, dx, fs, _, rfl, hx.ins, R.cl, R.nB, hx.begun, false, Or.inl ⟨_, SqL.of hb, rfl⟩, iteF ⟨_, rfl, ?_⟩⟩
      have ep : p1 = L.length := by
        have := congrArg List.length hdr1
        rw [List.length_drop, hlen] at this
        have h2 : L.length - p1 = 0 := this
        omega
      rw [ep] at hR1
      exact k2 v1 H1 kk1 hR1 (by rw [← hpl]; exact hv1)
    | cons b S2 =>
      rw [List.reverse_cons] at hp
      have hne : vs ≠ [] := fun z => by rw [z] at hvl; cases hvl
      obtain ⟨vs', u, rfl, hp', hu⟩ := paired_snoc_inv hp
      refine ⟨_, rfl, x, C, dx, fs, _, rfl, hx.ins, R.cl, R.nB, hx.begun, true, Or.inl ⟨_, SqL.of hb, by simp⟩, iteT ⟨fun σ' H' => ∃ m', m' < (b :: S2).length ∧ InvEnded C x bg L p S t H m' σ' H', fun _ _ h => h, ?_⟩⟩
      refine ⟨_, rfl, x, C, dx, fs, _, rfl, hx.ins, R.cl, R.nB, hx.begun, Or.inl ⟨rfl, _, SqL.of hb⟩, bg, vs', u, rfl, rfl, hb, fun H6 k6 hb6 => ?_⟩
      have nb := bg_ne hx hb
      have tu6 := kp1_tups k6 hb
      have hx6 : RdO C x bg L p1 dx fs H6 := hx.keep (by rw [k6 _ _ (by simp [nb.symm]) hx.ins, hx.ins])
      have hp6 := bgs_mono hp' tu6
      have hu6 := BgAt.mono hu tu6
      have hv6 := hv1.mono tu6
      have K6 : Keep [x, bg] H1 H6 := k6.sub (by simp)
      rw [List.length_cons] at hfew1
      cases b with
      | form wd =>
        obtain ⟨a, rfl, ha⟩ := hu6
        refine ⟨_, rfl, _, _, _, _, rfl, rfl, SqT.of ha, at0, rfl, _, rfl, ifT rfl ⟨_, rfl, _, _, _, _, rfl, rfl, SqT.of ha, at1, _, rfl, small' (by show 3 ≤ 1000000; decide), fun b9 H9 n9 s9 h9 => ?_⟩⟩
        refine ⟨S2.length, by simp, _, _, S2, p1, .form wd t1, rfl, (kk1.trans K6).trans (.of_same s9), ⟨dx, fs, vs', hx6.keep (by rw [s9 _ _ hx6.ins, hx6.ins]), s9 _ _ hb6, bgs_mono hp6 (.of_same s9)⟩, .form h9 (hv6.same s9), ⟨hoks1 _ List.mem_cons_self, hok1⟩, hdr1, fun z hz => hoks1 z (List.mem_cons_of_mem _ hz), hle1, by omega, hpl, hpp, rfl⟩
      | two a0 =>
        obtain ⟨a, u0, rfl, ha, hu0⟩ := hu6
        refine ⟨_, rfl, _, _, _, _, rfl, rfl, SqT.of ha, at0, rfl, _, rfl, ifF n_cf ⟨_, rfl, _, _, rfl, Or.inr (SqT.of ha), rfl, _, rfl, ifT rfl ?_⟩⟩
        have hdr2 : L.cps.toList.drop p1 = [41] ++ rem S2 := hdr1
        have hc : L.cps.toList[p1]? = some 41 := by
          have := drop_get (i := 0) hdr2
          rw [Nat.add_zero] at this
          exact this
        have hdl := drop_len hdr2 (by rw [hlen]; exact hle1)
        rw [hlen] at hdl
        have hdl : p1 + 1 + (rem S2).length = L.length := hdl
        refine ⟨_, rfl, x, dx, fs, rfl, hx6.ins, hx6.meth _ (by decide +kernel), x, bg, L, p1, S2, _, 41, rfl, s_cls, ⟨dx, fs, vs', hx6, hb6, hp6⟩, hle1, hL.len, hc, fun H7 k7 hR7 => ?_⟩
        have K7 : Keep [x, bg] H6 H7 := k7.sub (by simp)
        have tu7 := kp2_tups hx6 hb6 K7
        refine ⟨_, rfl, _, _, _, _, rfl, rfl, SqT.of (tu7 _ _ ha), at1, _, rfl, small' (by show 3 ≤ 1000000; decide), fun b9 H9 n9 s9 h9 => ?_⟩
        obtain ⟨dx7, fs7, vs7, hx7, hb7, hp7⟩ := id hR7
        refine ⟨S2.length, by simp, _, _, S2, p1 + 1, .call a0 t1, rfl, ((kk1.trans K6).trans K7).trans (.of_same s9), ⟨dx7, fs7, vs7, hx7.keep (by rw [s9 _ _ hx7.ins, hx7.ins]), s9 _ _ hb7, bgs_mono hp7 (.of_same s9)⟩, .call h9 ((hu0.mono tu7).same s9) ((hv6.mono tu7).same s9), ⟨hoks1 _ List.mem_cons_self, hok1⟩, drop_more (u := [41]) hdr2, fun z hz => hoks1 z (List.mem_cons_of_mem _ hz), by omega, by omega, hpl, by omega, rfl⟩
      | one b0 =>
        obtain ⟨a, rfl, ha⟩ := hu6
        refine ⟨_, rfl, _, _, _, _, rfl, rfl, SqT.of ha, at0, rfl, _, rfl, ifF n_cf ⟨_, rfl, _, _, rfl, Or.inr (SqT.of ha), rfl, _, rfl, ifF (by decide) ?_⟩⟩
        have hdr2 : L.cps.toList.drop p1 = [32] ++ (b0.line ++ 41 :: rem S2) := hdr1
        have hc : L.cps.toList[p1]? = some 32 := by
          have := drop_get (i := 0) hdr2
          rw [Nat.add_zero] at this
          exact this
        have hdl := drop_len hdr2 (by rw [hlen]; exact hle1)
        rw [hlen] at hdl
        have hdl : p1 + 1 + (b0.line ++ 41 :: rem S2).length = L.length := hdl
        refine ⟨_, rfl, x, dx, fs, rfl, hx6.ins, hx6.meth _ (by decide +kernel), x, bg, L, p1, S2, _, 32, rfl, s_blk, ⟨dx, fs, vs', hx6, hb6, hp6⟩, hle1, hL.len, hc, fun H7 k7 hR7 => ?_⟩
        have K7 : Keep [x, bg] H6 H7 := k7.sub (by simp)
        have tu7 := kp2_tups hx6 hb6 K7
        obtain ⟨dx7, fs7, vs7, hx7, hb7, hp7⟩ := id hR7
        refine ⟨_, rfl, x, C, dx7, fs7, _, rfl, hx7.ins, R.cl, R.nB, hx7.begun, Or.inl ⟨rfl, _, SqL.of hb7⟩, _, rfl, small' (by show 2 ≤ 1000000; decide), fun b9 H9 n9 s9 h9 => ⟨_, _, _, rfl, rfl, s9 _ _ hb7, ?_, fun H10 k10 h10 => ?_⟩⟩
        · have := Paired.length hp7
          rw [List.length_reverse] at this
          have h3 := hL.len
          exact small (by omega)
        · have K79 : Keep [x, bg] H7 H10 := (Keep.of_same s9).trans (k10.sub (by simp))
          refine k1 (.two t1 :: S2) (p1 + 1) b0 H10 (((kk1.trans K6).trans K7).trans K79) (RdAt.begin hx7 hb7 hp7 s9 ⟨b9, _, rfl, h9, (hv6.mono tu7).same s9⟩ k10 h10) ⟨drop_more (u := [32]) hdr2, hoks1 _ List.mem_cons_self, fun z hz => ?_, by omega, by rw [List.length_cons]; omega⟩ hpl (by omega)
          rcases List.mem_cons.mp hz with rfl | hz
          · exact hok1
          · exact hoks1 z (List.mem_cons_of_mem _ hz)
inductive Sp_readI (vs : List V) (H : Hp) (Q : VK) : Prop where
  | mk (L : Str) (t : NT) (c1 : vs = [.str L]) (c2 : L.cps.toList = t.line) (c3 : t.okL) (c4 : L.length ≤ 500000) (c5 : ∀ v' H', Same H H' → NamedAt H' v' t → Q v' H')
def sp_read : Sp := fun vs H Q u3_ => Sp_readI vs H Q
theorem line_asc : ∀ t : NT, t.okL → ∀ c ∈ t.line, c < 128
  | .name w, h, c, hc => by have := h.2 c hc; omega
  | .form w b, h, c, hc => by
    rcases List.mem_append.mp hc with hc | hc
    · have := h.1.2 c hc; omega
    · rcases List.mem_cons.mp hc with rfl | hc
      · decide
      · exact line_asc b h.2 c hc
  | .call a b, h, c, hc => by
    rcases List.mem_cons.mp hc with rfl | hc
    · decide
    · rcases List.mem_append.mp hc with hc | hc
      · exact line_asc a h.1 c hc
      · rcases List.mem_cons.mp hc with rfl | hc
        · decide
        · rcases List.mem_append.mp hc with hc | hc
          · exact line_asc b h.2 c hc
          · rw [List.mem_singleton.mp hc]; decide
/-- a line is read on, or read -/
inductive InvReadI (C x bg : Addr) (L : Str) (T : NT) (H : Hp) (m : Nat) (σ : L2.St) (H' : Hp) : Prop where
  | mk (tv : _) (c1 : σ = [some (.str L), some (.ref x), some tv]) (c2 : Keep [x, bg] H H') (c3 : ((tv = .non ∧ ∃ p S t, RdAt C x bg L p S H' ∧ ToRead L p t S ∧ plug t S = T ∧ m = L.length - p + 1) ∨ (tv ≠ .non ∧ RdAt C x bg L L.length [] H' ∧ NamedAt H' tv T ∧ m = 0)))
def InvRead (C x bg : Addr) (L : Str) (T : NT) (H : Hp) (m : Nat) (σ : L2.St) (H' : Hp) : Prop := InvReadI C x bg L T H m σ H'
theorem ok_read {f C : Addr} {fd : FuncData} (F : Fun K "read" "read" s_read f fd) (R : RdCls K C) (G_Reader : GK P w K mg base CX0 1 C "Reader" ["self", "line"] (sp_rinit C)) (G_Reader_is_over : GM P w K mg base CX0 1 C "is_over" ["self"] (sp_rover C))
    (G_Reader_next_name : GM P w K mg base CX0 3 C "next_name" ["self"] (sp_rname C)) (G_Reader_ended : GM P w K mg base CX0 4 C "ended" ["self", "part"] (sp_rended C)) : FnOk P w K mg base CX0 5 f fd ["line"] sp_read := by
  refine F.ok sc_read (fun vs H Q E h => ?_) (fun cdv A outer s H vs Q E hr h => ?_)
  · obtain ⟨L, t, rfl, _⟩ := h
    rfl
  · obtain ⟨L, T, rfl, hT, hok, hsz, k⟩ := h
    have hlen := len_cps L
    have hL : LineOk L := ⟨hsz, by rw [hT]; exact line_asc T hok⟩
    refine ⟨_, (pss_cons (ps_set (i := 1) sc_read.nd rfl (Or.inl rfl) (pe_gk G_Reader (hr.mono (by decide)) rfl pass0 (pa_c (pv 0) pa_nil)))
      (pss_cons (ps_set (i := 2) sc_read.nd rfl (Or.inl rfl) pe_non)
      (pss_cons (ps_while PassesOwn.never (pt_cmpR op_isN (pv 2) pe_non (nomark _)) (pss_one (ps_set (i := 2) sc_read.nd rfl (Or.inl rfl) (pe_gm (pv 1) R.cl G_Reader_ended (hr.mono (by decide)) pass0 (pa_c (pe_gm0 (pv 1) R.cl G_Reader_next_name (hr.mono (by decide)) pass0) pa_nil)))))
      (pss_cons (ps_if (pt_not (pt_val (pe_gm0 (pv 1) R.cl G_Reader_is_over (hr.mono (by decide)) pass0))) (pss_one ps_never) pss_nil)
      (pss_one (ps_ret (pv 2))))))), ?_⟩
    show (let V1_ : TS := _; let V2_ : TS := _; let V3_ : TS := tSeq (tIfS _ V2_ _) V1_; let V4_ : TS := _; let V5_ : TS := tSeq (tWhile _ V4_) V3_; let V6_ : TS := tSeq _ V5_; tSeq _ V6_ _ _ _)
    intro V1_ V2_ V3_ V4_ V5_ V6_
    refine ⟨_, rfl, fun x dx nx ndx nxd => ⟨x, dx, L, rfl, upd_same, fun bg H1 nb hR1 kp1 => ⟨rfl, ?_⟩⟩⟩
    have n_bg : H bg = none := by
      cases q : H bg with
      | none => rfl
      | some o =>
        have b1 : bg ≠ x := fun z => by rw [z, nx] at q; cases q
        have b2 : bg ≠ dx := fun z => by rw [z, ndx] at q; cases q
        rw [upd_ne b1, upd_ne b2, q] at nb
        cases nb
    have same01 : Same H H1 := fun b o e => by
      have b1 : b ≠ x := fun z => by rw [z, nx] at e; cases e
      have b2 : b ≠ dx := fun z => by rw [z, ndx] at e; cases e
      exact kp1 b o b1 (by rw [upd_ne b1, upd_ne b2]; exact e)
    have nL : ∀ z ∈ [x, bg], H z = none := fun z hz => by
      rcases List.mem_cons.mp hz with e | hz
      · rw [e]; exact nx
      · rw [List.mem_singleton.mp hz]; exact n_bg
    refine ⟨InvRead C x bg L T H1, ⟨L.length - 0 + 1, .non, rfl, Keep.refl _ _, .inl ⟨rfl, 0, [], T, hR1, ⟨by rw [List.drop_zero, hT]; simp [rem], hok, (fun b hb => nomatch hb), Nat.zero_le _, Nat.le_refl _⟩, rfl, rfl⟩⟩, ?_⟩
    rintro m σ H2 ⟨tv, rfl, k2, hcase⟩
    rcases hcase with ⟨rfl, p, S, t, hR2, hTo, hpl, rfl⟩ | ⟨hnn, hR2, hv, rfl⟩
    · refine ⟨_, rfl, rfl, _, rfl, ifT rfl ⟨fun σ' H' => ∃ m', m' < L.length - p + 1 ∧ InvRead C x bg L T H1 m' σ' H', fun _ _ h => h, ?_⟩⟩
      obtain ⟨dx2, fs2, vs2, hx2, hb2, hp2⟩ := id hR2
      refine ⟨_, rfl, x, dx2, fs2, rfl, hx2.ins, hx2.meth _ (by decide +kernel), _, rfl, x, dx2, fs2, rfl, hx2.ins, hx2.meth _ (by decide +kernel), x, bg, L, p, S, t, rfl, hR2, hL, hTo, fun v wd S' p' H3 k3 hR3 hv3 hwd hdr3 hpl3 hoks3 hpp3 hle3 hfew3 => ?_⟩
      refine ⟨x, bg, L, p', S', v, .name wd, rfl, hR3, hL, hv3, hwd, hdr3, hoks3, hle3, hfew3, fun S4 p4 t4 H4 k4 hR4 hTo4 hpl4 hpp4 => ?_, fun v4 H4 k4 hR4 hv4 => ?_⟩
      · exact ⟨_, by have := hTo4.le; omega, .non, rfl, (k2.trans k3).trans k4, .inl ⟨rfl, p4, S4, t4, hR4, hTo4, hpl4.trans (hpl3.trans hpl), rfl⟩⟩
      · refine ⟨0, by omega, v4, rfl, (k2.trans k3).trans k4, .inr ⟨fun z => ?_, hR4, by rw [← hpl, ← hpl3]; exact hv4, rfl⟩⟩
        obtain ⟨a, e⟩ := hv4.ref
        rw [e] at z
        cases z
    · obtain ⟨dx2, fs2, vs2, hx2, hb2, hp2⟩ := id hR2
      refine ⟨_, rfl, rfl, _, rfl, ifF hnn ⟨_, rfl, x, dx2, fs2, rfl, hx2.ins, hx2.meth _ (by decide +kernel), x, bg, L, L.length, dx2, fs2, rfl, hx2, hL.len, _, rfl, ?_⟩⟩
      rw [decide_eq_true rfl]
      refine iteF ⟨_, rfl, k tv H2 (same_keep same01 k2 nL) hv⟩
end
end NC
/-! ### lines read or refused -/
namespace NC
open PySem PySem.Spec PyProof.Rows L2
section
variable {P : Program} {w : World} {K : PySem.W.Frag} {mg : Str → Option Value} {base : Heap}
seal L2.PE L2.PA L2.PT L2.PS L2.PSs L2.PW L2.PG L2.PGs L2.PI L2.PO L2.OpR L2.UnR L2.CallR L2.TruR L2.IxR L2.SlR
inductive Sp_needEI (C CL : Addr) (vs : List V) (H : Hp) (Q : VK) (E : XK) : Prop where
  | mk (x bg : Addr) (L : Str) (p : Nat) (S : List Bg) (sg : Str) (c : Nat) (c1 : vs = [.ref x, .str sg]) (c2 : sg.cps.toList = [c]) (c3 : RdAt C x bg L p S H) (c4 : p ≤ L.length) (c5 : L.length ≤ 500000) (c6 : L.cps.toList[p]? = some c → ∀ H', Keep [x] H H' → RdAt C x bg L (p + 1) S H' → Q .non H') (c7 : L.cps.toList[p]? ≠ some c → ∀ e, E (.ref e) (some CL) H)
def sp_needE (C CL : Addr) : Sp := fun vs H Q E => Sp_needEI C CL vs H Q E
theorem ok_needE {f C CL : Addr} {fd : FuncData} (F : Fun K "need" "Reader.need" s_Reader_need f fd) (R : RdCls K C) (O_NoLine : ExcC "NoLine" CL mg base) (G_Reader_take : GM P w K mg base CX0 2 C "take" ["self", "sign"] (sp_rtake C)) : FnOk P w K mg base (CXE P w) 3 f fd ["self", "sign"] (sp_needE C CL) := by
  refine okE F sc_Reader_need (fun vs H Q E h => ?_) (fun cdv A outer s H vs Q E hr h => ?_)
  · obtain ⟨x, bg, L, p, S, sg, c, rfl, _⟩ := h
    rfl
  · obtain ⟨x, bg, L, p, S, sg, c, rfl, hsg, hR, hpl, hL, k1, k2⟩ := h
    have hh : A.handled = none := hr.hd
    obtain ⟨dx, fs, vs, hx, hb, hp⟩ := id hR
    refine ⟨_, (pss_one (ps_if (pt_not (pt_val (pe_gm (pv 0) R.cl G_Reader_take (hr.mono (by decide)) pass0 (pa_c (pv 1) pa_nil)))) (pss_one (ps_raise O_NoLine hh rfl pe_str)) pss_nil)), ?_⟩
    show (let V1_ : TS := _; tIfS _ V1_ _ _ _ _)
    intro V1_
    exact ⟨_, rfl, x, dx, fs, rfl, hx.ins, hx.meth _ (by decide +kernel), _, rfl, x, bg, L, p, S, sg, c, rfl, hsg, hR, hpl, hL, fun hc H' kp r => ⟨_, rfl, iteF (k1 hc H' kp r)⟩, fun n => ⟨_, rfl, iteT ⟨rfl, fun e => k2 n e⟩⟩⟩
inductive Sp_wordEI (C CL : Addr) (vs : List V) (H : Hp) (Q : VK) (E : XK) : Prop where
  | mk (x bg : Addr) (L : Str) (p : Nat) (S : List Bg) (c1 : vs = [.ref x]) (c2 : RdAt C x bg L p S H) (c3 : p ≤ L.length) (c4 : L.length ≤ 500000) (c5 : ∀ c ∈ L.cps.toList, c < 128)
    (c6 : ∀ (wd : Str) (rest : List Nat), 1 ≤ wd.cps.toList.length → (∀ c ∈ wd.cps.toList, isL c) → L.cps.toList.drop p = wd.cps.toList ++ rest → noL rest → ∀ H', Keep [x] H H' → RdAt C x bg L (p + wd.cps.toList.length) S H' → Q (.str wd) H')
    (c7 : (∀ c, L.cps.toList[p]? = some c → ¬ isL c) → ∀ e H', Keep [x] H H' → E (.ref e) (some CL) H')
def sp_wordE (C CL : Addr) : Sp := fun vs H Q E => Sp_wordEI C CL vs H Q E
theorem ok_wordE {f C CL : Addr} {fd : FuncData} {tk : Tok} (F : Fun K "take_word" "Reader.take_word" s_Reader_take_word f fd) (R : RdCls K C) (hLet : mg "LETTERS" = some (.str (Str.ofString "abcdefghijklmnopqrstuvwxyz") tk)) (O_NoLine : ExcC "NoLine" CL mg base) (G_Reader_is_over : GM P w K mg base CX0 1 C "is_over" ["self"] (sp_rover C)) : FnOk P w K mg base (CXE P w) 2 f fd ["self"] (sp_wordE C CL) := by
  refine okE F sc_Reader_take_word (fun vs H Q E h => ?_) (fun cdv A outer s H vs Q E hr h => ?_)
  · obtain ⟨x, bg, L, p, S, rfl, _⟩ := h
    rfl
  · obtain ⟨x, bg, L, p, S, rfl, hR, hpl, hL, hasc, kW, kE⟩ := h
    have hh : A.handled = none := hr.hd
    obtain ⟨ws, rest, hdr0, hlet, hrest⟩ := run_split (L.cps.toList.drop p)
    obtain ⟨wd, hwdl⟩ : ∃ wd : Str, wd.cps.toList = ws := ⟨⟨ws.toArray⟩, by simp⟩
    have hdr : L.cps.toList.drop p = wd.cps.toList ++ rest := by rw [hwdl]; exact hdr0
    have hlet : ∀ c ∈ wd.cps.toList, isL c := by rw [hwdl]; exact hlet
    have hlen : L.cps.toList.length = L.length := by simp [Str.length]
    have hdl := drop_len hdr (by rw [hlen]; exact hpl)
    rw [hlen] at hdl
    obtain ⟨dx0, fs0, vs0, hx0, _⟩ := id hR
    refine ⟨_, (pss_cons (ps_set (i := 1) sc_Reader_take_word.nd rfl (Or.inl rfl) (pe_fld (pv 0) rfl))
      (pss_cons (ps_while ownE (PW.pt (pw_and (pt_not (pt_val (pe_gm0 (pv 0) R.cl G_Reader_is_over (hr.mono (by decide)) pass0))) (pw_and1 (pt_cmpR op_in_str (pe_ix ix_str (pe_fld (pv 0) rfl) (pe_fld (pv 0) rfl) (fun _ _ => rfl)) (pe_glob (v := .str (Str.ofString "abcdefghijklmnopqrstuvwxyz")) rfl hLet ⟨_, rfl⟩) rfl)))) (pss_one (ps_fldaug (pv 0) pe_int in_add)))
      (pss_cons (ps_if (pt_cmpR op_eq (pe_fld (pv 0) rfl) (pv 1) (nomark _)) (pss_one (ps_raise O_NoLine hh rfl pe_str)) pss_nil)
      (pss_one (ps_ret (pe_slice sl_str (pe_fld (pv 0) rfl) (po_some (pv 1)) (po_some (pe_fld (pv 0) rfl)))))))), ?_⟩
    show (let V1_ : TS := _; let V2_ : TS := _; let V3_ : TS := tSeq (tIfS _ V2_ _) V1_; let V4_ : TS := _; let V5_ : TS := tSeq (tWhile _ V4_) V3_; tSeq _ V5_ _ _ _)
    intro V1_ V2_ V3_ V4_ V5_
    refine ⟨_, rfl, x, C, dx0, fs0, _, rfl, hx0.ins, R.cl, R.nA, hx0.at_, ?_⟩
    refine ⟨fun m σ H' => ∃ i, m = wd.cps.toList.length - i ∧ i ≤ wd.cps.toList.length ∧ σ = [some (.ref x), some (.int (p : Int))] ∧ Keep [x] H H' ∧ RdAt C x bg L (p + i) S H', ⟨_, 0, rfl, Nat.zero_le _, rfl, Keep.refl _ _, hR⟩, ?_⟩
    rintro m σ H1 ⟨i, rfl, hi, rfl, k1, hR1⟩
    obtain ⟨dx, fs, vs, hx, hb, hp⟩ := id hR1
    refine ⟨_, rfl, x, dx, fs, rfl, hx.ins, hx.meth _ (by decide +kernel), x, bg, L, p + i, dx, fs, rfl, hx, hL, _, rfl, ?_⟩
    have out : 1 ≤ wd.cps.toList.length → i = wd.cps.toList.length → Q (.str (Txt.slice L (some (p : Int)) (some ((p + i : Nat) : Int)))) H1 := fun hpos e => by
      rw [show Txt.slice L (some (p : Int)) (some ((p + i : Nat) : Int)) = wd from str_ext (by
        rw [slice_cps (by omega) (by omega), hdr, show p + i - p = wd.cps.toList.length by omega, List.take_left])]
      rw [e] at hR1
      exact kW wd rest hpos hlet hdr hrest H1 k1 hR1
    by_cases e : i = wd.cps.toList.length
    · -- behind the word
      by_cases hr0 : p + i = L.length
      · rw [decide_eq_true hr0]
        refine iteF (iteF ?_)
        refine ⟨_, rfl, x, C, dx, fs, _, rfl, hx.ins, R.cl, R.nA, hx.at_, _, rfl, rfl, _, rfl, ifD (fun z => ?_) (fun z => ?_)⟩
        · have hi0 : wd.cps.toList = [] := by
            have := V.int.inj z
            exact List.eq_nil_of_length_eq_zero (by omega)
          rw [hi0] at hdr
          exact ⟨rfl, fun e => kE (fun c hc => hrest c (by rw [← hc, show rest = L.cps.toList.drop p from by rw [hdr]; rfl, List.getElem?_drop, Nat.add_zero])) e H1 k1⟩
        · have hpos : 1 ≤ wd.cps.toList.length := Nat.one_le_iff_ne_zero.mpr fun q => z (by rw [show p + i = p by omega])
          refine ⟨_, rfl, x, C, dx, fs, _, rfl, hx.ins, R.cl, R.nL, hx.line, _, rfl, _, rfl, _, rfl, x, C, dx, fs, _, rfl, hx.ins, R.cl, R.nA, hx.at_, _, rfl, L, rfl, small' (by omega), out hpos e⟩
      · rw [decide_eq_false hr0]
        obtain ⟨c, hc⟩ : ∃ c, L.cps.toList[p + i]? = some c := ⟨_, List.getElem?_eq_getElem (by omega)⟩
        have hcr : rest[0]? = some c := by
          rw [drop_get hdr, e, List.getElem?_append_right (Nat.le_refl _), Nat.sub_self] at hc
          exact hc
        refine iteT ⟨_, rfl, x, C, dx, fs, _, rfl, hx.ins, R.cl, R.nL, hx.line, _, rfl, x, C, dx, fs, _, rfl, hx.ins, R.cl, R.nA, hx.at_, L, ((p + i : Nat) : Int), c, rfl, rfl, small' (by omega), atI_nat hc, _, _, rfl, rfl, _, rfl, ?_⟩
        rw [in_letters c (hasc c (List.mem_of_getElem? hc)), decide_eq_false (hrest c hcr)]
        refine iteF ?_
        refine ⟨_, rfl, x, C, dx, fs, _, rfl, hx.ins, R.cl, R.nA, hx.at_, _, rfl, rfl, _, rfl, ifD (fun z => ?_) (fun z => ?_)⟩
        · have hi0 : wd.cps.toList = [] := by
            have := V.int.inj z
            exact List.eq_nil_of_length_eq_zero (by omega)
          rw [hi0] at hdr
          exact ⟨rfl, fun e => kE (fun c hc => hrest c (by rw [← hc, show rest = L.cps.toList.drop p from by rw [hdr]; rfl, List.getElem?_drop, Nat.add_zero])) e H1 k1⟩
        · have hpos : 1 ≤ wd.cps.toList.length := Nat.one_le_iff_ne_zero.mpr fun q => z (by rw [show p + i = p by omega])
          refine ⟨_, rfl, x, C, dx, fs, _, rfl, hx.ins, R.cl, R.nL, hx.line, _, rfl, _, rfl, _, rfl, x, C, dx, fs, _, rfl, hx.ins, R.cl, R.nA, hx.at_, _, rfl, L, rfl, small' (by omega), out hpos e⟩
    · have hlt : i < wd.cps.toList.length := by omega
      rw [decide_eq_false (by omega)]
      obtain ⟨c, hc0⟩ : ∃ c, wd.cps.toList[i]? = some c := ⟨_, List.getElem?_eq_getElem hlt⟩
      have hc : L.cps.toList[p + i]? = some c := by rw [drop_get hdr, List.getElem?_append_left hlt]; exact hc0
      refine iteT ⟨_, rfl, x, C, dx, fs, _, rfl, hx.ins, R.cl, R.nL, hx.line, _, rfl, x, C, dx, fs, _, rfl, hx.ins, R.cl, R.nA, hx.at_, L, ((p + i : Nat) : Int), c, rfl, rfl, small' (by omega), atI_nat hc, _, _, rfl, rfl, _, rfl, ?_⟩
      rw [in_letters c (hasc c (List.mem_of_getElem? hc)), decide_eq_true (hlet c (List.mem_of_getElem? hc0))]
      refine iteT ⟨fun σ' H' => ∃ m', m' < wd.cps.toList.length - i ∧ ∃ i, m' = wd.cps.toList.length - i ∧ i ≤ wd.cps.toList.length ∧ σ' = [some (.ref x), some (.int (p : Int))] ∧ Keep [x] H H' ∧ RdAt C x bg L (p + i) S H', fun _ _ h => h, ?_⟩
      refine ⟨_, rfl, x, C, dx, fs, _, rfl, hx.ins, R.cl, R.nA, hx.at_, _, _, rfl, rfl, dx, fs, hx.ins, Nat.lt_trans hx.few (by decide), ?_⟩
      obtain ⟨q1, q2⟩ := RdAt.step hx hb hp
      exact ⟨_, by omega, i + 1, rfl, hlt, rfl, k1.trans q2, q1⟩
end
end NC
/-! ### lines read or refused: names, ends, the whole -/
namespace NC
open PySem PySem.Spec PyProof.Rows L2
/-- what was read so far, by what is begun (the innermost first) -/
def preB : List Bg → List Nat
  | [] => []
  | .form w :: S => preB S ++ (w.cps.toList ++ [58])
  | .one _ :: S => preB S ++ [40]
  | .two a :: S => preB S ++ (40 :: (a.line ++ [32]))
def Bg.okL : Bg → Prop
  | .form w => w.cps.toList ≠ [] ∧ ∀ c ∈ w.cps.toList, isL c
  | .one _ => True
  | .two a => a.okL
/-- so far read -/
structure SoFar (L : Str) (p : Nat) (S : List Bg) (more : List Nat) : Prop where
  take : L.cps.toList.take p = preB S ++ more
  oks : ∀ b ∈ S, b.okL
  le : p ≤ L.length
  few : S.length ≤ p
theorem take_one {l : List Nat} {p c : Nat} (h : l[p]? = some c) : l.take (p + 1) = l.take p ++ [c] := by rw [List.take_add_one, h]; rfl
theorem take_more {l u r : List Nat} {p : Nat} (h : l.drop p = u ++ r) : l.take (p + u.length) = l.take p ++ u := by
  rw [List.take_add, h, List.take_left]
section
variable {P : Program} {w : World} {K : PySem.W.Frag} {mg : Str → Option Value} {base : Heap}
seal L2.PE L2.PA L2.PT L2.PS L2.PSs L2.PW L2.PG L2.PGs L2.PI L2.PO L2.OpR L2.UnR L2.CallR L2.TruR L2.IxR L2.SlR
inductive Sp_nameEI (C CL : Addr) (vs : List V) (H : Hp) (Q : VK) (E : XK) : Prop where
  | mk (x bg : Addr) (L : Str) (p : Nat) (S : List Bg) (c1 : vs = [.ref x]) (c2 : RdAt C x bg L p S H) (c3 : LineOk L) (c4 : SoFar L p S [])
    (c5 : ∀ v wd S' p' H', Keep [x, bg] H H' → RdAt C x bg L p' S' H' → NamedAt H' v (.name wd) → (NT.name wd).okL → SoFar L p' S' wd.cps.toList → p < p' → Q v H') (c6 : ∀ e H', Keep [x, bg] H H' → E (.ref e) (some CL) H')
def sp_nameE (C CL : Addr) : Sp := fun vs H Q E => Sp_nameEI C CL vs H Q E
inductive InvNameE (C x bg : Addr) (L : Str) (p : Nat) (H : Hp) (m : Nat) (σ : L2.St) (H' : Hp) : Prop where
  | mk (xw : Option V) (S' : List Bg) (p' : Nat) (c1 : σ = [some (.ref x), xw]) (c2 : Keep [x, bg] H H') (c3 : RdAt C x bg L p' S' H') (c4 : SoFar L p' S' []) (c6 : p ≤ p') (c7 : m = L.length - p')
theorem ok_nameE {f C CL : Addr} {fd : FuncData} (F : Fun K "next_name" "Reader.next_name" s_Reader_next_name f fd) (R : RdCls K C) (G_Reader_take : GM P w K mg base CX0 2 C "take" ["self", "sign"] (sp_rtake C)) (G_Reader_take_word : GM P w K mg base (CXE P w) 2 C "take_word" ["self"] (sp_wordE C CL)) : FnOk P w K mg base (CXE P w) 3 f fd ["self"] (sp_nameE C CL) := by
  refine okE F sc_Reader_next_name (fun vs H Q E h => ?_) (fun cdv A outer s H vs Q E hr h => ?_)
  · obtain ⟨x, bg, L, p, S, rfl, _⟩ := h
    rfl
  · obtain ⟨x, bg, L, p, S, rfl, hR, hL, hT, k, kE⟩ := h
    have hlen := len_cps L
    have hh : A.handled = none := hr.hd
    refine ⟨_, (pss_one (ps_while ownE (pt_val pe_bl) (pss_one (ps_if (pt_val (pe_gm (pv 0) R.cl G_Reader_take (hr.mono (by decide)) pass0 (pa_c pe_str pa_nil))) (pss_one (ps_expr (pApp (pe_fld (pv 0) rfl) (pTup (pa_c pe_str pa_nil))))) (pss_cons (ps_set (i := 1) sc_Reader_next_name.nd rfl (Or.inl rfl) (pe_gm0 (pv 0) R.cl G_Reader_take_word (hr.mono (by decide)) passE))
      (pss_cons (ps_if (pt_not (pt_val (pe_gm (pv 0) R.cl G_Reader_take (hr.mono (by decide)) pass0 (pa_c pe_str pa_nil)))) (pss_one (ps_ret (pTup (pa_c pe_str (pa_c (pv 1) pa_nil))))) pss_nil)
      (pss_one (ps_expr (pApp (pe_fld (pv 0) rfl) (pTup (pa_c pe_str (pa_c (pv 1) pa_nil)))))))))))), ?_⟩
    show (let V1_ : TS := _; let V2_ : TS := _; let V3_ : TS := _; let V4_ : TS := tSeq (tIfS _ V3_ _) V2_; let V5_ : TS := tSeq _ V4_; let V6_ : TS := tIfS _ V1_ V5_; tWhile _ V6_ _ _ _)
    intro V1_ V2_ V3_ V4_ V5_ V6_
    refine ⟨InvNameE C x bg L p H, ⟨_, none, S, p, rfl, Keep.refl _ _, hR, hT, Nat.le_refl _, rfl⟩, ?_⟩
    rintro m σ H1 ⟨xw, S1, p1, rfl, k1, hR1, hT1, hpp, rfl⟩
    refine ⟨_, rfl, iteT ⟨fun σ' H' => ∃ m', m' < L.length - p1 ∧ InvNameE C x bg L p H m' σ' H', fun _ _ h => h, ?_⟩⟩
    obtain ⟨dx, fs, vs, hx, hb, hp⟩ := id hR1
    refine ⟨_, rfl, x, dx, fs, rfl, hx.ins, hx.meth _ (by decide +kernel), x, bg, L, p1, S1, _, 40, rfl, s_opn, hR1, hT1.le, hL.len, fun hc H2 k2 hR2 => ⟨_, rfl, iteT ?_⟩, fun hc => ⟨_, rfl, iteF ?_⟩⟩
    · -- a call begins
      obtain ⟨dx2, fs2, vs2, hx2, hb2, hp2⟩ := id hR2
      have K12 : Keep [x, bg] H1 H2 := k2.sub (by simp)
      have hlt : p1 < L.length := by
        have := (List.getElem?_eq_some_iff.mp hc).1
        omega
      refine ⟨_, rfl, x, C, dx2, fs2, _, rfl, hx2.ins, R.cl, R.nB, hx2.begun, Or.inl ⟨rfl, _, SqL.of hb2⟩, small' (by show 1 ≤ 1000000; decide), fun b9 H9 n9 s9 h9 => ⟨_, _, _, rfl, rfl, s9 _ _ hb2, ?_, fun H10 k10 h10 => ?_⟩⟩
      · have := Paired.length hp2
        rw [List.length_reverse] at this
        have h1 := hT1.few
        have h2 := hT1.le
        have h3 := hL.len
        exact small (by omega)
      · have K29 : Keep [x, bg] H2 H10 := (Keep.of_same s9).trans (k10.sub (by simp))
        refine ⟨_, ?_, _, .one (.name ⟨#[]⟩) :: S1, p1 + 1, rfl, (k1.trans K12).trans K29, RdAt.begin hx2 hb2 hp2 s9 ⟨b9, rfl, h9⟩ k10 h10, ⟨?_, fun z hz => ?_, hlt, by have := hT1.few; rw [List.length_cons]; omega⟩, by omega, rfl⟩
        · omega
        · rw [take_one hc, hT1.take, List.append_nil, List.append_nil]
          rfl
        · rcases List.mem_cons.mp hz with rfl | hz
          · trivial
          · exact hT1.oks z hz
    · -- a word
      refine ⟨_, rfl, x, dx, fs, rfl, hx.ins, hx.meth _ (by decide +kernel), x, bg, L, p1, S1, rfl, hR1, hT1.le, hL.len, hL.asc, fun wd rest hpos hlet hdr hrest H2 k2 hR2 => ?_, fun _ e H2 k2 => kE e H2 (k1.trans (k2.sub (by simp)))⟩
      obtain ⟨dx2, fs2, vs2, hx2, hb2, hp2⟩ := id hR2
      have K12 : Keep [x, bg] H1 H2 := k2.sub (by simp)
      have hdl := drop_len hdr (by rw [hlen]; exact hT1.le)
      rw [hlen] at hdl
      have hne : wd.cps.toList ≠ [] := fun z => by rw [z] at hpos; exact absurd hpos (by decide)
      have htk : L.cps.toList.take (p1 + wd.cps.toList.length) = preB S1 ++ wd.cps.toList := by rw [take_more hdr, hT1.take, List.append_nil]
      refine ⟨_, rfl, x, dx2, fs2, rfl, hx2.ins, hx2.meth _ (by decide +kernel), x, bg, L, p1 + wd.cps.toList.length, S1, _, 58, rfl, s_col, hR2, by omega, hL.len, fun hc2 H3 k3 hR3 => ⟨_, rfl, iteF ?_⟩, fun hc2 => ⟨_, rfl, iteT ?_⟩⟩
      · -- a form begins
        obtain ⟨dx3, fs3, vs3, hx3, hb3, hp3⟩ := id hR3
        have K23 : Keep [x, bg] H2 H3 := k3.sub (by simp)
        have hlt : p1 + wd.cps.toList.length < L.length := by
          have := (List.getElem?_eq_some_iff.mp hc2).1
          omega
        refine ⟨_, rfl, x, C, dx3, fs3, _, rfl, hx3.ins, R.cl, R.nB, hx3.begun, Or.inl ⟨rfl, _, SqL.of hb3⟩, _, rfl, small' (by show 2 ≤ 1000000; decide), fun b9 H9 n9 s9 h9 => ⟨_, _, _, rfl, rfl, s9 _ _ hb3, ?_, fun H10 k10 h10 => ?_⟩⟩
        · have := Paired.length hp3
          rw [List.length_reverse] at this
          have h1 := hT1.few
          have h2 := hT1.le
          have h3 := hL.len
          exact small (by omega)
        · have K39 : Keep [x, bg] H3 H10 := (Keep.of_same s9).trans (k10.sub (by simp))
          refine ⟨_, ?_, _, .form wd :: S1, p1 + wd.cps.toList.length + 1, rfl, ((k1.trans K12).trans K23).trans K39, RdAt.begin hx3 hb3 hp3 s9 ⟨b9, rfl, h9⟩ k10 h10, ⟨?_, fun z hz => ?_, hlt, by have := hT1.few; rw [List.length_cons]; omega⟩, by omega, rfl⟩
          · omega
          · rw [take_one hc2, htk, List.append_nil, List.append_assoc]
            rfl
          · rcases List.mem_cons.mp hz with rfl | hz
            · exact ⟨hne, hlet⟩
            · exact hT1.oks z hz
      · -- a name
        refine ⟨_, rfl, small' (by show 2 ≤ 1000000; decide), fun b9 H9 n9 s9 h9 => ?_⟩
        refine k _ wd S1 _ H9 ((k1.trans K12).trans (.of_same s9)) ?_ (.name h9) ⟨hne, hlet⟩ ⟨htk, hT1.oks, by omega, by have := hT1.few; omega⟩ (by omega)
        exact ⟨dx2, fs2, vs2, hx2.keep (by rw [s9 _ _ hx2.ins, hx2.ins]), s9 _ _ hb2, bgs_mono hp2 (.of_same s9)⟩
inductive Sp_endedEI (C CL : Addr) (vs : List V) (H : Hp) (Q : VK) (E : XK) : Prop where
  | mk (x bg : Addr) (L : Str) (p : Nat) (S : List Bg) (v : V) (t : NT) (c1 : vs = [.ref x, v]) (c2 : RdAt C x bg L p S H) (c3 : LineOk L) (c4 : NamedAt H v t) (c5 : t.okL) (c6 : SoFar L p S t.line)
    (c7 : ∀ S' p' H', Keep [x, bg] H H' → RdAt C x bg L p' S' H' → SoFar L p' S' [] → p < p' → Q .non H') (c8 : ∀ v' t' p' H', Keep [x, bg] H H' → RdAt C x bg L p' [] H' → NamedAt H' v' t' → t'.okL → SoFar L p' [] t'.line → Q v' H') (c9 : ∀ e H', Keep [x, bg] H H' → E (.ref e) (some CL) H')
def sp_endedE (C CL : Addr) : Sp := fun vs H Q E => Sp_endedEI C CL vs H Q E
inductive InvEndedE (C x bg : Addr) (L : Str) (p : Nat) (H : Hp) (m : Nat) (σ : L2.St) (H' : Hp) : Prop where
  | mk (xo : Option V) (v : V) (S' : List Bg) (p' : Nat) (t' : NT) (c1 : σ = [some (.ref x), some v, xo]) (c2 : Keep [x, bg] H H') (c3 : RdAt C x bg L p' S' H') (c4 : NamedAt H' v t') (c5 : t'.okL) (c6 : SoFar L p' S' t'.line) (c11 : p ≤ p') (c12 : m = S'.length)
theorem kp2_tupsE {C x bg : Addr} {L : Str} {p : Nat} {dx : Addr} {fs : List (Str × V)} {vs : List V} {H H' : Hp} (h : RdO C x bg L p dx fs H) (hb : H bg = some (.lst vs)) (k : Keep [x, bg] H H') : Tups H H' := fun b xs e => k b _ (fun z => by
  rcases List.mem_cons.mp z with z | z
  · rw [z, h.ins] at e; cases e
  · rw [List.mem_singleton.mp z, hb] at e; cases e) e
theorem ok_endedE {f C CL : Addr} {fd : FuncData} (F : Fun K "ended" "Reader.ended" s_Reader_ended f fd) (N_ : NoNames mg) (R : RdCls K C) (G_Reader_need : GM P w K mg base (CXE P w) 3 C "need" ["self", "sign"] (sp_needE C CL)) : FnOk P w K mg base (CXE P w) 4 f fd ["self", "part"] (sp_endedE C CL) := by
  refine okE F sc_Reader_ended (fun vs H Q E h => ?_) (fun cdv A outer s H vs Q E hr h => ?_)
  · obtain ⟨x, bg, L, p, S, v, t, rfl, _⟩ := h
    rfl
  · obtain ⟨x, bg, L, p, S, v, t, rfl, hR, hL, hv, hok, hT, k1, k2, kE⟩ := h
    have hlen := len_cps L
    have hh : A.handled = none := hr.hd
    refine ⟨_, (pss_cons (ps_while ownE (pt_truth (pe_fld (pv 0) rfl) (fun _ => rfl)) (pss_cons (ps_set (i := 2) sc_Reader_ended.nd rfl (Or.inl rfl) (pPop (pe_fld (pv 0) rfl)))
      (pss_one (ps_if (pt_cmpR op_eq (pe_ix ix_tup (pv 2) pe_int (fun _ _ => rfl)) pe_str (nomark _)) (pss_one (ps_set (i := 1) sc_Reader_ended.nd rfl (Or.inl rfl) (pTup (pa_c pe_str (pa_c (pe_ix ix_tup (pv 2) pe_int (fun _ _ => rfl)) (pa_c (pv 1) pa_nil)))))) (pss_one (ps_if (pt_cmpR op_eq (pCB call_len_seq (by rfl) N_.len boot_len (pa_c (pv 2) pa_nil)) pe_int (nomark _)) (pss_cons (ps_expr (pe_gm (pv 0) R.cl G_Reader_need (hr.mono (by decide)) passE (pa_c pe_str pa_nil)))
      (pss_one (ps_set (i := 1) sc_Reader_ended.nd rfl (Or.inl rfl) (pTup (pa_c pe_str (pa_c (pe_ix ix_tup (pv 2) pe_int (fun _ _ => rfl)) (pa_c (pv 1) pa_nil))))))) (pss_cons (ps_expr (pe_gm (pv 0) R.cl G_Reader_need (hr.mono (by decide)) passE (pa_c pe_str pa_nil)))
      (pss_cons (ps_expr (pApp (pe_fld (pv 0) rfl) (pTup (pa_c pe_str (pa_c (pv 1) pa_nil)))))
      (pss_one (ps_ret pe_non))))))))))
      (pss_one (ps_ret (pv 1)))), ?_⟩
    show (let V1_ : TS := _; let V2_ : TS := _; let V3_ : TS := _; let V4_ : TS := tSeq _ V3_; let V5_ : TS := _; let V6_ : TS := tSeq _ V5_; let V7_ : TS := tSeq _ V6_; let V8_ : TS := tIfS _ V4_ V7_; let V9_ : TS := tIfS _ V2_ V8_; let V10_ : TS := tSeq _ V9_; tSeq (tWhile _ V10_) V1_ _ _ _)
    intro V1_ V2_ V3_ V4_ V5_ V6_ V7_ V8_ V9_ V10_
    refine ⟨InvEndedE C x bg L p H, ⟨S.length, none, v, S, p, t, rfl, Keep.refl _ _, hR, hv, hok, hT, Nat.le_refl _, rfl⟩, ?_⟩
    rintro m σ H1 ⟨xo, v1, S1, p1, t1, rfl, kk1, hR1, hv1, hok1, hT1, hpp, rfl⟩
    obtain ⟨dx, fs, vs, hx, hb, hp⟩ := id hR1
    have hvl := Paired.length hp
    rw [List.length_reverse] at hvl
    cases S1 with
    | nil =>
      have e : vs = [] := List.length_eq_zero_iff.mp hvl
      subst e
      exact ⟨_, rfl, x, C, dx, fs, _, rfl, hx.ins, R.cl, R.nB, hx.begun, false, Or.inl ⟨_, SqL.of hb, rfl⟩, iteF ⟨_, rfl, k2 v1 t1 p1 H1 kk1 hR1 hv1 hok1 hT1⟩⟩
    | cons b S2 =>
      rw [List.reverse_cons] at hp
      have hne : vs ≠ [] := fun z => by rw [z] at hvl; cases hvl
      obtain ⟨vs', u, rfl, hp', hu⟩ := paired_snoc_inv hp
      refine ⟨_, rfl, x, C, dx, fs, _, rfl, hx.ins, R.cl, R.nB, hx.begun, true, Or.inl ⟨_, SqL.of hb, by simp⟩, iteT ⟨fun σ' H' => ∃ m', m' < (b :: S2).length ∧ InvEndedE C x bg L p H m' σ' H', fun _ _ h => h, ?_⟩⟩
      refine ⟨_, rfl, x, C, dx, fs, _, rfl, hx.ins, R.cl, R.nB, hx.begun, Or.inl ⟨rfl, _, SqL.of hb⟩, bg, vs', u, rfl, rfl, hb, fun H6 k6 hb6 => ?_⟩
      have nb := bg_ne hx hb
      have tu6 := kp1_tups k6 hb
      have hx6 : RdO C x bg L p1 dx fs H6 := hx.keep (by rw [k6 _ _ (by simp [nb.symm]) hx.ins, hx.ins])
      have hp6 := bgs_mono hp' tu6
      have hu6 := BgAt.mono hu tu6
      have hv6 := hv1.mono tu6
      have K6 : Keep [x, bg] H1 H6 := k6.sub (by simp)
      have hfew1 := hT1.few
      have hle1 := hT1.le
      have htk := hT1.take
      have hoks2 : ∀ z ∈ S2, z.okL := fun z hz => hT1.oks z (List.mem_cons_of_mem _ hz)
      have hokb := hT1.oks b List.mem_cons_self
      rw [List.length_cons] at hfew1
      cases b with
      | form wd =>
        obtain ⟨a, rfl, ha⟩ := hu6
        refine ⟨_, rfl, _, _, _, _, rfl, rfl, SqT.of ha, at0, rfl, _, rfl, ifT rfl ⟨_, rfl, _, _, _, _, rfl, rfl, SqT.of ha, at1, _, rfl, small' (by show 3 ≤ 1000000; decide), fun b9 H9 n9 s9 h9 => ?_⟩⟩
        refine ⟨S2.length, by simp, _, _, S2, p1, .form wd t1, rfl, (kk1.trans K6).trans (.of_same s9), ⟨dx, fs, vs', hx6.keep (by rw [s9 _ _ hx6.ins, hx6.ins]), s9 _ _ hb6, bgs_mono hp6 (.of_same s9)⟩, .form h9 (hv6.same s9), ⟨hokb, hok1⟩, ⟨?_, hoks2, hle1, by omega⟩, hpp, rfl⟩
        rw [htk]
        show (preB S2 ++ (wd.cps.toList ++ [58])) ++ t1.line = preB S2 ++ (wd.cps.toList ++ 58 :: t1.line)
        simp
      | two a0 =>
        obtain ⟨a, u0, rfl, ha, hu0⟩ := hu6
        refine ⟨_, rfl, _, _, _, _, rfl, rfl, SqT.of ha, at0, rfl, _, rfl, ifF n_cf ⟨_, rfl, _, _, rfl, Or.inr (SqT.of ha), rfl, _, rfl, ifT rfl ?_⟩⟩
        refine ⟨_, rfl, x, dx, fs, rfl, hx6.ins, hx6.meth _ (by decide +kernel), x, bg, L, p1, S2, _, 41, rfl, s_cls, ⟨dx, fs, vs', hx6, hb6, hp6⟩, hle1, hL.len, fun hc H7 k7 hR7 => ?_, fun _ e => kE e H6 (kk1.trans K6)⟩
        have hlt : p1 < L.length := by
          have := (List.getElem?_eq_some_iff.mp hc).1
          omega
        have K7 : Keep [x, bg] H6 H7 := k7.sub (by simp)
        have tu7 := kp2_tupsE hx6 hb6 K7
        refine ⟨_, rfl, _, _, _, _, rfl, rfl, SqT.of (tu7 _ _ ha), at1, _, rfl, small' (by show 3 ≤ 1000000; decide), fun b9 H9 n9 s9 h9 => ?_⟩
        obtain ⟨dx7, fs7, vs7, hx7, hb7, hp7⟩ := id hR7
        refine ⟨S2.length, by simp, _, _, S2, p1 + 1, .call a0 t1, rfl, ((kk1.trans K6).trans K7).trans (.of_same s9), ⟨dx7, fs7, vs7, hx7.keep (by rw [s9 _ _ hx7.ins, hx7.ins]), s9 _ _ hb7, bgs_mono hp7 (.of_same s9)⟩, .call h9 ((hu0.mono tu7).same s9) ((hv6.mono tu7).same s9), ⟨hokb, hok1⟩, ⟨?_, hoks2, hlt, by omega⟩, by omega, rfl⟩
        rw [take_one hc, htk]
        show ((preB S2 ++ (40 :: (a0.line ++ [32]))) ++ t1.line) ++ [41] = preB S2 ++ 40 :: (a0.line ++ 32 :: (t1.line ++ [41]))
        simp
      | one b0 =>
        obtain ⟨a, rfl, ha⟩ := hu6
        refine ⟨_, rfl, _, _, _, _, rfl, rfl, SqT.of ha, at0, rfl, _, rfl, ifF n_cf ⟨_, rfl, _, _, rfl, Or.inr (SqT.of ha), rfl, _, rfl, ifF (by decide) ?_⟩⟩
        refine ⟨_, rfl, x, dx, fs, rfl, hx6.ins, hx6.meth _ (by decide +kernel), x, bg, L, p1, S2, _, 32, rfl, s_blk, ⟨dx, fs, vs', hx6, hb6, hp6⟩, hle1, hL.len, fun hc H7 k7 hR7 => ?_, fun _ e => kE e H6 (kk1.trans K6)⟩
        have hlt : p1 < L.length := by
          have := (List.getElem?_eq_some_iff.mp hc).1
          omega
        have K7 : Keep [x, bg] H6 H7 := k7.sub (by simp)
        have tu7 := kp2_tupsE hx6 hb6 K7
        obtain ⟨dx7, fs7, vs7, hx7, hb7, hp7⟩ := id hR7
        refine ⟨_, rfl, x, C, dx7, fs7, _, rfl, hx7.ins, R.cl, R.nB, hx7.begun, Or.inl ⟨rfl, _, SqL.of hb7⟩, _, rfl, small' (by show 2 ≤ 1000000; decide), fun b9 H9 n9 s9 h9 => ⟨_, _, _, rfl, rfl, s9 _ _ hb7, ?_, fun H10 k10 h10 => ?_⟩⟩
        · have := Paired.length hp7
          rw [List.length_reverse] at this
          have h3 := hL.len
          exact small (by omega)
        · have K79 : Keep [x, bg] H7 H10 := (Keep.of_same s9).trans (k10.sub (by simp))
          refine k1 (.two t1 :: S2) (p1 + 1) H10 (((kk1.trans K6).trans K7).trans K79) (RdAt.begin hx7 hb7 hp7 s9 ⟨b9, _, rfl, h9, (hv6.mono tu7).same s9⟩ k10 h10) ⟨?_, fun z hz => ?_, hlt, by rw [List.length_cons]; omega⟩ (by omega)
          · rw [take_one hc, htk]
            show ((preB S2 ++ [40]) ++ t1.line) ++ [32] = (preB S2 ++ (40 :: (t1.line ++ [32]))) ++ []
            simp
          · rcases List.mem_cons.mp hz with rfl | hz
            · exact hok1
            · exact hoks2 z hz
inductive Sp_readBI (CL : Addr) (vs : List V) (H : Hp) (Q : VK) (E : XK) : Prop where
  | mk (L : Str) (c1 : vs = [.str L]) (c2 : LineOk L) (c3 : ∀ v' T H', Same H H' → NamedAt H' v' T → T.okL → L.cps.toList = T.line → Q v' H') (c4 : ∀ e H', Same H H' → E (.ref e) (some CL) H')
def sp_readB (CL : Addr) : Sp := fun vs H Q E => Sp_readBI CL vs H Q E
inductive InvReadE (C x bg : Addr) (L : Str) (H : Hp) (m : Nat) (σ : L2.St) (H' : Hp) : Prop where
  | mk (tv : V) (c1 : σ = [some (.str L), some (.ref x), some tv]) (c2 : Keep [x, bg] H H') (c3 : (tv = .non ∧ ∃ p S, RdAt C x bg L p S H' ∧ SoFar L p S [] ∧ m = L.length - p + 1) ∨ (tv ≠ .non ∧ ∃ p T, RdAt C x bg L p [] H' ∧ NamedAt H' tv T ∧ T.okL ∧ SoFar L p [] T.line ∧ m = 0))
theorem ok_readB {f C CL : Addr} {fd : FuncData} (F : Fun K "read" "read" s_read f fd) (R : RdCls K C) (O_NoLine : ExcC "NoLine" CL mg base) (G_Reader : GK P w K mg base CX0 1 C "Reader" ["self", "line"] (sp_rinit C)) (G_Reader_is_over : GM P w K mg base CX0 1 C "is_over" ["self"] (sp_rover C))
    (G_Reader_next_name : GM P w K mg base (CXE P w) 3 C "next_name" ["self"] (sp_nameE C CL)) (G_Reader_ended : GM P w K mg base (CXE P w) 4 C "ended" ["self", "part"] (sp_endedE C CL)) : FnOk P w K mg base (CXE P w) 5 f fd ["line"] (sp_readB CL) := by
  refine okE F sc_read (fun vs H Q E h => ?_) (fun cdv A outer s H vs Q E hr h => ?_)
  · obtain ⟨L, rfl, _⟩ := h
    rfl
  · obtain ⟨L, rfl, hL, k, kE⟩ := h
    have hlen := len_cps L
    have hh : A.handled = none := hr.hd
    refine ⟨_, (pss_cons (ps_set (i := 1) sc_read.nd rfl (Or.inl rfl) (pe_gk G_Reader (hr.mono (by decide)) rfl pass0 (pa_c (pv 0) pa_nil)))
      (pss_cons (ps_set (i := 2) sc_read.nd rfl (Or.inl rfl) pe_non)
      (pss_cons (ps_while ownE (pt_cmpR op_isN (pv 2) pe_non (nomark _)) (pss_one (ps_set (i := 2) sc_read.nd rfl (Or.inl rfl) (pe_gm (pv 1) R.cl G_Reader_ended (hr.mono (by decide)) passE (pa_c (pe_gm0 (pv 1) R.cl G_Reader_next_name (hr.mono (by decide)) passE) pa_nil)))))
      (pss_cons (ps_if (pt_not (pt_val (pe_gm0 (pv 1) R.cl G_Reader_is_over (hr.mono (by decide)) pass0))) (pss_one (ps_raise O_NoLine hh rfl pe_str)) pss_nil)
      (pss_one (ps_ret (pv 2))))))), ?_⟩
    show (let V1_ : TS := _; let V2_ : TS := _; let V3_ : TS := tSeq (tIfS _ V2_ _) V1_; let V4_ : TS := _; let V5_ : TS := tSeq (tWhile _ V4_) V3_; let V6_ : TS := tSeq _ V5_; tSeq _ V6_ _ _ _)
    intro V1_ V2_ V3_ V4_ V5_ V6_
    refine ⟨_, rfl, fun x dx nx ndx nxd => ⟨x, dx, L, rfl, upd_same, fun bg H1 nb hR1 kp1 => ⟨rfl, ?_⟩⟩⟩
    have n_bg : H bg = none := by
      cases q : H bg with
      | none => rfl
      | some o =>
        have b1 : bg ≠ x := fun z => by rw [z, nx] at q; cases q
        have b2 : bg ≠ dx := fun z => by rw [z, ndx] at q; cases q
        rw [upd_ne b1, upd_ne b2, q] at nb
        cases nb
    have same01 : Same H H1 := fun b o e => by
      have b1 : b ≠ x := fun z => by rw [z, nx] at e; cases e
      have b2 : b ≠ dx := fun z => by rw [z, ndx] at e; cases e
      exact kp1 b o b1 (by rw [upd_ne b1, upd_ne b2]; exact e)
    have nL : ∀ z ∈ [x, bg], H z = none := fun z hz => by
      rcases List.mem_cons.mp hz with e | hz
      · rw [e]; exact nx
      · rw [List.mem_singleton.mp hz]; exact n_bg
    refine ⟨InvReadE C x bg L H1, ⟨L.length - 0 + 1, .non, rfl, Keep.refl _ _, .inl ⟨rfl, 0, [], hR1, ⟨by simp [preB], (fun b hb => nomatch hb), Nat.zero_le _, Nat.le_refl _⟩, rfl⟩⟩, ?_⟩
    rintro m σ H2 ⟨tv, rfl, k2, hcase⟩
    rcases hcase with ⟨rfl, p, S, hR2, hTo, rfl⟩ | ⟨hnn, p, T, hR2, hv, hokT, hTo, rfl⟩
    · refine ⟨_, rfl, rfl, _, rfl, ifT rfl ⟨fun σ' H' => ∃ m', m' < L.length - p + 1 ∧ InvReadE C x bg L H1 m' σ' H', fun _ _ h => h, ?_⟩⟩
      obtain ⟨dx2, fs2, vs2, hx2, hb2, hp2⟩ := id hR2
      refine ⟨_, rfl, x, dx2, fs2, rfl, hx2.ins, hx2.meth _ (by decide +kernel), _, rfl, x, dx2, fs2, rfl, hx2.ins, hx2.meth _ (by decide +kernel), x, bg, L, p, S, rfl, hR2, hL, hTo, fun v wd S' p' H3 k3 hR3 hv3 hwd hT3 hpp3 => ?_, fun e H3 k3 => kE e H3 (same_keep same01 (k2.trans k3) nL)⟩
      refine ⟨x, bg, L, p', S', v, .name wd, rfl, hR3, hL, hv3, hwd, hT3, fun S4 p4 H4 k4 hR4 hTo4 hpp4 => ?_, fun v4 t4 p4 H4 k4 hR4 hv4 ok4 hTo4 => ?_, fun e H4 k4 => kE e H4 (same_keep same01 ((k2.trans k3).trans k4) nL)⟩
      · exact ⟨_, by have := hTo4.le; omega, .non, rfl, (k2.trans k3).trans k4, .inl ⟨rfl, p4, S4, hR4, hTo4, rfl⟩⟩
      · refine ⟨0, by omega, v4, rfl, (k2.trans k3).trans k4, .inr ⟨fun z => ?_, p4, t4, hR4, hv4, ok4, hTo4, rfl⟩⟩
        obtain ⟨a, e⟩ := hv4.ref
        rw [e] at z
        cases z
    · obtain ⟨dx2, fs2, vs2, hx2, hb2, hp2⟩ := id hR2
      refine ⟨_, rfl, rfl, _, rfl, ifF hnn ⟨_, rfl, x, dx2, fs2, rfl, hx2.ins, hx2.meth _ (by decide +kernel), x, bg, L, p, dx2, fs2, rfl, hx2, hL.len, _, rfl, ?_⟩⟩
      by_cases e : p = L.length
      · rw [decide_eq_true e]
        refine iteF ⟨_, rfl, k tv T H2 (same_keep same01 k2 nL) hv hokT ?_⟩
        have := hTo.take
        rw [e, ← hlen, List.take_length] at this
        exact this
      · rw [decide_eq_false e]
        exact iteT ⟨rfl, fun ea => kE ea H2 (same_keep same01 k2 nL)⟩
end
end NC
/-! ### a law's named terms and their lines -/
namespace NC
open PySem PySem.Spec PyProof.Rows L2
section
variable {P : Program} {w : World} {K : PySem.W.Frag} {mg : Str → Option Value} {base : Heap}
seal L2.PE L2.PA L2.PT L2.PS L2.PSs L2.PW L2.PG L2.PGs L2.PI L2.PO L2.OpR L2.UnR L2.CallR L2.TruR L2.IxR L2.SlR
def sp_any_wordF : Sp := fun vs H Q _ => ∃ c, vs = [.int c] ∧ Q (.str (anyW c)) H
theorem letters_at {i : Nat} (h : i < 26) : (Str.ofString "abcdefghijklmnopqrstuvwxyz").cps.toList[i]? = some (97 + i) := by
  have : ∀ i : Fin 26, (Str.ofString "abcdefghijklmnopqrstuvwxyz").cps.toList[i.val]? = some (97 + i.val) := by decide +kernel
  exact this ⟨i, h⟩
theorem ok_any_wordF {f : Addr} {fd : FuncData} (F : Fun K "_law_any_word" "_law_any_word" s__law_any_word f fd) (N_ : NoNames mg) : FnOk P w K mg base CX0 1 f fd ["_law_cell"] sp_any_wordF := by
  refine F.ok sc__law_any_word (fun vs H Q E h => ?_) (fun cdv A outer s H vs Q E hr h => ?_)
  · obtain ⟨c, rfl, _⟩ := h
    rfl
  · obtain ⟨c, rfl, k⟩ := h
    refine ⟨_, (pss_cons (ps_set (i := 1) sc__law_any_word.nd rfl (Or.inl rfl) (pe_op op_mod (pCB call_abs (by rfl) N_.abs boot_abs (pa_c (pv 0) pa_nil)) (pe_op op_pow pe_int pe_int)))
      (pss_cons (ps_set (i := 2) sc__law_any_word.nd rfl (Or.inl rfl) pe_str)
      (pss_cons (ps_while PassesOwn.never (pt_cmpR op_ge (pv 1) pe_int (nomark _)) (pss_cons (ps_set (i := 2) sc__law_any_word.nd rfl (Or.inl rfl) (pe_op op_add_str (pe_ix ix_str pe_str (pe_op op_mod (pv 1) pe_int) (fun _ _ => rfl)) (pv 2)))
      (pss_one (ps_set (i := 1) sc__law_any_word.nd rfl (Or.inl rfl) (pe_op op_sub (pe_op op_fdiv (pv 1) pe_int) pe_int)))))
      (pss_one (ps_ret (pv 2)))))), ?_⟩
    show (let V1_ : TS := _; let V2_ : TS := _; let V3_ : TS := tSeq _ V2_; let V4_ : TS := tSeq (tWhile _ V3_) V1_; let V5_ : TS := tSeq _ V4_; tSeq _ V5_ _ _ _)
    intro V1_ V2_ V3_ V4_ V5_
    refine ⟨_, rfl, _, rfl, _, _, rfl, rfl, ⟨by decide, by decide, by decide⟩, _, _, rfl, rfl, (show (0 : Int) < 10 ^ (39 : Int).toNat by decide +kernel), ?_⟩
    obtain ⟨M, hM⟩ : ∃ M, ((if c < 0 then -c else c) % (10 : Int) ^ ((39 : Int).toNat)) = M := ⟨_, rfl⟩
    have hM0 : 0 ≤ M := by rw [← hM]; exact Int.emod_nonneg _ (by decide +kernel)
    have hM1 : M < 10 ^ 39 := by rw [← hM]; exact Int.emod_lt_of_pos _ (by decide +kernel)
    have hany : anyW c = goW (M.toNat + 1) (Str.ofString "") := by unfold anyW; rw [hM]
    refine ⟨fun m σ H' => ∃ (n : Nat) (w : Str), σ = [some (.int c), some (.int ((m : Int) - 1)), some (.str w)] ∧ H' = H ∧ w.length = n ∧ 26 ^ n * m ≤ 10 ^ 39 ∧ goW m w = anyW c ∧ (∀ z ∈ w.cps.toList, 97 ≤ z ∧ z ≤ 122) ∧ (1 ≤ n ∨ 1 ≤ m) ∧ n ≤ 100, ⟨M.toNat + 1, 0, "", ?_, rfl, rfl, ?_, hany.symm, ?_, .inr (by omega), by decide⟩, ?_⟩
    · have e : ((M.toNat + 1 : Nat) : Int) - 1 = M := by omega
      rw [e, ← hM]
      rfl
    · have : M.toNat + 1 ≤ 10 ^ 39 := by omega
      simpa using this
    · intro z hz
      have e : (Str.ofString "").cps.toList = [] := by decide +kernel
      rw [e] at hz
      cases hz
    · rintro m σ H' ⟨n, w, rfl, rfl, hn, hb, hg, hlet, hpos, hn1⟩
      refine ⟨_, rfl, _, _, rfl, rfl, _, rfl, ifD (fun hc => ?_) (fun hc => ⟨_, rfl, ?_⟩)⟩
      · have hm : 1 ≤ m := by omega
        have hn28 := word_bound hb hm
        refine ⟨fun σ' H'' => ∃ m', m' < m ∧ ∃ (n : Nat) (w : Str), σ' = [some (.int c), some (.int ((m' : Int) - 1)), some (.str w)] ∧ H'' = H' ∧ w.length = n ∧ 26 ^ n * m' ≤ 10 ^ 39 ∧ goW m' w = anyW c ∧ (∀ z ∈ w.cps.toList, 97 ≤ z ∧ z ≤ 122) ∧ (1 ≤ n ∨ 1 ≤ m') ∧ n ≤ 100, fun _ _ h => h, ?_⟩
        have hch : atI (Str.ofString "abcdefghijklmnopqrstuvwxyz").cps.toList (((m : Int) - 1) % 26) = some (97 + (m - 1) % 26) := by
          rw [show ((m : Int) - 1) % 26 = (((m - 1) % 26 : Nat) : Int) by omega]
          exact atI_nat (letters_at (by omega))
        refine ⟨_, rfl, _, _, rfl, rfl, (show (0 : Int) < 26 by decide), _, _, _, rfl, rfl, small' (by decide +kernel), hch, _, rfl, _, _, rfl, rfl, small' (by rw [hn]; show 1 + n ≤ _; omega), ?_⟩
        refine ⟨_, rfl, _, _, rfl, rfl, ⟨by decide, by decide⟩, _, _, rfl, rfl, ?_⟩
        refine ⟨(m - 1) / 26, by omega, n + 1, ⟨#[97 + (m - 1) % 26]⟩ ++ w, ?_, rfl, ?_, ?_, ?_, wd_any _ (by omega) (by omega) hlet, .inl (by omega), by omega⟩
        · have e : ((m : Int) - 1) / 26 - 1 = (((m - 1) / 26 : Nat) : Int) - 1 := by omega
          rw [← e]
          rfl
        · rw [Str.length_append, hn]
          show 1 + n = n + 1
          omega
        · have h1 : 26 ^ (n + 1) * ((m - 1) / 26) = 26 ^ n * (26 * ((m - 1) / 26)) := by rw [Nat.pow_succ, Nat.mul_assoc]
          rw [h1]
          refine Nat.le_trans (Nat.mul_le_mul_left _ ?_) hb
          omega
        · exact (goW_pos (by omega) w).symm.trans hg
      · have hm : m = 0 := by omega
        subst hm
        rw [goW_zero] at hg
        subst hg
        exact k
abbrev s__law_wordy : Stmt := top 11
theorem sc__law_wordy : FnScope ["_law_cells", "_law_pile", "_law_j", "_law_cell", "_law_way", "_law_letter", "_law_word", "_law_inner", "_law_other", "_law_one"] ["_law_cells"] (defScope s__law_wordy) := ⟨rfl, rfl, rfl, by decide +kernel, rfl, by decide +kernel, by decide +kernel⟩
def sp_wordy (K : PySem.W.Frag) : Sp := fun vs H Q _ => ∃ a, ∃ ns : List Int, vs = [.ref a] ∧ SqL K H a (ns.map V.int) ∧ ns.length ≤ 63 ∧ ∀ v H', Same H H' → NamedAt H' v (wordyT ns) → Q v H'
theorem at_map {ns : List Int} {j : Nat} (h : j < ns.length) : atI (ns.map V.int) (j : Int) = some (.int (ns.getD j 0)) := atI_nat (by
  rw [List.getElem?_map, List.getElem?_eq_getElem h, List.getD_eq_getElem?_getD, List.getElem?_eq_getElem h]
  rfl)
theorem at_letter (c : Int) : atI (Str.ofString "abcdefghijklmnopqrstuvwxyz").cps.toList (c % 26) = some (97 + (c % 26).toNat) := by
  have e : c % 26 = (((c % 26).toNat : Nat) : Int) := by omega
  conv => lhs; rw [e]
  exact atI_nat (letters_at (by omega))
theorem at_menu (l : Str) (k : Int) : atI [V.str "sab", V.str "tab", V.str "sat", V.str "sob", V.str l] (k % 5) = some (.str (menuS l k)) := by
  have e : k % 5 = (((k % 5).toNat : Nat) : Int) := by omega
  have hlt : (k % 5).toNat < 5 := by omega
  conv => lhs; rw [e]
  refine atI_nat ?_
  unfold menuS
  generalize (k % 5).toNat = j at hlt
  match j, hlt with
  | 0, _ => rfl
  | 1, _ => rfl
  | 2, _ => rfl
  | 3, _ => rfl
  | 4, _ => rfl
theorem word_then {ns : List Int} {j : Nat} (h : V.int (ns.getD j 0 % 11) = V.int 7) : anyW (ns.getD j 0 / 11) = wordAt ns j := by
  unfold wordAt
  rw [if_pos (V.int.inj h)]
theorem word_else {ns : List Int} {j : Nat} (h : ¬ V.int (ns.getD j 0 % 11) = V.int 7) : menuS (letterS (ns.getD ((j + 1) % ns.length) 0)) (ns.getD j 0 / 5) = wordAt ns j := by
  unfold wordAt
  rw [if_neg fun z => h (by rw [z])]
def InvM__law_wordy (H : Hp) (p : Addr) (ns : List Int) (H' : Hp) (n : Nat) : Prop := ∃ xs S, Same H H' ∧ H' p = some (.lst xs) ∧ Paired (NamedAt H') xs S.reverse ∧ closeN S = wordyT ns ∧ S ≠ [] ∧ (∀ t ∈ S, t.ok) ∧ sizesN S + S.length ≤ 200 ∧ n = S.length
theorem ok__law_wordy {f : Addr} {fd : FuncData} (F : Fun K "_law_wordy" "_law_wordy" s__law_wordy f fd) (N_ : NoNames mg) (G__law_any_word : GF P w K mg base CX0 1 "_law_any_word" ["_law_cell"] sp_any_wordF) :
    FnOk P w K mg base CX0 2 f fd ["_law_cells"] (sp_wordy K) := by
  refine F.ok sc__law_wordy (fun vs H Q E h => ?_) (fun cdv A outer s H vs Q E hr h => ?_)
  · obtain ⟨a, ns, rfl, _⟩ := h
    rfl
  · obtain ⟨a, ns, rfl, hS, hl, k⟩ := h
    have hu0 := hr.units0
    refine ⟨_, (pss_cons (ps_set (i := 1) sc__law_wordy.nd rfl (Or.inl rfl) (pLst pa_nil))
      (pss_cons (ps_for PassesOwn.never rfl (pi_range1 rfl N_.range (pa_c (pCB call_len_seq (by rfl) N_.len boot_len (pa_c (pv 0) pa_nil)) pa_nil)) (pg_name (i := 2) sc__law_wordy.nd rfl (Or.inl rfl)) (pss_cons (ps_set (i := 3) sc__law_wordy.nd rfl (Or.inl rfl) (pe_ix ix_list (pv 0) (pv 2) (fun _ _ => rfl)))
      (pss_cons (ps_set (i := 4) sc__law_wordy.nd rfl (Or.inl rfl) (pe_op op_mod (pv 3) pe_int))
      (pss_cons (ps_set (i := 5) sc__law_wordy.nd rfl (Or.inl rfl) (pe_ix ix_str pe_str (pe_op op_mod (pe_ix ix_list (pv 0) (pe_op op_mod (pe_op op_add (pv 2) pe_int) (pCB call_len_seq (by rfl) N_.len boot_len (pa_c (pv 0) pa_nil))) (fun _ _ => rfl)) pe_int) (fun _ _ => rfl)))
      (pss_cons (ps_set (i := 6) sc__law_wordy.nd rfl (Or.inl rfl) (pe_ix ix_list (pLst (pa_c pe_str (pa_c pe_str (pa_c pe_str (pa_c pe_str (pa_c (pv 5) pa_nil)))))) (pe_op op_mod (pe_op op_fdiv (pv 3) pe_int) pe_int) (fun _ _ => rfl)))
      (pss_cons (ps_if (pt_cmpR op_eq (pe_op op_mod (pv 3) pe_int) pe_int (nomark _)) (pss_one (ps_set (i := 6) sc__law_wordy.nd rfl (Or.inl rfl) (pe_gf G__law_any_word (hr.mono (by decide)) rfl pass0 (pa_c (pe_op op_fdiv (pv 3) pe_int) pa_nil)))) pss_nil)
      (pss_one (ps_if (PW.pt (pw_and (PW.pt (pw_or (pt_cmpR op_eq (pv 4) pe_int (nomark _)) (pw_or1 (pt_cmpR op_eq (pv 4) pe_int (nomark _))))) (pw_and1 (pt_cmpR (op_neNil hu0) (pv 1) (pLst pa_nil) (nomark _))))) (pss_cons (ps_set (i := 7) sc__law_wordy.nd rfl (Or.inl rfl) (pPop (pv 1)))
      (pss_one (ps_expr (pApp (pv 1) (pTup (pa_c pe_str (pa_c (pv 6) (pa_c (pv 7) pa_nil)))))))) (pss_one (ps_if (PW.pt (pw_and (pt_cmpR op_eq (pv 4) pe_int (nomark _)) (pw_and1 (pt_cmpR op_gt (pCB call_len_seq (by rfl) N_.len boot_len (pa_c (pv 1) pa_nil)) pe_int (nomark _))))) (pss_cons (ps_set (i := 8) sc__law_wordy.nd rfl (Or.inl rfl) (pPop (pv 1)))
      (pss_cons (ps_set (i := 9) sc__law_wordy.nd rfl (Or.inl rfl) (pPop (pv 1)))
      (pss_one (ps_expr (pApp (pv 1) (pTup (pa_c pe_str (pa_c (pv 9) (pa_c (pv 8) pa_nil))))))))) (pss_one (ps_expr (pApp (pv 1) (pTup (pa_c pe_str (pa_c (pv 6) pa_nil))))))))))))))))
      (pss_cons (ps_if (pt_cmpR (op_eqNil hu0) (pv 1) (pLst pa_nil) (nomark _)) (pss_one (ps_expr (pApp (pv 1) (pTup (pa_c pe_str (pa_c pe_str pa_nil)))))) pss_nil)
      (pss_cons (ps_while PassesOwn.never (pt_cmpR op_gt (pCB call_len_seq (by rfl) N_.len boot_len (pa_c (pv 1) pa_nil)) pe_int (nomark _)) (pss_cons (ps_set (i := 8) sc__law_wordy.nd rfl (Or.inl rfl) (pPop (pv 1)))
      (pss_cons (ps_set (i := 9) sc__law_wordy.nd rfl (Or.inl rfl) (pPop (pv 1)))
      (pss_one (ps_expr (pApp (pv 1) (pTup (pa_c pe_str (pa_c (pv 9) (pa_c (pv 8) pa_nil))))))))))
      (pss_one (ps_ret (pe_ix ix_list (pv 1) pe_int (fun _ _ => rfl)))))))), ?_⟩
    show (let V1_ : TS := _; let V2_ : TS := _; let V3_ : TS := tSeq _ V2_; let V4_ : TS := tSeq _ V3_; let V5_ : TS := tSeq (tWhile _ V4_) V1_; let V6_ : TS := _; let V7_ : TS := tSeq (tIfS _ V6_ _) V5_; let V8_ : TS := _; let V9_ : TS := tSeq _ V8_; let V10_ : TS := _; let V11_ : TS := tSeq _ V10_; let V12_ : TS := tSeq _ V11_; let V13_ : TS := _; let V14_ : TS := tIfS _ V12_ V13_; let V15_ : TS := tIfS _ V9_ V14_; let V16_ : TS := _; let V17_ : TS := tSeq (tIfS _ V16_ _) V15_; let V18_ : TS := tSeq _ V17_; let V19_ : TS := tSeq _ V18_; let V20_ : TS := tSeq _ V19_; let V21_ : TS := tSeq _ V20_; let V22_ : TS := tSeq (tFor _ _ V21_) V7_; tSeq _ V22_ _ _ _)
    intro V1_ V2_ V3_ V4_ V5_ V6_ V7_ V8_ V9_ V10_ V11_ V12_ V13_ V14_ V15_ V16_ V17_ V18_ V19_ V20_ V21_ V22_
    refine ⟨small' (by simp), fun p H1 np s1 hp1 => ?_⟩
    have hnl : (ns.map V.int).length = ns.length := List.length_map _
    refine ⟨_, rfl, _, _, rfl, Or.inl (s1.seq hS), _, rfl, ?_, ?_, ?_⟩
    · rw [hnl]; omega
    · rw [hnl]; omega
    rw [show (((ns.map V.int).length : Nat) : Int).toNat = ns.length by rw [hnl]; omega]
    refine for_range (fun i σ H' => i ≤ ns.length ∧ Same H H' ∧ (∃ xs, H' p = some (.lst xs) ∧ Paired (NamedAt H') xs (pileN ns i).reverse) ∧ ∃ x2 x3 x4 x5 x6 x7 x8 x9, σ = [some (.ref a), some (.ref p), x2, x3, x4, x5, x6, x7, x8, x9]) ⟨Nat.zero_le _, s1, ⟨[], hp1, .nil⟩, _, _, _, _, _, _, _, _, rfl⟩ ?_ ?_
    · rintro i σ H2 hi ⟨_, s2, ⟨xs, hp2, hxs⟩, x2, x3, x4, x5, x6, x7, x8, x9, rfl⟩
      have hS2 := s2.seq hS
      have hxl : xs.length ≤ 63 := by
        rw [Paired.length hxs, List.length_reverse]
        have h1 := len_sizesN (pileN ns i)
        have h2 := pile_size ns i
        omega
      have hln : 0 < ns.length := by omega
      have hmod : (i + 1) % ns.length < ns.length := Nat.mod_lt _ hln
      -- cell, way, letter, word
      refine ⟨_, rfl, _, rfl, _, _, _, _, rfl, rfl, hS2, (by rw [Int.zero_add]; exact at_map hi), ?_⟩
      refine ⟨_, rfl, _, _, rfl, rfl, (show (0 : Int) < 5 by decide), ?_⟩
      refine ⟨_, rfl, _, rfl, _, _, rfl, rfl, _, rfl, _, _, rfl, Or.inl hS2, _, _, rfl, rfl, (by rw [hnl]; omega), _, _, _, _, rfl, rfl, hS2, (by
        rw [hnl, Int.zero_add, show ((i : Int) + 1) % (ns.length : Int) = (((i + 1) % ns.length : Nat) : Int) by rw [Int.natCast_emod]; rfl]
        exact at_map hmod), _, _, rfl, rfl, (show (0 : Int) < 26 by decide), _, _, _, rfl, rfl, small' (by decide +kernel), at_letter _, ?_⟩
      refine ⟨_, rfl, small' (by show 5 ≤ 1000000; decide), fun q3 H3 n3 s3 h3 => ⟨_, rfl, _, _, rfl, rfl, ⟨by decide, by decide⟩, _, _, rfl, rfl, (show (0 : Int) < 5 by decide), _, _, _, _, rfl, rfl, SqL.of h3, at_menu (letterS (ns.getD ((i + 1) % ns.length) 0)) (ns.getD i 0 / 5), ?_⟩⟩
      have s3' := s2.trans s3
      have hp3 := s3 _ _ hp2
      have hxs3 : Paired (NamedAt H3) xs (pileN ns i).reverse := nameds_mono hxs (.of_same s3)
      have hpn : pileN ns (i + 1) = stepN (pileN ns i) (ns.getD i 0 % 5) (wordAt ns i) := rfl
      refine ⟨_, rfl, _, _, rfl, rfl, (show (0 : Int) < 11 by decide), rfl, _, rfl, ifD (fun e11 => ⟨_, rfl, _, _, rfl, rfl, ⟨by decide, by decide⟩, _, rfl, ?thn⟩) (fun e11 => ?els)⟩
      case thn | els =>
        first | rw [word_then e11] | rw [word_else e11]
        have hwd := wd_wordAt ns i
        generalize wordAt ns i = wd at hwd hpn
        generalize hgS : pileN ns i = S at hpn hxs3
        have hokS : ∀ t ∈ S, t.ok := by rw [← hgS]; exact pile_ok ns i
        have hszS : sizesN S ≤ 63 := by rw [← hgS]; have := pile_size ns i; omega
        refine ⟨_, rfl, rfl, _, rfl, ifD (fun h2 => iteT ?A) (fun h2 => ⟨_, rfl, rfl, _, rfl, ifD (fun h3 => ?B) (fun h3 => ?C)⟩)⟩
        case A | B =>
          have hway : ns.getD i 0 % 5 = 2 ∨ ns.getD i 0 % 5 = 3 := by first | exact .inr (V.int.inj h3) | exact .inl (V.int.inj h2)
          refine ⟨_, rfl, small' (by simp), fun e0 H4 n4 s4 h4 => ⟨_, _, _, rfl, rfl, SqL.of (s4 _ _ hp3), SqL.of h4, _, rfl, ifB (fun hE => ?form) (fun hE => ?emp)⟩⟩
          case form =>
            have hp4 := s4 _ _ hp3
            cases S with
            | nil =>
              cases paired_nil hxs3
              exact absurd hE (by simp)
            | cons t r =>
              rw [List.reverse_cons] at hxs3
              obtain ⟨xs', x, rfl, hxs', hx⟩ := paired_snoc_inv hxs3
              refine ⟨_, rfl, Or.inl ⟨rfl, _, SqL.of hp4⟩, _, _, _, rfl, rfl, hp4, fun H5 k5 hp5 => ?_⟩
              refine ⟨_, rfl, Or.inl ⟨rfl, _, SqL.of hp5⟩, _, rfl, _, rfl, small' (by show 3 ≤ 1000000; decide), fun q H6 n6 s6 h6 => ⟨_, _, _, rfl, rfl, s6 _ _ hp5, small (by simp at hxl; omega), fun H7 k7 hp7 => ?_⟩⟩
              have hp6 := s6 _ _ hp5
              have tu : Tups H3 H7 := (Tups.of_same s4).trans ((k5.tup1 hp4).trans ((Tups.of_same s6).trans (k7.tup1 hp6)))
              · exact ⟨hi, same_keep1 ((same_keep1 (s3'.trans s4) k5 np).trans s6) k7 np, ⟨_, hp7, by rw [hpn, stepN_form hway, List.reverse_cons]; exact paired_snoc (.form (k7.tup1 hp6 _ _ h6) (hx.mono tu)) (nameds_mono hxs' tu)⟩, _, _, _, _, _, _, _, _, rfl⟩
          case emp =>
            have hS0 : S = [] := by
              cases S with
              | nil => rfl
              | cons t r =>
                rw [List.reverse_cons] at hxs3
                obtain ⟨xs', x, rfl, hxs', hx⟩ := paired_snoc_inv hxs3
                exact absurd hE (by simp)
            have hp4 := s4 _ _ hp3
            have s4' := s3'.trans s4
            have hxs4 : Paired (NamedAt H4) xs S.reverse := nameds_mono hxs3 (.of_same s4)
            have hnm : stepN S (ns.getD i 0 % 5) wd = .name wd :: S := stepN_name (fun _ => hS0) fun _ => by rw [hS0]; exact Nat.zero_le _
            refine ⟨_, rfl, rfl, _, rfl, ifF (fun z => by have := V.int.inj z; omega) (iteF ?_)⟩
            refine ⟨_, rfl, Or.inl ⟨rfl, _, SqL.of hp4⟩, _, rfl, small' (by show 2 ≤ 1000000; decide), fun q H6 n6 s6 h6 => ⟨_, _, _, rfl, rfl, s6 _ _ hp4, small (by omega), fun H7 k7 hp7 => ?_⟩⟩
            have hp6 := s6 _ _ hp4
            exact ⟨hi, same_keep1 (s4'.trans s6) k7 np, ⟨_, hp7, by rw [hpn, hnm, List.reverse_cons]; exact paired_snoc (.name (k7.tup1 hp6 _ _ h6)) (nameds_mono hxs4 ((Tups.of_same s6).trans (k7.tup1 hp6)))⟩, _, _, _, _, _, _, _, _, rfl⟩
        case C =>
          have hp4 := hp3
          have s4' := s3'
          have hxs4 := hxs3
          refine iteF ⟨_, rfl, rfl, _, rfl, ifD (fun h4 => ⟨_, rfl, _, _, rfl, Or.inl (SqL.of hp3), _, _, rfl, rfl, _, rfl, ifD (fun hC => ?call) (fun hC => ?leaf2)⟩) (fun h4 => iteF ?leaf3)⟩
          case call =>
            have hC' : 1 < xs.length := by have : (1 : Int) < (xs.length : Int) := hC; omega
            have hlen := Paired.length hxs3
            rw [List.length_reverse] at hlen
            match S, hxs3, hlen, hpn, hokS, hszS with
            | [], _, hlen, _, _, _ => rw [hlen] at hC'; simp at hC'
            | [_], _, hlen, _, _, _ => rw [hlen] at hC'; simp at hC'
            | tb :: ta :: r, hxs3, hlen, hpn, hokS, hszS =>
              rw [List.reverse_cons, List.reverse_cons] at hxs3
              obtain ⟨xs1, x1, rfl, hxs1, hx1⟩ := paired_snoc_inv hxs3
              obtain ⟨xs2, x2', rfl, hxs2, hx2⟩ := paired_snoc_inv hxs1
              refine ⟨_, rfl, Or.inl ⟨rfl, _, SqL.of hp3⟩, _, _, _, rfl, rfl, hp3, fun H5 k5 hp5 => ⟨_, rfl, Or.inl ⟨rfl, _, SqL.of hp5⟩, _, _, _, rfl, rfl, hp5, fun H6 k6 hp6 => ?_⟩⟩
              refine ⟨_, rfl, Or.inl ⟨rfl, _, SqL.of hp6⟩, _, rfl, _, rfl, small' (by show 3 ≤ 1000000; decide), fun q H7 n7 s7 h7 => ⟨_, _, _, rfl, rfl, s7 _ _ hp6, small (by simp at hxl; omega), fun H8 k8 hp8 => ?_⟩⟩
              have hp7 := s7 _ _ hp6
              have tu : Tups H3 H8 := (k5.tup1 hp3).trans ((k6.tup1 hp5).trans ((Tups.of_same s7).trans (k8.tup1 hp7)))
              · exact ⟨hi, same_keep1 ((same_keep1 (same_keep1 s4' k5 np) k6 np).trans s7) k8 np, ⟨_, hp8, by rw [hpn, stepN_call (V.int.inj h4), List.reverse_cons]; exact paired_snoc (.call (k8.tup1 hp7 _ _ h7) (hx2.mono tu) (hx1.mono tu)) (nameds_mono hxs2 tu)⟩, _, _, _, _, _, _, _, _, rfl⟩
          case leaf2 =>
            have hnm : stepN S (ns.getD i 0 % 5) wd = .name wd :: S := stepN_name (fun z => by rcases z with z | z; exact absurd (congrArg V.int z) h2; exact absurd (congrArg V.int z) h3) fun _ => by
              have hC' : ¬ 1 < xs.length := fun z => hC (show (1 : Int) < (xs.length : Int) by omega)
              have hlen := Paired.length hxs3
              rw [List.length_reverse] at hlen
              omega
            refine ⟨_, rfl, Or.inl ⟨rfl, _, SqL.of hp4⟩, _, rfl, small' (by show 2 ≤ 1000000; decide), fun q H6 n6 s6 h6 => ⟨_, _, _, rfl, rfl, s6 _ _ hp4, small (by omega), fun H7 k7 hp7 => ?_⟩⟩
            have hp6 := s6 _ _ hp4
            exact ⟨hi, same_keep1 (s4'.trans s6) k7 np, ⟨_, hp7, by rw [hpn, hnm, List.reverse_cons]; exact paired_snoc (.name (k7.tup1 hp6 _ _ h6)) (nameds_mono hxs4 ((Tups.of_same s6).trans (k7.tup1 hp6)))⟩, _, _, _, _, _, _, _, _, rfl⟩
          case leaf3 =>
            have hnm : stepN S (ns.getD i 0 % 5) wd = .name wd :: S := stepN_name (fun z => by rcases z with z | z; exact absurd (congrArg V.int z) h2; exact absurd (congrArg V.int z) h3) fun z => absurd (congrArg V.int z) h4
            refine ⟨_, rfl, Or.inl ⟨rfl, _, SqL.of hp4⟩, _, rfl, small' (by show 2 ≤ 1000000; decide), fun q H6 n6 s6 h6 => ⟨_, _, _, rfl, rfl, s6 _ _ hp4, small (by omega), fun H7 k7 hp7 => ?_⟩⟩
            have hp6 := s6 _ _ hp4
            exact ⟨hi, same_keep1 (s4'.trans s6) k7 np, ⟨_, hp7, by rw [hpn, hnm, List.reverse_cons]; exact paired_snoc (.name (k7.tup1 hp6 _ _ h6)) (nameds_mono hxs4 ((Tups.of_same s6).trans (k7.tup1 hp6)))⟩, _, _, _, _, _, _, _, _, rfl⟩
    · rintro σ H2 ⟨_, s2, ⟨xs, hp2, hxs⟩, x2, x3, x4, x5, x6, x7, x8, x9, rfl⟩
      have hxl : xs.length ≤ 63 := by
        rw [Paired.length hxs, List.length_reverse]
        have h1 := len_sizesN (pileN ns ns.length)
        have h2 := pile_size ns ns.length
        omega
      have hsz := pile_size ns ns.length
      have hln := len_sizesN (pileN ns ns.length)
      refine ⟨_, rfl, small' (by simp), fun e0 H3 n3 s3 h3 => ⟨_, _, _, rfl, rfl, SqL.of (s3 _ _ hp2), SqL.of h3, _, rfl, ifB
        (fun hE => ⟨_, rfl, Or.inl ⟨rfl, _, SqL.of (s3 _ _ hp2)⟩, small' (by simp), fun q H4 n4 s4 h4 => ⟨_, _, _, rfl, rfl, s4 _ _ (s3 _ _ hp2), ?len, fun H5 k5 hp5 => have hI : ∃ n, InvM__law_wordy H p ns H5 n := ?hi1; ?w1⟩⟩) (fun hE => have hI : ∃ n, InvM__law_wordy H p ns H3 n := ?hi2; ?w2)⟩⟩
      case len =>
        have e : xs = [] := List.isEmpty_iff.mp (by simpa using hE)
        rw [e]
        exact small (by simp)
      case hi1 =>
        have e : xs = [] := List.isEmpty_iff.mp (by simpa using hE)
        subst e
        have e0 : pileN ns ns.length = [] := by
          have := Paired.length hxs
          rw [List.length_reverse] at this
          exact List.length_eq_zero_iff.mp this.symm
        refine ⟨1, _, [.name (Str.ofString "sab")], same_keep1 ((s2.trans s3).trans s4) k5 np, hp5, .cons (.name (k5.tup1 (s4 _ _ (s3 _ _ hp2)) _ _ h4)) .nil, by unfold wordyT; rw [e0]; rfl, by simp, fun t ht => ?_, (show 1 + 0 + 1 ≤ 200 by decide), rfl⟩
        rw [List.mem_singleton.mp ht]
        exact wd_sab
      case hi2 =>
        refine ⟨_, xs, pileN ns ns.length, s2.trans s3, s3 _ _ hp2, nameds_mono hxs (.of_same s3), rfl, fun z => ?_, pile_ok ns _, by omega, rfl⟩
        rw [z] at hxs
        cases paired_nil hxs
        exact absurd hE (by simp)
      case w1 | w2 =>
        refine ⟨fun m σ H' => InvM__law_wordy H p ns H' m ∧ ∃ x2 x3 x4 x5 x6 x7 x8 x9, σ = [some (.ref a), some (.ref p), x2, x3, x4, x5, x6, x7, x8, x9], ?_, ?_⟩
        · obtain ⟨n, hI⟩ := hI
          exact ⟨n, hI, _, _, _, _, _, _, _, _, rfl⟩
        · rintro m σ H6 ⟨⟨xs, S, s6, hp6, hxs6, hcl, hne, hok, hsum, rfl⟩, x2, x3, x4, x5, x6, x7, x8, x9, rfl⟩
          have hlen := Paired.length hxs6
          rw [List.length_reverse] at hlen
          refine ⟨_, rfl, _, _, rfl, Or.inl (SqL.of hp6), _, _, rfl, rfl, _, rfl, ifD (fun hC => ?_) (fun hC => ?_)⟩
          · have hC' : 1 < xs.length := by have : (1 : Int) < (xs.length : Int) := hC; omega
            match S, hxs6, hlen, hcl, hok, hsum with
            | [], _, hlen, _, _, _ => rw [hlen] at hC'; simp at hC'
            | [_], _, hlen, _, _, _ => rw [hlen] at hC'; simp at hC'
            | tb :: ta :: r, hxs3, hlen, hcl, hok, hsum =>
              refine ⟨fun σ' H' => ∃ m', m' < (tb :: ta :: r).length ∧ (InvM__law_wordy H p ns H' m' ∧ ∃ x2 x3 x4 x5 x6 x7 x8 x9, σ' = [some (.ref a), some (.ref p), x2, x3, x4, x5, x6, x7, x8, x9]), fun _ _ h => h, ?_⟩
              rw [List.reverse_cons, List.reverse_cons] at hxs3
              obtain ⟨xs1, x1, rfl, hxs1, hx1⟩ := paired_snoc_inv hxs3
              obtain ⟨xs2, x2', rfl, hxs2, hx2⟩ := paired_snoc_inv hxs1
              have hxl : xs2.length ≤ 200 := by simp at hlen; simp at hsum; omega
              have hokS := hok
              have hszS : sizesN (tb :: ta :: r) ≤ 200 := by omega
              refine ⟨_, rfl, Or.inl ⟨rfl, _, SqL.of hp6⟩, _, _, _, rfl, rfl, hp6, fun H7 k7 hp7 => ⟨_, rfl, Or.inl ⟨rfl, _, SqL.of hp7⟩, _, _, _, rfl, rfl, hp7, fun H8 k8 hp8 => ?_⟩⟩
              refine ⟨_, rfl, Or.inl ⟨rfl, _, SqL.of hp8⟩, _, rfl, _, rfl, small' (by simp), fun q9 H9 n9 s9 h9 => ⟨_, _, _, rfl, rfl, s9 _ _ hp8, small (by omega), fun H10 k10 hp10 => ?_⟩⟩
              have hp9 := s9 _ _ hp8
              have tu : Tups H6 H10 := ((k7.tup1 hp6).trans (k8.tup1 hp7)).trans ((Tups.of_same s9).trans (k10.tup1 hp9))
              · refine ⟨r.length + 1, by simp, ⟨_, .call ta tb :: r, same_keep1 ((same_keep1 (same_keep1 s6 k7 np) k8 np).trans s9) k10 np, hp10, by rw [List.reverse_cons]; exact paired_snoc (.call (k10.tup1 hp9 _ _ h9) (hx2.mono tu) (hx1.mono tu)) (nameds_mono hxs2 tu), by rw [← closeN_call]; exact hcl, by simp, fun t ht => ?_, ?_, rfl⟩, _, _, _, _, _, _, _, _, rfl⟩
                · rcases List.mem_cons.mp ht with rfl | ht
                  · exact ⟨hok ta (by simp), hok tb (by simp)⟩
                  · exact hok t (List.mem_cons_of_mem _ (List.mem_cons_of_mem _ ht))
                · simp only [sizesN, List.map_cons, List.sum_cons, NT.size, List.length_cons] at hsum ⊢
                  omega
          · have hC' : ¬ 1 < xs.length := fun z => hC (show (1 : Int) < (xs.length : Int) by omega)
            match S, hxs6, hlen, hcl, hne with
            | [t], .cons (a := x) (l₁ := r) hx hr, _, hcl, _ =>
              cases hr
              have hcl : t = wordyT ns := hcl
              subst hcl
              exact ⟨_, rfl, _, _, _, _, rfl, rfl, SqL.of hp6, at0, k _ H6 s6 hx⟩
            | _ :: _ :: _, _, hlen, _, _ => exact absurd hC' (by rw [hlen]; simp)
            | [], _, _, _, hne => exact absurd rfl hne
end
end NC
/-! ### letters, named terms as such -/
namespace NC
open PySem PySem.Spec PyProof.Rows L2
theorem for_text {z : Str} {g : TG} {tb : TS} {D : Ends} {σ : L2.St} {H : Hp} (Pv : Nat → L2.St → Hp → Prop) (h0 : Pv 0 σ H)
    (hs : ∀ i c σ H, z.cps[i]? = some c → Pv i σ H → g (.str ⟨#[c]⟩) σ H fun σ2 H2 => tb { D with nx := Pv (i + 1), ct := Pv (i + 1), bk := D.nx } σ2 H2) (hd : ∀ σ H, Pv z.cps.size σ H → D.nx σ H) :
    ∃ W : Nat → Nat → L2.St → Hp → Prop, (∃ m, W 0 m σ H) ∧ ∀ i m σ H, W i m σ H →
      ((Its z).stop i H ∧ D.nx σ H) ∨ ((Its z).go i H ∧ ∃ N : L2.St → Hp → Prop, (∀ σ' H', N σ' H' → ∃ m', m' < m ∧ W (i + 1) m' σ' H') ∧ ∀ x H', (Its z).yld i H x H' → g x σ H' fun σ2 H2 => tb { D with nx := N, ct := N, bk := D.nx } σ2 H2) := by
  refine ⟨fun i m σ H => m = z.cps.size - i ∧ i ≤ z.cps.size ∧ Pv i σ H, ⟨_, rfl, Nat.zero_le _, h0⟩, ?_⟩
  rintro i m σ H ⟨rfl, hi, p⟩
  by_cases hlt : i < z.cps.size
  · refine .inr ⟨hlt, Pv (i + 1), fun σ' H' p' => ⟨z.cps.size - (i + 1), by omega, rfl, hlt, p'⟩, fun x H' y => ?_⟩
    obtain ⟨e, c, hc, e2⟩ := y
    subst e e2
    exact hs i c σ _ hc p
  · have e : i = z.cps.size := by omega
    subst e
    exact .inl ⟨Nat.le_refl _, hd σ H p⟩
def NT.cost2 : NT → Nat
  | .name _ => 1
  | .form _ b => b.cost2 + 2
  | .call a b => a.cost2 + b.cost2 + 1
theorem NT.cost2_le : ∀ t : NT, t.cost2 ≤ 2 * t.size
  | .name _ => by simp [NT.cost2, NT.size]
  | .form _ b => by have := b.cost2_le; simp only [NT.cost2, NT.size]; omega
  | .call a b => by have h1 := a.cost2_le; have h2 := b.cost2_le; simp only [NT.cost2, NT.size]; omega
theorem NT.cost2_pos : ∀ t : NT, 1 ≤ t.cost2
  | .name _ => Nat.le_refl _
  | .form _ b => by simp only [NT.cost2]; omega
  | .call a b => by simp only [NT.cost2]; omega
def sumC (ts : List NT) : Nat := (ts.map NT.cost2).sum
theorem sumC_snoc (ts : List NT) (t : NT) : sumC (ts ++ [t]) = sumC ts + t.cost2 := by
  unfold sumC
  rw [List.map_append, List.sum_append]
  simp
theorem len_sumC : ∀ ts : List NT, ts.length ≤ sumC ts
  | [] => Nat.le_refl _
  | t :: r => by
    have h1 := len_sumC r
    have h2 := t.cost2_pos
    show r.length + 1 ≤ t.cost2 + sumC r
    omega
section
variable {P : Program} {w : World} {K : PySem.W.Frag} {mg : Str → Option Value} {base : Heap}
seal L2.PE L2.PA L2.PT L2.PS L2.PSs L2.PW L2.PG L2.PGs L2.PI L2.PO L2.OpR L2.UnR L2.CallR L2.TruR L2.IxR L2.SlR
abbrev s__law_letters : Stmt := top 12
theorem sc__law_letters : FnScope ["_law_found", "_law_sign"] ["_law_found"] (defScope s__law_letters) := ⟨rfl, rfl, rfl, by decide +kernel, rfl, by decide +kernel, by decide +kernel⟩
inductive Sp_lettersI (vs : List V) (H : Hp) (Q : VK) : Prop where
  | mk (wd : _) (c1 : vs = [.str wd]) (c2 : WdL wd) (c3 : Q (.bl true) H)
def sp_letters : Sp := fun vs H Q u3_ => Sp_lettersI vs H Q
theorem ok__law_letters {f : Addr} {fd : FuncData} (F : Fun K "_law_letters" "_law_letters" s__law_letters f fd) (N_ : NoNames mg) : FnOk P w K mg base CX0 1 f fd ["_law_found"] sp_letters := by
  refine F.ok sc__law_letters (fun vs H Q E h => ?_) (fun cdv A outer s H vs Q E hr h => ?_)
  · obtain ⟨wd, rfl, _⟩ := h
    rfl
  · obtain ⟨wd, rfl, hwd, k⟩ := h
    refine ⟨_, (pss_cons (ps_if (PW.pt (pw_or (pt_not (pt_val (pCB call_isi (by rfl) N_.isinstance boot_isinstance (pa_c (pv 0) (pa_c (pe_bltn (v := V.ty "str") rfl N_.str boot_str rfl) pa_nil))))) (pw_or1 (pt_cmpR op_eq (pv 0) pe_str (nomark _))))) (pss_one (ps_ret pe_bl)) pss_nil)
      (pss_cons (ps_for PassesOwn.never rfl (pi_text (pv 0)) (pg_name (i := 1) sc__law_letters.nd rfl (Or.inl rfl)) (pss_one (ps_if (pt_cmpR op_notin_str (pv 1) pe_str rfl) (pss_one (ps_ret pe_bl)) pss_nil)))
      (pss_one (ps_ret pe_bl)))), ?_⟩
    show (let V1_ : TS := _; let V2_ : TS := _; let V3_ : TS := tIfS _ V2_ _; let V4_ : TS := tSeq (tFor _ _ V3_) V1_; let V5_ : TS := _; tSeq (tIfS _ V5_ _) V4_ _ _ _)
    intro V1_ V2_ V3_ V4_ V5_
    refine ⟨_, rfl, _, _, _, _, rfl, .str _, kit_ss K, _, rfl, iteF ⟨_, rfl, rfl, _, rfl, ifF (fun z => ?_) ?_⟩⟩
    · have e := V.str.inj z
      have e0 : (Str.ofString "").cps.toList = [] := by decide +kernel
      exact hwd.1 (by rw [e, e0])
    · refine ⟨_, rfl, wd, rfl, ?_, for_text (fun i σ H' => H' = H ∧ ∃ x1, σ = [some (.str wd), x1]) ⟨rfl, none, rfl⟩ ?_ ?_⟩
      · rw [← Array.all_toList, List.all_eq_true]
        intro c hc
        have := hwd.2 c hc
        exact decide_eq_true (by omega)
      · rintro i c σ H' hc ⟨rfl, x1, rfl⟩
        have hcm := hwd.2 c (List.mem_of_getElem? (i := i) (by simpa using hc))
        refine ⟨_, rfl, _, _, rfl, rfl, _, rfl, ?_⟩
        rw [in_letters c (by omega), decide_eq_true hcm]
        exact iteF ⟨rfl, _, rfl⟩
      · rintro σ H' ⟨rfl, x1, rfl⟩
        exact k
abbrev s__law_is_named : Stmt := top 13
theorem sc__law_is_named : FnScope ["_law_found", "_law_todo", "_law_part"] ["_law_found"] (defScope s__law_is_named) := ⟨rfl, rfl, rfl, by decide +kernel, rfl, by decide +kernel, by decide +kernel⟩
inductive Sp_is_namedI (vs : List V) (H : Hp) (Q : VK) : Prop where
  | mk (v : _) (t : NT) (c1 : vs = [v]) (c2 : NamedAt H v t) (c3 : t.okL) (c4 : t.size ≤ 100000) (c5 : ∀ H', Same H H' → Q (.bl true) H')
def sp_is_named : Sp := fun vs H Q u3_ => Sp_is_namedI vs H Q
inductive InvIsNamedI (H : Hp) (v : V) (t : NT) (d : Addr) (m : Nat) (σ : L2.St) (H' : Hp) : Prop where
  | mk (its : _) (xs : _) (x2 : _) (c1 : σ = [some v, some (.ref d), x2]) (c2 : Same H H') (c3 : H' d = some (.lst xs)) (c4 : Paired (NamedAt H') xs its) (c5 : (∀ q ∈ its, q.okL)) (c6 : m = sumC its) (c7 : sumC its ≤ t.cost2)
def InvIsNamed (H : Hp) (v : V) (t : NT) (d : Addr) (m : Nat) (σ : L2.St) (H' : Hp) : Prop := InvIsNamedI H v t d m σ H'
theorem ok__law_is_named {f : Addr} {fd : FuncData} (F : Fun K "_law_is_named" "_law_is_named" s__law_is_named f fd) (N_ : NoNames mg) (G__law_letters : GF P w K mg base CX0 1 "_law_letters" ["_law_found"] sp_letters) : FnOk P w K mg base CX0 2 f fd ["_law_found"] sp_is_named := by
  refine F.ok sc__law_is_named (fun vs H Q E h => ?_) (fun cdv A outer s H vs Q E hr h => ?_)
  · obtain ⟨v, t, rfl, _⟩ := h
    rfl
  · obtain ⟨v, t, rfl, ht, hok, hsz, k⟩ := h
    have hu0 := hr.units0
    have hcost := t.cost2_le
    refine ⟨_, (pss_cons (ps_set (i := 1) sc__law_is_named.nd rfl (Or.inl rfl) (pLst (pa_c (pv 0) pa_nil)))
      (pss_cons (ps_while PassesOwn.never (pt_cmpR (op_neNil hu0) (pv 1) (pLst pa_nil) (nomark _)) (pss_cons (ps_set (i := 2) sc__law_is_named.nd rfl (Or.inl rfl) (pPop (pv 1)))
      (pss_cons (ps_if (PW.pt (pw_or (pt_not (pt_val (pCB call_isi (by rfl) N_.isinstance boot_isinstance (pa_c (pv 2) (pa_c (pe_bltn (v := V.ty "tuple") rfl N_.tuple boot_tuple rfl) pa_nil))))) (pw_or1 (pt_cmpR op_lt (pCB call_len_seq (by rfl) N_.len boot_len (pa_c (pv 2) pa_nil)) pe_int (nomark _))))) (pss_one (ps_ret pe_bl)) pss_nil)
      (pss_cons (ps_if (pt_not (pt_val (pCB call_isi (by rfl) N_.isinstance boot_isinstance (pa_c (pe_ix ix_tup (pv 2) pe_int (fun _ _ => rfl)) (pa_c (pe_bltn (v := V.ty "str") rfl N_.str boot_str rfl) pa_nil))))) (pss_one (ps_ret pe_bl)) pss_nil)
      (pss_one (ps_if (PW.pt (pw_and (pt_cmpR op_eq (pe_ix ix_tup (pv 2) pe_int (fun _ _ => rfl)) pe_str (nomark _)) (pw_and1 (pt_cmpR op_eq (pCB call_len_seq (by rfl) N_.len boot_len (pa_c (pv 2) pa_nil)) pe_int (nomark _))))) (pss_cons (ps_expr (pApp (pv 1) (pe_ix ix_tup (pv 2) pe_int (fun _ _ => rfl))))
      (pss_one (ps_expr (pApp (pv 1) (pe_ix ix_tup (pv 2) pe_int (fun _ _ => rfl)))))) (pss_one (ps_if (PW.pt (pw_and (pt_cmpR op_eq (pe_ix ix_tup (pv 2) pe_int (fun _ _ => rfl)) pe_str (nomark _)) (pw_and1 (pt_cmpR op_eq (pCB call_len_seq (by rfl) N_.len boot_len (pa_c (pv 2) pa_nil)) pe_int (nomark _))))) (pss_cons (ps_expr (pApp (pv 1) (pTup (pa_c pe_str (pa_c (pe_ix ix_tup (pv 2) pe_int (fun _ _ => rfl)) pa_nil)))))
      (pss_one (ps_expr (pApp (pv 1) (pe_ix ix_tup (pv 2) pe_int (fun _ _ => rfl)))))) (pss_one (ps_if (PW.pt (pw_or (pt_cmpR op_ne (pe_ix ix_tup (pv 2) pe_int (fun _ _ => rfl)) pe_str (nomark _)) (pw_or (pt_cmpR op_ne (pCB call_len_seq (by rfl) N_.len boot_len (pa_c (pv 2) pa_nil)) pe_int (nomark _)) (pw_or1 (pt_not (pt_val (pe_gf G__law_letters (hr.mono (by decide)) rfl pass0 (pa_c (pe_ix ix_tup (pv 2) pe_int (fun _ _ => rfl)) pa_nil)))))))) (pss_one (ps_ret pe_bl)) pss_nil))))))))))
      (pss_one (ps_ret pe_bl)))), ?_⟩
    show (let V1_ : TS := _; let V2_ : TS := _; let V3_ : TS := tSeq _ V2_; let V4_ : TS := _; let V5_ : TS := tSeq _ V4_; let V6_ : TS := _; let V7_ : TS := tIfS _ V6_ _; let V8_ : TS := tIfS _ V5_ V7_; let V9_ : TS := tIfS _ V3_ V8_; let V10_ : TS := _; let V11_ : TS := tSeq (tIfS _ V10_ _) V9_; let V12_ : TS := _; let V13_ : TS := tSeq (tIfS _ V12_ _) V11_; let V14_ : TS := tSeq _ V13_; let V15_ : TS := tSeq (tWhile _ V14_) V1_; tSeq _ V15_ _ _ _)
    intro V1_ V2_ V3_ V4_ V5_ V6_ V7_ V8_ V9_ V10_ V11_ V12_ V13_ V14_ V15_
    refine ⟨_, rfl, small' (by simp), fun d H4 nd s4 hd4 => ?_⟩
    refine ⟨InvIsNamed H v t d, ⟨sumC [t], [t], [v], none, rfl, s4, hd4, .cons (ht.same s4) .nil, fun q hq => by rw [List.mem_singleton.mp hq]; exact hok, rfl, by show t.cost2 + 0 ≤ _; omega⟩, ?_⟩
    rintro m σ H5 ⟨its, xs, x2, rfl, s5, hd5, hit, hoks, rfl, hsum⟩
    refine ⟨_, rfl, small' (by simp), fun e0 H5' ne0 s5' he0 => ⟨_, _, _, rfl, rfl, SqL.of (s5' _ _ hd5), SqL.of he0, _, rfl, ?_⟩⟩
    have hd5' := s5' _ _ hd5
    have hit := nameds_mono hit (.of_same s5')
    have s5 := s5.trans s5'
    clear hd5
    by_cases hnil : its = []
    · subst hnil
      cases paired_nil hit
      exact iteF (k H5' s5)
    · obtain ⟨its', t1, rfl⟩ := snoc_of hnil
      obtain ⟨xs', x, rfl, hit', htv⟩ := paired_snoc_inv hit
      rw [show (if true = true then !(xs' ++ [x]).isEmpty else (xs' ++ [x]).isEmpty) = true by simp]
      refine iteT ⟨fun σ' H' => ∃ m', m' < sumC (its' ++ [t1]) ∧ InvIsNamed H v t d m' σ' H', fun _ _ h => h, ?_⟩
      refine ⟨_, rfl, Or.inl ⟨rfl, _, SqL.of hd5'⟩, d, xs', x, rfl, rfl, hd5', fun H6 k6 hd6 => ?_⟩
      have tu6 := kp1_tups k6 hd5'
      have htv6 := htv.mono tu6
      have it6 := nameds_mono hit' tu6
      have s6 : Same H H6 := same_keep s5 k6 fun x hx => by rw [List.mem_singleton.mp hx]; exact nd
      have hok1 : t1.okL := hoks t1 (by simp)
      have hoks' : ∀ q ∈ its', q.okL := fun q hq => hoks q (List.mem_append_left _ hq)
      rw [sumC_snoc] at hsum
      rw [sumC_snoc]
      have hxl : xs'.length ≤ 200000 := by
        rw [Paired.length it6]
        have := len_sumC its'
        omega
      clear htv
      cases htv6 with
      | @name a1 wd h =>
        refine ⟨_, rfl, _, _, _, _, rfl, .tup h, kit_tt K, _, rfl, iteF ⟨_, rfl, _, _, rfl, Or.inr (SqT.of h), _, _, rfl, rfl, _, rfl, ifF (show ¬ (2 : Int) < 2 by decide) ⟨_, rfl, _, _, _, _, rfl, rfl, SqT.of h, at0, _, _, _, _, rfl, .str _, kit_ss K, _, rfl, iteF ?_⟩⟩⟩
        refine ⟨_, rfl, _, _, _, _, rfl, rfl, SqT.of h, at0, rfl, _, rfl, ifF n_nc (iteF ⟨_, rfl, _, _, _, _, rfl, rfl, SqT.of h, at0, rfl, _, rfl, ifF n_nf (iteF ?_)⟩)⟩
        refine ⟨_, rfl, _, _, _, _, rfl, rfl, SqT.of h, at0, rfl, _, rfl, ifNF rfl ⟨_, rfl, _, _, rfl, Or.inr (SqT.of h), rfl, _, rfl, ifNF rfl ⟨_, rfl, _, _, _, _, rfl, rfl, SqT.of h, at1, wd, rfl, hok1, _, rfl, iteF ?_⟩⟩⟩
        exact ⟨_, by show sumC its' < sumC its' + 1; omega, its', xs', _, rfl, s6, hd6, it6, hoks', rfl, by omega⟩
      | @form a1 wd bv b h hb =>
        have hbs : NT.cost2 (.form wd b) = b.cost2 + 2 := rfl
        refine ⟨_, rfl, _, _, _, _, rfl, .tup h, kit_tt K, _, rfl, iteF ⟨_, rfl, _, _, rfl, Or.inr (SqT.of h), _, _, rfl, rfl, _, rfl, ifF (show ¬ (3 : Int) < 2 by decide) ⟨_, rfl, _, _, _, _, rfl, rfl, SqT.of h, at0, _, _, _, _, rfl, .str _, kit_ss K, _, rfl, iteF ?_⟩⟩⟩
        refine ⟨_, rfl, _, _, _, _, rfl, rfl, SqT.of h, at0, rfl, _, rfl, ifF n_fc (iteF ⟨_, rfl, _, _, _, _, rfl, rfl, SqT.of h, at0, rfl, _, rfl, ifT rfl ⟨_, rfl, _, _, rfl, Or.inr (SqT.of h), rfl, _, rfl, ifT rfl ?_⟩⟩)⟩
        refine ⟨_, rfl, Or.inl ⟨rfl, _, SqL.of hd6⟩, _, rfl, _, _, _, _, rfl, rfl, SqT.of h, at1, small' (by show 2 ≤ 1000000; decide), fun q7 H7 n7 s7 h7 => ⟨_, _, _, rfl, rfl, s7 _ _ hd6, small (by omega), fun H8 k8 hd8 => ?_⟩⟩
        have hd7 := s7 _ _ hd6
        have tu8 : Tups H6 H8 := (Tups.of_same s7).trans (kp1_tups k8 hd7)
        have K8 : Keep [d] H6 H8 := (Keep.of_same s7).trans k8
        refine ⟨_, rfl, Or.inl ⟨rfl, _, SqL.of hd8⟩, _, rfl, _, _, _, _, rfl, rfl, SqT.of (tu8 _ _ h), at2, _, _, _, rfl, rfl, hd8, small (by rw [List.length_append, List.length_singleton]; omega), fun H9 k9 hd9 => ?_⟩
        have tu9 := kp1_tups k9 hd8
        refine ⟨_, ?_, (its' ++ [.name wd]) ++ [b], _, _, rfl, same_keep s6 (K8.trans k9) (fun x hx => by rw [List.mem_singleton.mp hx]; exact nd), hd9, paired_snoc ((hb.mono tu8).mono tu9) (paired_snoc (.name (tu9 _ _ (kp1_tups k8 hd7 _ _ h7))) (nameds_mono (nameds_mono it6 tu8) tu9)), fun q hq => ?_, rfl, ?_⟩
        · rw [sumC_snoc, sumC_snoc]; show sumC its' + 1 + b.cost2 < sumC its' + (b.cost2 + 2); omega
        · rcases List.mem_append.mp hq with hq | hq
          · rcases List.mem_append.mp hq with hq | hq
            · exact hoks' q hq
            · rw [List.mem_singleton.mp hq]; exact hok1.1
          · rw [List.mem_singleton.mp hq]; exact hok1.2
        · rw [sumC_snoc, sumC_snoc]; show sumC its' + 1 + b.cost2 ≤ _; omega
      | @call a1 xv yv x y h hx hy =>
        have hcs : NT.cost2 (.call x y) = x.cost2 + y.cost2 + 1 := rfl
        refine ⟨_, rfl, _, _, _, _, rfl, .tup h, kit_tt K, _, rfl, iteF ⟨_, rfl, _, _, rfl, Or.inr (SqT.of h), _, _, rfl, rfl, _, rfl, ifF (show ¬ (3 : Int) < 2 by decide) ⟨_, rfl, _, _, _, _, rfl, rfl, SqT.of h, at0, _, _, _, _, rfl, .str _, kit_ss K, _, rfl, iteF ?_⟩⟩⟩
        refine ⟨_, rfl, _, _, _, _, rfl, rfl, SqT.of h, at0, rfl, _, rfl, ifT rfl ⟨_, rfl, _, _, rfl, Or.inr (SqT.of h), rfl, _, rfl, ifT rfl ?_⟩⟩
        refine ⟨_, rfl, Or.inl ⟨rfl, _, SqL.of hd6⟩, _, rfl, _, _, _, _, rfl, rfl, SqT.of h, at1, _, _, _, rfl, rfl, hd6, small (by omega), fun H8 k8 hd8 => ?_⟩
        have tu8 := kp1_tups k8 hd6
        have h8 := tu8 _ _ h
        refine ⟨_, rfl, Or.inl ⟨rfl, _, SqL.of hd8⟩, _, rfl, _, _, _, _, rfl, rfl, SqT.of h8, at2, _, _, _, rfl, rfl, hd8, small (by rw [List.length_append, List.length_singleton]; omega), fun H9 k9 hd9 => ?_⟩
        have tu9 := kp1_tups k9 hd8
        refine ⟨_, ?_, (its' ++ [x]) ++ [y], _, _, rfl, same_keep s6 (k8.trans k9) (fun x hx => by rw [List.mem_singleton.mp hx]; exact nd), hd9, paired_snoc ((hy.mono tu8).mono tu9) (paired_snoc ((hx.mono tu8).mono tu9) (nameds_mono (nameds_mono it6 tu8) tu9)), fun q hq => ?_, rfl, ?_⟩
        · rw [sumC_snoc, sumC_snoc]; show sumC its' + x.cost2 + y.cost2 < sumC its' + (x.cost2 + y.cost2 + 1); omega
        · rcases List.mem_append.mp hq with hq | hq
          · rcases List.mem_append.mp hq with hq | hq
            · exact hoks' q hq
            · rw [List.mem_singleton.mp hq]; exact hok1.1
          · rw [List.mem_singleton.mp hq]; exact hok1.2
        · rw [sumC_snoc, sumC_snoc]; omega
end
end NC
/-! ### a line by its marks -/
namespace NC
open PySem PySem.Spec PyProof.Rows L2
section
variable {P : Program} {w : World} {K : PySem.W.Frag} {mg : Str → Option Value} {base : Heap}
seal L2.PE L2.PA L2.PT L2.PS L2.PSs L2.PW L2.PG L2.PGs L2.PI L2.PO L2.OpR L2.UnR L2.CallR L2.TruR L2.IxR L2.SlR
abbrev s__law_well : Stmt := top 15
theorem sc__law_well : FnScope ["_law_line", "_law_marks", "_law_sign", "_law_turn"] ["_law_line"] (defScope s__law_well) := ⟨rfl, rfl, rfl, by decide +kernel, rfl, by decide +kernel, by decide +kernel⟩
inductive Sp_wellI (vs : List V) (H : Hp) (Q : VK) : Prop where
  | mk (L : Str) (c1 : vs = [.str L]) (c2 : L.length ≤ 100000) (c3 : ∀ c ∈ L.cps.toList, c < 128) (c4 : ∀ b : Bool, (b = true ↔ roundsL L.length (repl pTC [70] (L.cps.toList.foldl markStep [])) = [84]) → Q (.bl b) H)
def sp_well : Sp := fun vs H Q _ => Sp_wellI vs H Q
theorem ok_well {f : Addr} {fd : FuncData} (F : Fun K "_law_well" "_law_well" s__law_well f fd) (N_ : NoNames mg) : FnOk P w K mg base CX0 1 f fd ["_law_line"] sp_well := by
  refine F.ok sc__law_well (fun vs H Q E h => ?_) (fun cdv A outer s H vs Q E hr h => ?_)
  · obtain ⟨L, rfl, _⟩ := h
    rfl
  · obtain ⟨L, rfl, hL, hasc, k⟩ := h
    refine ⟨_, (pss_tok (i := 1) sc__law_well.nd rfl (Or.inl rfl)
      (pssp_cons (psp_of (ps_for PassesOwn.never rfl (pi_text (pv 0)) (pg_name (i := 2) sc__law_well.nd rfl (Or.inl rfl)) (pss_one (ps_if (pt_cmpR op_in_str (pv 2) pe_str rfl) (pss_one (ps_if (pt_cmpR op_ne (pe_slice sl_str (pv 1) (po_some (pe_un un_neg pe_int)) po_none) pe_str (nomark _)) (pss_one (ps_set (i := 1) sc__law_well.nd rfl (Or.inl rfl) (pe_op op_add_str (pv 1) pe_str))) pss_nil)) (pss_one (ps_if (pt_cmpR op_in_str (pv 2) pe_str rfl) (pss_one (ps_set (i := 1) sc__law_well.nd rfl (Or.inl rfl) (pe_op op_add_str (pv 1) (pv 2)))) (pss_one (ps_set (i := 1) sc__law_well.nd rfl (Or.inl rfl) (pe_op op_add_str (pv 1) pe_str)))))))))
      (pssp_cons (psp_set (i := 1) sc__law_well.nd rfl (Or.inl rfl) (pep_repl (pep_of (pv 1))))
      (pssp_cons (psp_for PassesOwn.never rfl (pi_range1 rfl N_.range (pa_c (pCB call_len_str (by rfl) N_.len boot_len (pa_c (pv 0) pa_nil)) pa_nil)) (pg_name (i := 3) sc__law_well.nd rfl (Or.inl rfl)) (pssp_one (psp_set (i := 1) sc__law_well.nd rfl (Or.inl rfl) (pep_repl (pep_repl (pep_of (pv 1)))))))
      (pssp_one (psp_of (ps_ret (pe_cmpR op_eq (pv 1) pe_str (nomark _))))))))), ?_⟩
    show (let V1_ : TS := _; let V2_ : TS := _; let V3_ : TS := tSeq (tFor _ _ V2_) V1_; let V4_ : TS := tSeq _ V3_; let V5_ : TS := _; let V6_ : TS := tIfS _ V5_ _; let V7_ : TS := _; let V8_ : TS := _; let V9_ : TS := tIfS _ V7_ V8_; let V10_ : TS := tIfS _ V6_ V9_; let V11_ : TS := tSeq (tFor _ _ V10_) V4_; tSeq _ V11_ _ _ _)
    intro V1_ V2_ V3_ V4_ V5_ V6_ V7_ V8_ V9_ V10_ V11_
    have hlen : L.cps.toList.length = L.length := by simp [Str.length]
    refine ⟨_, rfl, L, rfl, ?_, for_text (fun i σ H' => H' = H ∧ ∃ (mk : Str) (x2 : Option V), σ = [some (.str L), some (.str mk), x2, none] ∧ mk.cps.toList = (L.cps.toList.take i).foldl markStep [] ∧ mk.length ≤ i) ⟨rfl, Str.ofString "", none, rfl, by rw [show (Str.ofString "").cps.toList = [] by decide +kernel]; rfl, by decide⟩ ?_ ?_⟩
    · rw [← Array.all_toList, List.all_eq_true]
      intro c hc
      have := hasc c hc
      exact decide_eq_true (by omega)
    · rintro i c σ H' hc ⟨rfl, mk, x2, rfl, hmk, hml⟩
      have hcl : L.cps.toList[i]? = some c := by simpa using hc
      have hcm := hasc c (List.mem_of_getElem? hcl)
      have nxt : (L.cps.toList.take (i + 1)).foldl markStep [] = markStep mk.cps.toList c := by
        rw [List.take_add_one, hcl, List.foldl_append, ← hmk]
        rfl
      refine ⟨_, rfl, _, _, rfl, rfl, _, rfl, ?_⟩
      rw [in_letters c hcm]
      have hil : i < L.length := by
        have := (List.getElem?_eq_some_iff.mp hcl).1
        omega
      have eT : (Str.ofString "T").cps.toList = [84] := by decide +kernel
      by_cases hL' : isL c
      · rw [decide_eq_true hL']
        refine iteT ⟨_, rfl, _, rfl, _, rfl, mk, rfl, small' (by omega), rfl, _, rfl, ?_⟩
        have hsl : (V.str (Txt.slice mk (some (-1)) none) = V.str (Str.ofString "T")) ↔ mk.cps.toList.getLast? = some 84 := by
          rw [← last_iff, ← slice_last, ← eT]
          exact ⟨fun z => by rw [V.str.inj z], fun z => by rw [str_ext z]⟩
        by_cases hg : mk.cps.toList.getLast? = some 84
        · refine ifNF (hsl.mpr hg) ⟨rfl, mk, _, rfl, ?_, by omega⟩
          rw [nxt]
          unfold markStep
          rw [if_pos hL', if_pos hg]
        · refine ifNT (fun z => hg (hsl.mp z)) ⟨_, rfl, _, _, rfl, rfl, small' (by show mk.length + 1 ≤ _; omega), rfl, mk ++ Str.ofString "T", _, rfl, ?_, ?_⟩
          · rw [nxt]
            unfold markStep
            rw [if_pos hL', if_neg hg, ← eT]
            show (mk.cps ++ (Str.ofString "T").cps).toList = _
            simp
          · rw [Str.length_append]
            show mk.length + 1 ≤ _
            omega
      · rw [decide_eq_false hL']
        refine iteF ⟨_, rfl, _, _, rfl, rfl, _, rfl, ?_⟩
        have eS : (Str.ofString "(): ").cps.toList = [40, 41, 58, 32] := by decide +kernel
        rw [StrLaws.found_one, eS]
        have hst : markStep mk.cps.toList c = mk.cps.toList ++ [mark c] := by
          unfold markStep
          rw [if_neg hL']
        by_cases hS : c ∈ [40, 41, 58, 32]
        · rw [decide_eq_true hS]
          refine iteT ⟨_, rfl, _, rfl, _, _, rfl, rfl, small' (by show mk.length + 1 ≤ _; omega), rfl, mk ++ ⟨#[c]⟩, _, rfl, ?_, ?_⟩
          · rw [nxt, hst]
            have : mark c = c := by
              unfold mark
              rw [if_pos (by simpa using hS)]
            rw [this]
            show (mk.cps ++ #[c]).toList = _
            simp
          · rw [Str.length_append]
            show mk.length + 1 ≤ _
            omega
        · rw [decide_eq_false hS]
          refine iteF ⟨_, rfl, _, _, rfl, rfl, small' (by show mk.length + 1 ≤ _; omega), rfl, mk ++ Str.ofString "!", _, rfl, ?_, ?_⟩
          · rw [nxt, hst]
            have : mark c = 33 := by
              unfold mark
              rw [if_neg (by simpa using hS)]
            rw [this]
            show (mk.cps ++ (Str.ofString "!").cps).toList = _
            rw [Array.toList_append, show (Str.ofString "!").cps.toList = [33] by decide +kernel]
          · rw [Str.length_append]
            show mk.length + 1 ≤ _
            omega
    · rintro σ H' ⟨rfl, mk, x2, rfl, hmk, hml⟩
      have ez : L.cps.size = L.cps.toList.length := by simp
      rw [ez, List.take_length] at hmk
      rw [ez, hlen] at hml
      have eF : (Str.ofString "F").cps.toList = [70] := by decide +kernel
      have eT : (Str.ofString "T").cps.toList = [84] := by decide +kernel
      have eTC : (Str.ofString "T:").cps.toList = pTC := by decide +kernel
      have eFT : (Str.ofString "FT").cps.toList = pFT := by decide +kernel
      have eCTT : (Str.ofString "(T T)").cps.toList = pCTT := by decide +kernel
      have ln : ∀ z : Str, z.cps.toList.length = z.length := fun z => by simp [Str.length]
      refine ⟨_, rfl, mk, rfl, by omega, by decide, by decide, ?_⟩
      have r0 : (Txt.replace mk (Str.ofString "T:") (Str.ofString "F")).cps.toList = repl pTC [70] (L.cps.toList.foldl markStep []) := by
        rw [replace_list (by rw [eTC]; decide), eTC, eF, hmk]
      have l0 : (Txt.replace mk (Str.ofString "T:") (Str.ofString "F")).length ≤ L.length := by
        have h1 := repl_len (x := 84) (p := [58]) (b := [70]) (L.cps.toList.foldl markStep []) (by decide)
        rw [← ln, r0]
        have h2 : (L.cps.toList.foldl markStep []).length = mk.length := by rw [← hmk, ln]
        have h1 : (repl pTC [70] (L.cps.toList.foldl markStep [])).length ≤ _ := h1
        omega
      generalize Txt.replace mk (Str.ofString "T:") (Str.ofString "F") = mk0 at r0 l0
      refine ⟨_, rfl, L, rfl, small' (by omega), _, rfl, by omega, by omega, ?_⟩
      refine for_range (lo := 0) (n := L.length) (fun i σ Hx => Hx = H' ∧ ∃ (m2 : Str) (x3 : Option V), σ = [some (.str L), some (.str m2), x2, x3] ∧ m2.cps.toList = roundsL i (repl pTC [70] (L.cps.toList.foldl markStep [])) ∧ m2.length ≤ L.length) ⟨rfl, mk0, none, rfl, r0, l0⟩ ?_ ?_
      · rintro i σ H2 hi ⟨rfl, m2, x3, rfl, hm2, hl2⟩
        have r1 : (Txt.replace m2 (Str.ofString "FT") (Str.ofString "T")).cps.toList = repl pFT [84] m2.cps.toList := by rw [replace_list (by rw [eFT]; decide), eFT, eT]
        have l1 : (Txt.replace m2 (Str.ofString "FT") (Str.ofString "T")).length ≤ m2.length := by
          rw [← ln, r1, ← ln m2]
          exact repl_len (x := 70) (p := [84]) _ (by decide)
        have r2 : (Txt.replace (Txt.replace m2 (Str.ofString "FT") (Str.ofString "T")) (Str.ofString "(T T)") (Str.ofString "T")).cps.toList = roundL m2.cps.toList := by rw [replace_list (by rw [eCTT]; decide), eCTT, eT, r1]; rfl
        have l2 : (Txt.replace (Txt.replace m2 (Str.ofString "FT") (Str.ofString "T")) (Str.ofString "(T T)") (Str.ofString "T")).length ≤ m2.length := by
          have h1 := repl_len (x := 40) (p := [84, 32, 84, 41]) (b := [84]) (repl pFT [84] m2.cps.toList) (by decide)
          have h3 : (roundL m2.cps.toList).length ≤ (repl pFT [84] m2.cps.toList).length := h1
          have h2 : (repl pFT [84] m2.cps.toList).length ≤ m2.cps.toList.length := repl_len (x := 70) (p := [84]) _ (by decide)
          rw [← ln, r2]
          rw [ln] at h2
          omega
        refine ⟨_, rfl, m2, rfl, by omega, by decide, by decide, _, rfl, by omega, by decide, by decide, ?_⟩
        exact ⟨rfl, _, _, rfl, by rw [r2, hm2]; rfl, by omega⟩
      · rintro σ H2 ⟨rfl, m2, x3, rfl, hm2, hl2⟩
        refine ⟨_, rfl, rfl, k _ ?_⟩
        rw [← hm2, ← eT]
        constructor
        · intro z
          rw [V.str.inj (of_decide_eq_true z)]
        · intro z
          exact decide_eq_true (by rw [str_ext z])
end
end NC
/-! ### named terms told as lines, by the law's own way -/
namespace NC
open PySem PySem.Spec PyProof.Rows L2
def lpAt (H : Hp) (v : V) : Pc → Prop
  | .inl s => ∃ a, v = .ref a ∧ H a = some (.tup [.str "sign", .str s])
  | .inr t => ∃ a u, v = .ref a ∧ H a = some (.tup [.str "part", u]) ∧ NamedAt H u t
theorem lpAt.mono {H H' : Hp} {v : V} {p : Pc} (h : lpAt H v p) (k : Tups H H') : lpAt H' v p := by
  cases p with
  | inl s =>
    obtain ⟨a, e, h⟩ := h
    exact ⟨a, e, k _ _ h⟩
  | inr t =>
    obtain ⟨a, u, e, h, hu⟩ := h
    exact ⟨a, u, e, k _ _ h, hu.mono k⟩
theorem lps_mono {H H' : Hp} {xs : List V} {its : List Pc} (h : Paired (lpAt H) xs its) (k : Tups H H') : Paired (lpAt H') xs its := paired_imp (fun _ _ h => lpAt.mono h k) h
theorem n_ps : ¬ V.str "part" = V.str "sign" := by decide +kernel
section
variable {P : Program} {w : World} {K : PySem.W.Frag} {mg : Str → Option Value} {base : Heap}
seal L2.PE L2.PA L2.PT L2.PS L2.PSs L2.PW L2.PG L2.PGs L2.PI L2.PO L2.OpR L2.UnR L2.CallR L2.TruR L2.IxR L2.SlR
abbrev s__law_line_of : Stmt := top 14
theorem sc__law_line_of : FnScope ["_law_term", "_law_line", "_law_todo", "_law_way", "_law_part"] ["_law_term"] (defScope s__law_line_of) := ⟨rfl, rfl, rfl, by decide +kernel, rfl, by decide +kernel, by decide +kernel⟩
inductive Sp_line_ofI (vs : List V) (H : Hp) (Q : VK) : Prop where
  | mk (v : V) (t : NT) (c1 : vs = [v]) (c2 : NamedAt H v t) (c3 : t.size ≤ 100000) (c4 : t.line.length ≤ 100000) (c5 : ∀ L H', Same H H' → L.cps.toList = t.line → Q (.str L) H')
def sp_line_of : Sp := fun vs H Q _ => Sp_line_ofI vs H Q
inductive InvLine (H : Hp) (v : V) (t : NT) (m : Nat) (σ : L2.St) (H' : Hp) : Prop where
  | mk (its : List Pc) (xs : List V) (ln : Str) (d : Addr) (x3 x4 : Option V) (c1 : σ = [some v, some (.str ln), some (.ref d), x3, x4]) (c2 : Same H H') (c3 : H' d = some (.lst xs)) (c4 : H d = none) (c5 : Paired (lpAt H') xs its) (c6 : ln.cps.toList ++ pendT its = t.line) (c7 : m = costs its) (c8 : costs its ≤ t.cost)
theorem len_str (z : Str) : z.cps.toList.length = z.length := by simp [Str.length]
theorem app_str (a b : Str) : (a ++ b).cps.toList = a.cps.toList ++ b.cps.toList := by
  show (a.cps ++ b.cps).toList = _
  simp
theorem ok_line_of {f : Addr} {fd : FuncData} (F : Fun K "_law_line_of" "_law_line_of" s__law_line_of f fd) (N_ : NoNames mg) : FnOk P w K mg base CX0 1 f fd ["_law_term"] sp_line_of := by
  refine F.ok sc__law_line_of (fun vs H Q E h => ?_) (fun cdv A outer s H vs Q E hr h => ?_)
  · obtain ⟨v, t, rfl, _⟩ := h
    rfl
  · obtain ⟨v, t, rfl, ht, hsz, hll, k⟩ := h
    have hu0 := hr.units0
    have hcost : t.cost ≤ 400000 := by have := t.cost_le; omega
    refine ⟨_, (pss_cons (ps_set (i := 1) sc__law_line_of.nd rfl (Or.inl rfl) pe_str)
      (pss_cons (ps_set (i := 2) sc__law_line_of.nd rfl (Or.inl rfl) (pLst (pa_c (pTup (pa_c pe_str (pa_c (pv 0) pa_nil))) pa_nil)))
      (pss_cons (ps_while PassesOwn.never (pt_cmpR (op_neNil hu0) (pv 2) (pLst pa_nil) (nomark _)) (pss_cons (ps_asg (pPop (pv 2)) (pg_tup rfl (pgs_cons (pg_name (i := 3) sc__law_line_of.nd rfl (Or.inl rfl)) (pgs_cons (pg_name (i := 4) sc__law_line_of.nd rfl (Or.inl rfl)) pgs_nil))))
      (pss_one (ps_if (pt_cmpR op_eq (pv 3) pe_str (nomark _)) (pss_one (ps_set (i := 1) sc__law_line_of.nd rfl (Or.inl rfl) (pe_op op_add_str (pv 1) (pv 4)))) (pss_one (ps_if (pt_cmpR op_eq (pe_ix ix_tup (pv 4) pe_int (fun _ _ => rfl)) pe_str (nomark _)) (pss_cons (ps_set (i := 1) sc__law_line_of.nd rfl (Or.inl rfl) (pe_op op_add_str (pe_op op_add_str (pv 1) (pe_ix ix_tup (pv 4) pe_int (fun _ _ => rfl))) pe_str))
      (pss_one (ps_expr (pApp (pv 2) (pTup (pa_c pe_str (pa_c (pe_ix ix_tup (pv 4) pe_int (fun _ _ => rfl)) pa_nil))))))) (pss_one (ps_if (pt_cmpR op_eq (pe_ix ix_tup (pv 4) pe_int (fun _ _ => rfl)) pe_str (nomark _)) (pss_cons (ps_set (i := 1) sc__law_line_of.nd rfl (Or.inl rfl) (pe_op op_add_str (pv 1) pe_str))
      (pss_one (ps_set (i := 2) sc__law_line_of.nd rfl (Or.inl rfl) (pe_op op_ct (pv 2) (pLst (pa_c (pTup (pa_c pe_str (pa_c pe_str pa_nil))) (pa_c (pTup (pa_c pe_str (pa_c (pe_ix ix_tup (pv 4) pe_int (fun _ _ => rfl)) pa_nil))) (pa_c (pTup (pa_c pe_str (pa_c pe_str pa_nil))) (pa_c (pTup (pa_c pe_str (pa_c (pe_ix ix_tup (pv 4) pe_int (fun _ _ => rfl)) pa_nil))) pa_nil))))))))) (pss_one (ps_set (i := 1) sc__law_line_of.nd rfl (Or.inl rfl) (pe_op op_add_str (pv 1) (pe_ix ix_tup (pv 4) pe_int (fun _ _ => rfl)))))))))))))
      (pss_one (ps_ret (pv 1)))))), ?_⟩
    show (let V1_ : TS := _; let V2_ : TS := _; let V3_ : TS := _; let V4_ : TS := tSeq _ V3_; let V5_ : TS := _; let V6_ : TS := tSeq _ V5_; let V7_ : TS := _; let V8_ : TS := tIfS _ V6_ V7_; let V9_ : TS := tIfS _ V4_ V8_; let V10_ : TS := tIfS _ V2_ V9_; let V11_ : TS := tSeq _ V10_; let V12_ : TS := tSeq (tWhile _ V11_) V1_; let V13_ : TS := tSeq _ V12_; tSeq _ V13_ _ _ _)
    intro V1_ V2_ V3_ V4_ V5_ V6_ V7_ V8_ V9_ V10_ V11_ V12_ V13_
    refine ⟨_, rfl, small' (by show 2 ≤ 1000000; decide), fun b1 H1 n1 s1 h1 => ⟨small' (by show 1 ≤ 1000000; decide), fun d H2 nd s2 hd2 => ?_⟩⟩
    have s02 : Same H H2 := s1.trans s2
    refine ⟨InvLine H v t, ⟨costs [.inr t], [.inr t], [.ref b1], Str.ofString "", d, none, none, rfl, s02, hd2, s1.free nd, .cons ⟨b1, v, rfl, s2 _ _ h1, ht.same s02⟩ .nil, ?_, rfl, ?_⟩, ?_⟩
    · rw [show (Str.ofString "").cps.toList = [] by decide +kernel]
      show [] ++ (t.line ++ []) = _
      rw [List.append_nil, List.nil_append]
    · show t.cost + 0 ≤ t.cost
      omega
    rintro m σ H5 ⟨its, xs, ln, d, x3, x4, rfl, s5, hd5, nd, hit, heq, rfl, hsum⟩
    refine ⟨_, rfl, small' (by simp), fun e0 H5' ne0 s5' he0 => ⟨_, _, _, rfl, rfl, SqL.of (s5' _ _ hd5), SqL.of he0, _, rfl, ?_⟩⟩
    have hd5' := s5' _ _ hd5
    have hit := lps_mono hit (.of_same s5')
    have s5 := s5.trans s5'
    clear hd5
    by_cases hnil : its = []
    · subst hnil
      cases paired_nil hit
      refine iteF ⟨_, rfl, k _ H5' s5 ?_⟩
      rw [← heq]
      unfold pendT
      simp
    · obtain ⟨its', q1, rfl⟩ := snoc_of hnil
      obtain ⟨xs', x, rfl, hit', hx0⟩ := paired_snoc_inv hit
      rw [show (if true = true then !(xs' ++ [x]).isEmpty else (xs' ++ [x]).isEmpty) = true by simp]
      refine iteT ⟨fun σ' H' => ∃ m', m' < costs (its' ++ [q1]) ∧ InvLine H v t m' σ' H', fun _ _ h => h, ?_⟩
      refine ⟨_, rfl, Or.inl ⟨rfl, _, SqL.of hd5'⟩, d, xs', x, rfl, rfl, hd5', fun H6 k6 hd6 => ?_⟩
      have tu6 := kp1_tups k6 hd5'
      have hx6 := hx0.mono tu6
      have it6 := lps_mono hit' tu6
      have nL : ∀ x ∈ [d], H x = none := fun x hx => by rw [List.mem_singleton.mp hx]; exact nd
      have s6 : Same H H6 := same_keep s5 k6 nL
      rw [pendT_snoc] at heq
      rw [costs_snoc] at hsum
      rw [costs_snoc]
      have hlen : ln.length + (pcL q1).length ≤ 100000 := by
        have := congrArg List.length heq
        rw [List.length_append, List.length_append, len_str] at this
        omega
      have hxl : xs'.length ≤ 400000 := by
        rw [Paired.length it6]
        have := len_costs its'
        omega
      clear hx0
      cases q1 with
      | inl w1 =>
        obtain ⟨a, rfl, ha⟩ := hx6
        have hc : pcC (.inl w1) = 1 := rfl
        have hw1 : (pcL (.inl w1)).length = w1.length := len_str w1
        refine ⟨a, _, rfl, SqT.of ha, rfl, _, _, rfl, _, _, rfl, rfl, ?_⟩
        refine ⟨_, rfl, rfl, _, rfl, ifT rfl ⟨_, rfl, _, rfl, _, _, rfl, rfl, small' (by omega), ?_⟩⟩
        refine ⟨costs its', by omega, its', xs', ln ++ w1, d, _, _, rfl, s6, hd6, nd, it6, ?_, rfl, by omega⟩
        rw [app_str, List.append_assoc]
        exact heq
      | inr t1 =>
        obtain ⟨a, u, rfl, ha, hu⟩ := hx6
        refine ⟨a, _, rfl, SqT.of ha, rfl, _, _, rfl, _, _, rfl, rfl, ?_⟩
        refine ⟨_, rfl, rfl, _, rfl, ifF n_ps ?_⟩
        cases hu with
        | @name a1 w1 h =>
          have hc : pcC (.inr (.name w1)) = 1 := rfl
          have hw1 : (pcL (.inr (.name w1))).length = w1.length := len_str w1
          refine ⟨_, rfl, _, _, _, _, rfl, rfl, SqT.of h, at0, rfl, _, rfl, ifF n_nf ⟨_, rfl, _, _, _, _, rfl, rfl, SqT.of h, at0, rfl, _, rfl, ifF n_nc ?_⟩⟩
          refine ⟨_, rfl, _, rfl, _, _, _, _, rfl, rfl, SqT.of h, at1, _, _, rfl, rfl, small' (by omega), ?_⟩
          refine ⟨costs its', by omega, its', xs', ln ++ w1, d, _, _, rfl, s6, hd6, nd, it6, ?_, rfl, by omega⟩
          rw [app_str, List.append_assoc]
          exact heq
        | @form a1 w1 bv b h hb =>
          have hc : pcC (.inr (.form w1 b)) = b.cost + 3 := rfl
          have hw1 : (pcL (.inr (.form w1 b))).length = w1.length + (b.line.length + 1) := by
            show (w1.cps.toList ++ 58 :: b.line).length = _
            rw [List.length_append, len_str, List.length_cons]
          refine ⟨_, rfl, _, _, _, _, rfl, rfl, SqT.of h, at0, rfl, _, rfl, ifT rfl ?_⟩
          refine ⟨_, rfl, _, rfl, _, _, _, _, rfl, rfl, SqT.of h, at1, _, _, rfl, rfl, small' (by omega), _, _, rfl, rfl, small' (by rw [Str.length_append]; show ln.length + w1.length + 1 ≤ _; omega), ?_⟩
          refine ⟨_, rfl, Or.inl ⟨rfl, _, SqL.of hd6⟩, _, rfl, _, _, _, _, rfl, rfl, SqT.of h, at2, small' (by show 2 ≤ 1000000; decide), fun q7 H7 n7 s7 h7 => ⟨_, _, _, rfl, rfl, s7 _ _ hd6, small (by omega), fun H8 k8 hd8 => ?_⟩⟩
          have hd7 := s7 _ _ hd6
          have tu8 := kp1_tups k8 hd7
          have tu68 : Tups H6 H8 := (Tups.of_same s7).trans tu8
          refine ⟨_, ?_, its' ++ [.inr b], _, ln ++ w1 ++ Str.ofString ":", d, _, _, rfl, same_keep s6 ((Keep.of_same s7).trans k8) nL, hd8, nd, paired_snoc (show lpAt H8 (.ref q7) (.inr b) from ⟨q7, bv, rfl, tu8 _ _ h7, hb.mono tu68⟩) (lps_mono it6 tu68), ?_, rfl, ?_⟩
          · rw [costs_snoc]
            show costs its' + b.cost < costs its' + (b.cost + 3)
            omega
          · rw [app_str, app_str, s_col, pendT_snoc, ← heq]
            show (_ ++ _ ++ [58]) ++ (b.line ++ pendT its') = _ ++ ((w1.cps.toList ++ 58 :: b.line) ++ pendT its')
            simp
          · rw [costs_snoc]
            show costs its' + b.cost ≤ _
            omega
        | @call a1 xv yv x y h hx hy =>
          have hc : pcC (.inr (.call x y)) = x.cost + y.cost + 4 := rfl
          have hw1 : 1 ≤ (pcL (.inr (.call x y))).length := by
            show 1 ≤ (40 :: _).length
            simp
          refine ⟨_, rfl, _, _, _, _, rfl, rfl, SqT.of h, at0, rfl, _, rfl, ifF n_cf ⟨_, rfl, _, _, _, _, rfl, rfl, SqT.of h, at0, rfl, _, rfl, ifT rfl ?_⟩⟩
          refine ⟨_, rfl, _, _, rfl, rfl, small' (by show ln.length + 1 ≤ _; omega), ?_⟩
          refine ⟨_, rfl, small' (by show 2 ≤ 1000000; decide), fun q1 H7 n7 s7 h7 => ?_⟩
          refine ⟨_, rfl, _, _, _, _, rfl, rfl, SqT.of (s7 _ _ h), at2, small' (by show 2 ≤ 1000000; decide), fun q2 H8 n8 s8 h8 => ?_⟩
          refine ⟨small' (by show 2 ≤ 1000000; decide), fun q3 H9 n9 s9 h9 => ?_⟩
          have s69 := (s7.trans s8).trans s9
          refine ⟨_, rfl, _, _, _, _, rfl, rfl, SqT.of (s69 _ _ h), at1, small' (by show 2 ≤ 1000000; decide), fun q4 H10 n10 s10 h10 => ?_⟩
          refine ⟨small' (by show 4 ≤ 1000000; decide), fun q5 H11 n11 s11 h11 => ?_⟩
          have s6b := (s69.trans s10).trans s11
          refine ⟨_, _, _, _, rfl, rfl, s6b _ _ hd6, h11, small' (by show xs'.length + 4 ≤ _; omega), fun p H12 np s12 hp => ?_⟩
          have s6c := s6b.trans s12
          have s0c := s6.trans s6c
          refine ⟨_, ?_, (((its' ++ [.inl (Str.ofString ")")]) ++ [.inr y]) ++ [.inl (Str.ofString " ")]) ++ [.inr x], xs' ++ [.ref q1, .ref q2, .ref q3, .ref q4], ln ++ Str.ofString "(", p, _, _, rfl, s0c, hp, (s6.trans s6b).free np, ?_, ?_, rfl, ?_⟩
          · rw [costs_snoc, costs_snoc, costs_snoc, costs_snoc]
            show costs its' + 1 + y.cost + 1 + x.cost < costs its' + (x.cost + y.cost + 4)
            omega
          · rw [show xs' ++ [V.ref q1, V.ref q2, V.ref q3, V.ref q4] = (((xs' ++ [V.ref q1]) ++ [V.ref q2]) ++ [V.ref q3]) ++ [V.ref q4] by simp]
            have s912 := (s10.trans s11).trans s12
            have s812 := s9.trans s912
            exact paired_snoc (show lpAt H12 (.ref q4) (.inr x) from ⟨q4, xv, rfl, (s11.trans s12) _ _ h10, hx.same s6c⟩) (paired_snoc (show lpAt H12 (.ref q3) (.inl (Str.ofString " ")) from ⟨q3, rfl, s912 _ _ h9⟩) (paired_snoc (show lpAt H12 (.ref q2) (.inr y) from ⟨q2, yv, rfl, s812 _ _ h8, hy.same s6c⟩) (paired_snoc (show lpAt H12 (.ref q1) (.inl (Str.ofString ")")) from ⟨q1, rfl, (s8.trans s812) _ _ h7⟩) (lps_mono it6 (.of_same s6c)))))
          · rw [app_str, s_opn, pendT_snoc, pendT_snoc, pendT_snoc, pendT_snoc, ← heq]
            show (_ ++ [40]) ++ (x.line ++ ((Str.ofString " ").cps.toList ++ (y.line ++ ((Str.ofString ")").cps.toList ++ pendT its')))) = _ ++ ((40 :: (x.line ++ 32 :: (y.line ++ [41]))) ++ pendT its')
            rw [s_blk, s_cls]
            simp
          · rw [costs_snoc, costs_snoc, costs_snoc, costs_snoc]
            show costs its' + 1 + y.cost + 1 + x.cost ≤ _
            omega
end
end NC
/-! ### the law k10 -/
namespace NC
open PySem PySem.Spec PyProof.Rows L2
theorem cndP : (["_law_cell", "_law_pieces"] : List Str).Nodup := by decide +kernel
theorem boot_ValueError : bootBuiltins "ValueError" = some (.type "ValueError") := by decide +kernel
/-- a short text of plain signs -/
def Asc (L : Str) (n : Nat) : Prop := L.length ≤ n ∧ ∀ c ∈ L.cps.toList, c < 128
instance (L : Str) (n : Nat) : Decidable (Asc L n) := by unfold Asc; exact inferInstance
theorem Asc.app {a b : Str} {n m k : Nat} (h1 : Asc a n) (h2 : Asc b m) (h : n + m ≤ k) : Asc (a ++ b) k := by
  refine ⟨?_, fun c hc => ?_⟩
  · have := h1.1
    have := h2.1
    rw [Str.length_append]
    omega
  · rw [app_str] at hc
    rcases List.mem_append.mp hc with hc | hc
    · exact h1.2 c hc
    · exact h2.2 c hc
theorem mem_slice {z : Str} {lo hi : Option Int} {c : Nat} (h : c ∈ (Txt.slice z lo hi).cps.toList) : c ∈ z.cps.toList := by
  unfold Txt.slice at h
  split at h
  · exact h
  · rw [List.toList_toArray] at h
    obtain ⟨i, _, e⟩ := List.mem_filterMap.mp h
    exact Array.mem_toList_iff.mpr (Array.mem_of_getElem? e)
theorem Asc.cut {a : Str} {n : Nat} (h : Asc a n) (lo hi : Option Int) : Asc (Txt.slice a lo hi) n := ⟨Nat.le_trans (Txt.slice_le a lo hi) h.1, fun c hc => h.2 c (mem_slice hc)⟩
theorem Asc.sign {c : Nat} (h : c < 128) : Asc ⟨#[c]⟩ 1 := ⟨Nat.le_refl _, fun d hd => by
  have : d ∈ [c] := hd
  rw [List.mem_singleton.mp this]
  exact h⟩
theorem at_mod {α : Type} {l : List α} {n : Nat} (hn : l.length = n) (h0 : 0 < n) (k : Int) : ∃ x, x ∈ l ∧ atI l (k % (n : Int)) = some x := by
  have h1 : 0 ≤ k % (n : Int) := Int.emod_nonneg _ (by omega)
  have h2 : k % (n : Int) < n := Int.emod_lt_of_pos _ (by omega)
  obtain ⟨j, hj⟩ : ∃ j : Nat, k % (n : Int) = (j : Int) := ⟨_, (Int.toNat_of_nonneg h1).symm⟩
  rw [hj] at h2 ⊢
  have hlt : j < l.length := by omega
  exact ⟨l[j], List.getElem_mem hlt, atI_nat (List.getElem?_eq_getElem hlt)⟩
theorem at_sign {z : Str} {n : Nat} (h : Asc z n) (h0 : 0 < z.length) (k : Int) : ∃ c, c < 128 ∧ atI z.cps.toList (k % (z.length : Int)) = some c := by
  obtain ⟨c, hc, e⟩ := at_mod (l := z.cps.toList) (n := z.length) (by simp [Str.length]) h0 k
  exact ⟨c, h.2 c hc, e⟩
def FrAt (H : Hp) (x : V) : Prop := ∃ q A B, x = .ref q ∧ H q = some (.lst [.str A, .str B]) ∧ Asc A 5 ∧ Asc B 5
theorem FrAt.same {H H' : Hp} {x : V} (h : FrAt H x) (s : Same H H') : FrAt H' x := by
  obtain ⟨q, A, B, e, h, a, b⟩ := h
  exact ⟨q, A, B, e, s _ _ h, a, b⟩
theorem FrAt.all {H H' : Hp} {xs : List V} (h : ∀ x ∈ xs, FrAt H x) (s : Same H H') : ∀ x ∈ xs, FrAt H' x := fun x hx => (h x hx).same s
theorem fr_snoc {H H' : Hp} {xs : List V} {q : Addr} {A B : Str} (h : ∀ x ∈ xs, FrAt H x) (s : Same H H') (hq : H' q = some (.lst [.str A, .str B])) (a : Asc A 5) (b : Asc B 5) : ∀ x ∈ xs ++ [V.ref q], FrAt H' x := fun x hx => by
  rcases List.mem_append.mp hx with hx | hx
  · exact (h x hx).same s
  · rw [List.mem_singleton.mp hx]
    exact ⟨q, A, B, rfl, hq, a, b⟩
theorem pieces_at (k : Int) : ∃ z, Asc z 3 ∧ atI [V.str "a", V.str "xy", V.str ":", V.str "(", V.str ")", V.str " ", V.str "b:", V.str "(a ", V.str " b)", V.str "c"] (k % 10) = some (.str z) := by
  obtain ⟨x, hx, e⟩ := at_mod (l := (["a", "xy", ":", "(", ")", " ", "b:", "(a ", " b)", "c"] : List Str).map V.str) (n := 10) rfl (by decide) k
  obtain ⟨z, hz, rfl⟩ := List.mem_map.mp hx
  exact ⟨z, (by decide +kernel : ∀ z ∈ (["a", "xy", ":", "(", ")", " ", "b:", "(a ", " b)", "c"] : List Str), Asc z 3) z hz, e⟩
theorem join_asc {ws : List Str} {n m : Nat} (h : ∀ z ∈ ws, Asc z n) (hm : ws.length ≤ m) : Asc (Txt.join "" ws) (m * n) ∧ (ws.map (·.length)).sum ≤ m * n := by
  have hs : (ws.map (·.length)).sum ≤ ws.length * n := by
    clear hm
    induction ws with
    | nil => exact Nat.zero_le _
    | cons z r ih =>
      rw [List.map_cons, List.sum_cons, List.length_cons, Nat.succ_mul]
      have h1 := ih fun y hy => h y (List.mem_cons_of_mem _ hy)
      have h2 := (h z List.mem_cons_self).1
      omega
  have hs2 : ws.length * n ≤ m * n := Nat.mul_le_mul_right _ hm
  refine ⟨⟨?_, fun c hc => ?_⟩, Nat.le_trans hs hs2⟩
  · rw [← len_str, join_cps, ← sum_flat]
    omega
  · rw [join_cps] at hc
    obtain ⟨z, hz, hc⟩ := List.mem_flatMap.mp hc
    exact (h z hz).2 c hc
theorem size_line : ∀ t : NT, t.okL → t.size ≤ t.line.length
  | .name w, h => by
    show 1 ≤ w.cps.toList.length
    cases q : w.cps.toList with
    | nil => exact absurd q h.1
    | cons a r => simp
  | .form w b, h => by
    have h1 := size_line b h.2
    show b.size + 1 ≤ (w.cps.toList ++ 58 :: b.line).length
    rw [List.length_append, List.length_cons]
    omega
  | .call a b, h => by
    have h1 := size_line a h.1
    have h2 := size_line b h.2
    show a.size + b.size + 1 ≤ (40 :: (a.line ++ 32 :: (b.line ++ [41]))).length
    rw [List.length_cons, List.length_append, List.length_cons, List.length_append]
    omega
theorem ok_okL : ∀ t : NT, t.ok → t.okL
  | .name _, h => ⟨h.1, h.2.2⟩
  | .form _ b, h => ⟨⟨h.1.1, h.1.2.2⟩, ok_okL b h.2⟩
  | .call a b, h => ⟨ok_okL a h.1, ok_okL b h.2⟩
structure ExcsL (K : PySem.W.Frag) (mg : Str → Option Value) (cE cN cO cL : Addr) : Prop where
  mE : mg "CallError" = some (.ref cE)
  mN : mg "NoStep" = some (.ref cN)
  mO : mg "Outer" = some (.ref cO)
  mL : mg "NoLine" = some (.ref cL)
  x1 : PySem.W.exmOne K (.ref cL) (.ref cE) = some true
  x2 : PySem.W.exmOne K (.ref cL) (.ref cL) = some true
  k1 : PySem.W.kitOne K (.ref cL) (.ref cN) = some false
  k2 : PySem.W.kitOne K (.ref cL) (.ref cO) = some false
  k3 : PySem.W.kitOne K (.ref cL) (.ref cL) = some true
  k4 : PySem.W.kitOne K (.ref cL) (.type "ValueError") = some true
  cl : ClsE K cL
section
variable {P : Program} {w : World} {K : PySem.W.Frag} {mg : Str → Option Value} {base : Heap}
/-- one that never raises, as one that may -/
theorem fn_never {CX : CXT} {k : Nat} {f : Addr} {fd : FuncData} {ps : List Str} {sp : Sp} (F : FnOk P w K mg base CX0 k f fd ps sp) : FnOk P w K mg base CX k f fd ps sp :=
  ⟨F.len, fun A outer s H args us vs Q E hr he hb hv hs => codeAny_mono (F.run A outer s H args us vs Q E hr he hb hv hs) fun r s' hq => by
    cases r with
    | error e => exact False.elim hq
    | ok o =>
      cases o with
      | ret u => exact hq
      | _ => exact False.elim hq⟩
theorem fn_both {CX : CXT} {k : Nat} {f : Addr} {fd : FuncData} {ps : List Str} {sp sp' : Sp} (F : FnOk P w K mg base CX k f fd ps sp) (G : FnOk P w K mg base CX k f fd ps sp') : FnOk P w K mg base CX k f fd ps (fun vs H Q E => sp vs H Q E ∨ sp' vs H Q E) :=
  ⟨fun vs H Q E h => h.elim (F.len vs H Q E) (G.len vs H Q E), fun A outer s H args us vs Q E hr he hb hv hs => hs.elim (F.run A outer s H args us vs Q E hr he hb hv) (G.run A outer s H args us vs Q E hr he hb hv)⟩
/-- a line that is a term's is read, any other refused -/
inductive Sp_readAI (CL : Addr) (vs : List V) (H : Hp) (Q : VK) (E : XK) : Prop where
  | mk (L : Str) (c1 : vs = [.str L]) (c2 : LineOk L) (c3 : ∀ T v' H', Same H H' → NamedAt H' v' T → T.okL → L.cps.toList = T.line → Q v' H') (c4 : (¬ ∃ T : NT, T.okL ∧ L.cps.toList = T.line) → ∀ e H', Same H H' → E (.ref e) (some CL) H')
def sp_readA (CL : Addr) : Sp := fun vs H Q E => Sp_readAI CL vs H Q E
theorem ok_readA {f CL : Addr} {fd : FuncData} (F1 : FnOk P w K mg base CX0 5 f fd ["line"] sp_read) (F2 : FnOk P w K mg base (CXE P w) 5 f fd ["line"] (sp_readB CL)) : FnOk P w K mg base (CXE P w) 5 f fd ["line"] (sp_readA CL) := by
  refine (fn_both (fn_never F1) F2).imp fun vs H Q E h => ?_
  obtain ⟨L, rfl, hL, k, kE⟩ := h
  by_cases hT : ∃ T : NT, T.okL ∧ L.cps.toList = T.line
  · obtain ⟨T, ok, e⟩ := hT
    exact .inl ⟨L, T, rfl, e, ok, hL.len, fun v' H' s' h' => k T v' H' s' h' ok e⟩
  · exact .inr ⟨L, rfl, hL, fun v' T H' s' h' ok e => k T v' H' s' h' ok e, fun e H' s' => kE hT e H' s'⟩
seal L2.PE L2.PA L2.PT L2.PS L2.PSs L2.PW L2.PG L2.PGs L2.PI L2.PO L2.OpR L2.UnR L2.CallR L2.TruR L2.IxR L2.SlR
abbrev s__law_asked : Stmt := top 16
theorem sc__law_asked : FnScope ["_law_script", "_law_way", "_law_pieces", "_law_line", "_law_frames", "_law_pair", "_law_place", "_law_sign", "_law_signs"] ["_law_script"] (defScope s__law_asked) := ⟨rfl, rfl, rfl, by decide +kernel, rfl, by decide +kernel, by decide +kernel⟩
abbrev s__law_base_tells : Stmt := top 17
theorem sc__law_base_tells : FnScope ["_law_line", "e", "_law_many"] ["_law_line"] (defScope s__law_base_tells) := ⟨rfl, rfl, rfl, by decide +kernel, rfl, by decide +kernel, by decide +kernel⟩
abbrev s_law : Stmt := top 19
theorem sc_law : FnScope ["_law_script", "_law_line", "_law_found", "_law_refused"] ["_law_script"] (defScope s_law) := ⟨rfl, rfl, rfl, by decide +kernel, rfl, by decide +kernel, by decide +kernel⟩
inductive Sp_askedI (K : PySem.W.Frag) (vs : List V) (H : Hp) (Q : VK) : Prop where
  | mk (a : Addr) (ns : List Int) (c1 : vs = [.ref a]) (c2 : SqL K H a (ns.map V.int)) (c3 : ns.length ≤ 63) (c4 : ∀ L H', Same H H' → Asc L 50000 → Q (.str L) H')
def sp_asked (K : PySem.W.Frag) : Sp := fun vs H Q _ => Sp_askedI K vs H Q
theorem ok_asked {f : Addr} {fd : FuncData} (F : Fun K "_law_asked" "_law_asked" s__law_asked f fd) (N_ : NoNames mg) (G__law_at : GF P w K mg base CX0 1 "_law_at" ["_law_script", "_law_k"] (sp_lat K)) (G__law_wordy : GF P w K mg base CX0 2 "_law_wordy" ["_law_cells"] (sp_wordy K))
    (G__law_line_of : GF P w K mg base CX0 1 "_law_line_of" ["_law_term"] sp_line_of) : FnOk P w K mg base CX0 3 f fd ["_law_script"] (sp_asked K) := by
  refine F.ok sc__law_asked (fun vs H Q E h => ?_) (fun cdv A outer s H vs Q E hr h => ?_)
  · obtain ⟨a, ns, rfl, _⟩ := h
    rfl
  · obtain ⟨a, ns, rfl, hS, hl, k⟩ := h
    refine ⟨_, (pss_cons (ps_set (i := 1) sc__law_asked.nd rfl (Or.inl rfl) (pe_op op_mod (pe_gf G__law_at (hr.mono (by decide)) rfl pass0 (pa_c (pv 0) (pa_c pe_int pa_nil))) pe_int))
      (pss_cons (ps_if (pt_cmpR op_eq (pv 1) pe_int (nomark _)) (pss_cons (ps_set (i := 2) sc__law_asked.nd rfl (Or.inr rfl) (pLst (pa_c pe_str (pa_c pe_str (pa_c pe_str (pa_c pe_str (pa_c pe_str (pa_c pe_str (pa_c pe_str (pa_c pe_str (pa_c pe_str (pa_c pe_str pa_nil))))))))))))
      (pss_one (ps_ret (pe_join pe_str (pe_compC (N := ["_law_cell"]) (fs := ["_law_pieces"]) (js := [2]) (cl := [("_law_pieces", s.heap.objs.size + 1)]) rfl ⟨rfl, cndP, by decide +kernel, by decide +kernel, by decide +kernel, by decide +kernel⟩ rfl (clos1 rfl rfl) rfl (fun x hx => by rw [List.mem_singleton.mp hx]; exact Or.inr (Or.inl rfl)) (pe_slice sl_ls (pv 0) (po_some pe_int) (po_some pe_int)) (fun _ _ _ => ⟨(pg_name (i := 0) cndP rfl (Or.inl rfl)), pf_nil, (pe_ix ix_list (pv 1) (pe_op op_mod (pv 0) pe_int) (fun _ _ => rfl))⟩)))))) pss_nil)
      (pss_cons (ps_set (i := 3) sc__law_asked.nd rfl (Or.inl rfl) (pe_gf G__law_line_of (hr.mono (by decide)) rfl pass0 (pa_c (pe_gf G__law_wordy (hr.mono (by decide)) rfl pass0 (pa_c (pe_slice sl_ls (pv 0) (po_some pe_int) (po_some pe_int)) pa_nil)) pa_nil)))
      (pss_cons (ps_if (pt_cmpR op_gt (pv 1) pe_int (nomark _)) (pss_cons (ps_set (i := 4) sc__law_asked.nd rfl (Or.inl rfl) (pLst (pa_c (pLst (pa_c pe_str (pa_c pe_str pa_nil))) (pa_c (pLst (pa_c pe_str (pa_c pe_str pa_nil))) (pa_c (pLst (pa_c pe_str (pa_c pe_str pa_nil))) (pa_c (pLst (pa_c pe_str (pa_c pe_str pa_nil))) (pa_c (pLst (pa_c pe_str (pa_c pe_str pa_nil))) (pa_c (pLst (pa_c pe_str (pa_c pe_str pa_nil))) pa_nil))))))))
      (pss_cons (ps_set (i := 4) sc__law_asked.nd rfl (Or.inl rfl) (pe_op op_ct (pv 4) (pLst (pa_c (pLst (pa_c pe_str (pa_c pe_str pa_nil))) (pa_c (pLst (pa_c pe_str (pa_c pe_str pa_nil))) (pa_c (pLst (pa_c pe_str (pa_c pe_str pa_nil))) (pa_c (pLst (pa_c pe_str (pa_c pe_str pa_nil))) (pa_c (pLst (pa_c pe_str (pa_c pe_str pa_nil))) (pa_c (pLst (pa_c pe_str (pa_c pe_str pa_nil))) pa_nil)))))))))
      (pss_cons (ps_set (i := 5) sc__law_asked.nd rfl (Or.inl rfl) (pe_ix ix_list (pv 4) (pe_op op_mod (pe_gf G__law_at (hr.mono (by decide)) rfl pass0 (pa_c (pv 0) (pa_c pe_int pa_nil))) pe_int) (fun _ _ => rfl)))
      (pss_one (ps_ret (pe_op op_add_str (pe_op op_add_str (pe_ix ix_list (pv 5) pe_int (fun _ _ => rfl)) (pv 3)) (pe_ix ix_list (pv 5) pe_int (fun _ _ => rfl)))))))) pss_nil)
      (pss_cons (ps_set (i := 6) sc__law_asked.nd rfl (Or.inl rfl) (pe_op op_mod (pe_gf G__law_at (hr.mono (by decide)) rfl pass0 (pa_c (pv 0) (pa_c pe_int pa_nil))) (pe_op op_add (pCB call_len_str (by rfl) N_.len boot_len (pa_c (pv 3) pa_nil)) pe_int)))
      (pss_cons (ps_set (i := 7) sc__law_asked.nd rfl (Or.inl rfl) (pe_ix ix_str pe_str (pe_op op_mod (pe_gf G__law_at (hr.mono (by decide)) rfl pass0 (pa_c (pv 0) (pa_c pe_int pa_nil))) pe_int) (fun _ _ => rfl)))
      (pss_cons (ps_if (pt_cmpR op_eq (pe_op op_mod (pe_op op_fdiv (pe_gf G__law_at (hr.mono (by decide)) rfl pass0 (pa_c (pv 0) (pa_c pe_int pa_nil))) pe_int) pe_int) pe_int (nomark _)) (pss_cons (ps_set (i := 8) sc__law_asked.nd rfl (Or.inl rfl) pe_str)
      (pss_cons (ps_set (i := 8) sc__law_asked.nd rfl (Or.inl rfl) (pe_op op_add_str (pv 8) pe_str))
      (pss_one (ps_set (i := 7) sc__law_asked.nd rfl (Or.inl rfl) (pe_ix ix_str (pv 8) (pe_op op_mod (pe_gf G__law_at (hr.mono (by decide)) rfl pass0 (pa_c (pv 0) (pa_c pe_int pa_nil))) (pCB call_len_str (by rfl) N_.len boot_len (pa_c (pv 8) pa_nil))) (fun _ _ => rfl)))))) pss_nil)
      (pss_cons (ps_if (pt_cmpR op_eq (pv 1) pe_int (nomark _)) (pss_one (ps_ret (pe_op op_add_str (pe_op op_add_str (pe_slice sl_str (pv 3) po_none (po_some (pv 6))) (pv 7)) (pe_slice sl_str (pv 3) (po_some (pe_op op_add (pv 6) pe_int)) po_none)))) pss_nil)
      (pss_cons (ps_if (pt_cmpR op_eq (pv 1) pe_int (nomark _)) (pss_one (ps_ret (pe_op op_add_str (pe_slice sl_str (pv 3) po_none (po_some (pv 6))) (pe_slice sl_str (pv 3) (po_some (pe_op op_add (pv 6) pe_int)) po_none)))) pss_nil)
      (pss_cons (ps_if (pt_cmpR op_eq (pv 1) pe_int (nomark _)) (pss_one (ps_ret (pe_op op_add_str (pe_op op_add_str (pe_slice sl_str (pv 3) po_none (po_some (pv 6))) (pv 7)) (pe_slice sl_str (pv 3) (po_some (pv 6)) po_none)))) pss_nil)
      (pss_one (ps_ret (pv 3))))))))))))), ?_⟩
    show (let V1_ : TS := _; let V2_ : TS := _; let V3_ : TS := tSeq (tIfS _ V2_ _) V1_; let V4_ : TS := _; let V5_ : TS := tSeq (tIfS _ V4_ _) V3_; let V6_ : TS := _; let V7_ : TS := tSeq (tIfS _ V6_ _) V5_; let V8_ : TS := _; let V9_ : TS := tSeq _ V8_; let V10_ : TS := tSeq _ V9_; let V11_ : TS := tSeq (tIfS _ V10_ _) V7_; let V12_ : TS := tSeq _ V11_; let V13_ : TS := tSeq _ V12_; let V14_ : TS := _; let V15_ : TS := tSeq _ V14_; let V16_ : TS := tSeq _ V15_; let V17_ : TS := tSeq _ V16_; let V18_ : TS := tSeq (tIfS _ V17_ _) V13_; let V19_ : TS := tSeq _ V18_; let V20_ : TS := _; let V21_ : TS := tSeq _ V20_; let V22_ : TS := tSeq (tIfS _ V21_ _) V19_; tSeq _ V22_ _ _ _)
    intro V1_ V2_ V3_ V4_ V5_ V6_ V7_ V8_ V9_ V10_ V11_ V12_ V13_ V14_ V15_ V16_ V17_ V18_ V19_ V20_ V21_ V22_
    refine ⟨_, rfl, a, ns, 0, rfl, hS, hl, fun way => ⟨_, _, rfl, rfl, (show (0 : Int) < 7 by decide), ?_⟩⟩
    refine ⟨_, rfl, rfl, _, rfl, ifD (fun e4 => ?_) (fun e4 => ?_)⟩
    · refine ⟨small' (by show 10 ≤ 1000000; decide), fun q H1 nq s1 h1 => ?_⟩
      refine ⟨rfl, _, rfl, _, rfl, _, rfl, a, _, rfl, sql_same hS s1, fun p H2 np s2 h2 => ?_⟩
      obtain ⟨ms, h2, hms⟩ := cut_atB 1 20 h2
      have hq2 := s2 _ _ h1
      refine ⟨p, _, rfl, SqL.of h2, fun D nD => ⟨fun i σ' H' => ∃ (x0 : Option V) (ws : List Str), σ' = [x0, some (.ref q)] ∧ Same H2 H' ∧ H' D = some (.lst (ws.map V.str)) ∧ ws.length = i ∧ ∀ z ∈ ws, Asc z 3, ⟨none, [], rfl, same_new nD, upd_same, rfl, fun z hz => nomatch hz⟩, ?_, ?_, ?_⟩⟩
      · rintro i σ' H' _ ⟨_, _, _, sm, _⟩
        exact SqL.of (sm _ _ h2)
      · rintro C s0 H0 i x σ' H' hi ⟨x0, ws, rfl, sm, hD, hlen, hws⟩
        rw [List.getElem?_map] at hi
        cases hx : ms[i]? with
        | none => rw [hx] at hi; cases hi
        | some c =>
          rw [hx] at hi
          cases hi
          have hlt : i < ms.length := (List.getElem?_eq_some_iff.mp hx).1
          obtain ⟨z, hz, hat⟩ := pieces_at c
          refine ⟨_, rfl, _, rfl, _, _, rfl, rfl, (show (0 : Int) < 10 by decide), _, _, _, _, rfl, rfl, SqL.of (sm _ _ hq2), hat, _, hD, small (by rw [List.length_map]; omega), _, ws ++ [z], rfl, ?_, ?_, ?_, ?_⟩
          · intro b o e
            rw [upd_ne fun y => by rw [y, nD] at e; cases e]
            exact sm _ _ e
          · rw [upd_same, List.map_append]
            rfl
          · rw [List.length_append, hlen]
            rfl
          · intro y hy
            rcases List.mem_append.mp hy with hy | hy
            · exact hws y hy
            · rw [List.mem_singleton.mp hy]
              exact hz
      · rintro σ' H' ⟨x0, ws, rfl, sm, hD, hlen, hws⟩
        rw [List.length_map] at hlen
        obtain ⟨ja, js⟩ := join_asc hws (m := 19) (by omega)
        refine ⟨_, D, ws, rfl, rfl, SqL.of hD, by decide +kernel, by omega, k _ H' ((s1.trans s2).trans sm) ⟨Nat.le_trans ja.1 (by decide), ja.2⟩⟩
    · refine ⟨_, rfl, _, rfl, _, rfl, a, _, rfl, hS, fun p H1 np s1 h1 => ?_⟩
      rw [show cutV (ns.map V.int) (some 3) (some 98) = _ from rfl] at h1
      obtain ⟨ms, h1, hms⟩ := cut_at h1
      refine ⟨p, ms, rfl, SqL.of h1, by omega, fun v H2 s2 hv => ?_⟩
      have hok := wordyT_ok ms
      have hsz := wordyT_size ms
      have hll := (wordyT ms).line_len hok
      refine ⟨v, _, rfl, hv, by omega, by omega, fun L H3 s3 hL => ?_⟩
      have aL : Asc L 14000 := ⟨by rw [← len_str, hL]; omega, by rw [hL]; exact line_asc _ (ok_okL _ hok)⟩
      have s03 : Same H H3 := (s1.trans s2).trans s3
      have hS3 := sql_same hS s03
      clear hL hv h1 hll
      refine ⟨_, rfl, _, _, rfl, rfl, _, rfl, ifD (fun g4 => ?_) (fun g4 => ?_)⟩
      · -- frames
        refine ⟨small' (by show 2 ≤ 1000000; decide), fun q1 G1 m1 t1 g1 => ?_⟩
        have f0 : ∀ x ∈ ([] : List V), FrAt H3 x := fun x hx => nomatch hx
        have f1 := fr_snoc f0 t1 g1 (by decide +kernel) (by decide +kernel)
        refine ⟨small' (by show 2 ≤ 1000000; decide), fun q2 G2 m2 t2 g2 => ?_⟩
        have f2 := fr_snoc f1 t2 g2 (by decide +kernel) (by decide +kernel)
        refine ⟨small' (by show 2 ≤ 1000000; decide), fun q3 G3 m3 t3 g3 => ?_⟩
        have f3 := fr_snoc f2 t3 g3 (by decide +kernel) (by decide +kernel)
        refine ⟨small' (by show 2 ≤ 1000000; decide), fun q4 G4 m4 t4 g4 => ?_⟩
        have f4 := fr_snoc f3 t4 g4 (by decide +kernel) (by decide +kernel)
        refine ⟨small' (by show 2 ≤ 1000000; decide), fun q5 G5 m5 t5 g5 => ?_⟩
        have f5 := fr_snoc f4 t5 g5 (by decide +kernel) (by decide +kernel)
        refine ⟨small' (by show 2 ≤ 1000000; decide), fun q6 G6 m6 t6 g6 => ?_⟩
        have f6 := fr_snoc f5 t6 g6 (by decide +kernel) (by decide +kernel)
        refine ⟨small' (by show 6 ≤ 1000000; decide), fun r1 J1 n1 u1 j1 => ?_⟩
        replace f6 := FrAt.all f6 u1
        refine ⟨_, rfl, ?_⟩
        refine ⟨small' (by show 2 ≤ 1000000; decide), fun q7 G7 m7 t7 g7 => ?_⟩
        have f7 := fr_snoc f6 t7 g7 (by decide +kernel) (by decide +kernel)
        refine ⟨small' (by show 2 ≤ 1000000; decide), fun q8 G8 m8 t8 g8 => ?_⟩
        have f8 := fr_snoc f7 t8 g8 (by decide +kernel) (by decide +kernel)
        refine ⟨small' (by show 2 ≤ 1000000; decide), fun q9 G9 m9 t9 g9 => ?_⟩
        have f9 := fr_snoc f8 t9 g9 (by decide +kernel) (by decide +kernel)
        refine ⟨small' (by show 2 ≤ 1000000; decide), fun q10 G10 m10 t10 g10 => ?_⟩
        have f10 := fr_snoc f9 t10 g10 (by decide +kernel) (by decide +kernel)
        refine ⟨small' (by show 2 ≤ 1000000; decide), fun q11 G11 m11 t11 g11 => ?_⟩
        have f11 := fr_snoc f10 t11 g11 (by decide +kernel) (by decide +kernel)
        refine ⟨small' (by show 2 ≤ 1000000; decide), fun q12 G12 m12 t12 g12 => ?_⟩
        have f12 := fr_snoc f11 t12 g12 (by decide +kernel) (by decide +kernel)
        refine ⟨small' (by show 6 ≤ 1000000; decide), fun r2 J2 n2 u2 j2 => ?_⟩
        have sJ := ((((((t7.trans t8).trans t9).trans t10).trans t11).trans t12).trans u2)
        refine ⟨_, _, _, _, rfl, rfl, sJ _ _ j1, j2, small' (by show 12 ≤ 1000000; decide), fun r3 J3 n3 u3 j3 => ?_⟩
        have f13 := FrAt.all f12 (u2.trans u3)
        have sF : Same H J3 := (s03.trans ((((((t1.trans t2).trans t3).trans t4).trans t5).trans t6).trans u1)).trans (sJ.trans u3)
        refine ⟨_, rfl, _, rfl, a, ns, 1, rfl, sql_same hS sF, hl, fun at1 => ⟨_, _, rfl, rfl, (show (0 : Int) < 12 by decide), ?_⟩⟩
        obtain ⟨x, hx, hat⟩ := at_mod (l := [V.ref q1, V.ref q2, V.ref q3, V.ref q4, V.ref q5, V.ref q6, V.ref q7, V.ref q8, V.ref q9, V.ref q10, V.ref q11, V.ref q12]) (n := 12) rfl (by decide) at1
        obtain ⟨q, A1, B1, rfl, hq, aA, aB⟩ := f13 x hx
        refine ⟨_, _, _, _, rfl, rfl, SqL.of j3, hat, ?_⟩
        have h1 := aA.1
        have h2 := aB.1
        have h3 := aL.1
        refine ⟨_, rfl, _, _, _, _, rfl, rfl, SqL.of hq, at0, _, rfl, _, _, rfl, rfl, small' (by omega), _, rfl, _, _, _, _, rfl, rfl, SqL.of hq, NC.at1, _, _, rfl, rfl, small' (by rw [Str.length_append]; omega), ?_⟩
        exact k _ J3 sF ((aA.app aL (Nat.le_refl _)).app aB (by decide))
      · -- a sign set, left out or put in
        refine ⟨_, rfl, a, ns, 1, rfl, hS3, hl, fun a1 => ⟨_, rfl, L, rfl, small' (by have := aL.1; omega), _, _, rfl, rfl, _, _, rfl, rfl, (by omega), ?_⟩⟩
        have hpl : 0 ≤ a1 % ((L.length : Int) + 1) := Int.emod_nonneg _ (by omega)
        generalize a1 % ((L.length : Int) + 1) = pl at hpl
        refine ⟨_, rfl, a, ns, 2, rfl, hS3, hl, fun a2 => ?_⟩
        obtain ⟨c0, hc0, hat0⟩ := at_sign (z := "(): aB1-") (n := 8) (by decide +kernel) (by decide +kernel) a2
        refine ⟨_, _, rfl, rfl, (show (0 : Int) < 8 by decide), _, _, _, rfl, rfl, small' (by decide +kernel), hat0, ?_⟩
        show V11_ _ _ _
        refine tseq_cut (u := V7_) fun K1 h1 => ?_
        have hLl := aL.1
        have rest : ∀ (c : Nat) (x8 : Option V), c < 128 → K1 [some (.ref a), some (.int (way % 7)), none, some (.str L), none, none, some (.int pl), some (.str ⟨#[c]⟩), x8] H3 := fun c x8 hc => h1 _ _ (by
          have aS := Asc.sign hc
          have p1 := aL.cut none (some pl)
          have p2 := aL.cut (some (pl + 1)) none
          have p3 := aL.cut (some pl) none
          refine ⟨_, rfl, rfl, _, rfl, ifD (fun _ => ?_) (fun _ => ?_)⟩
          · refine ⟨_, rfl, _, rfl, _, rfl, L, rfl, small' (by omega), _, rfl, _, _, rfl, rfl, small' (by have := p1.1; have := aS.1; omega), _, rfl, _, rfl, _, _, rfl, rfl, _, rfl, L, rfl, small' (by omega), _, _, rfl, rfl, small' (by have := (p1.app aS (Nat.le_refl _)).1; have := p2.1; omega), ?_⟩
            exact k _ H3 s03 ((p1.app aS (Nat.le_refl _)).app p2 (by decide))
          · refine ⟨_, rfl, rfl, _, rfl, ifD (fun _ => ?_) (fun _ => ?_)⟩
            · refine ⟨_, rfl, _, rfl, _, rfl, L, rfl, small' (by omega), _, rfl, _, rfl, _, _, rfl, rfl, _, rfl, L, rfl, small' (by omega), _, _, rfl, rfl, small' (by have := p1.1; have := p2.1; omega), ?_⟩
              exact k _ H3 s03 (p1.app p2 (by decide))
            · refine ⟨_, rfl, rfl, _, rfl, ifD (fun _ => ?_) (fun _ => ?_)⟩
              · refine ⟨_, rfl, _, rfl, _, rfl, L, rfl, small' (by omega), _, rfl, _, _, rfl, rfl, small' (by have := p1.1; have := aS.1; omega), _, rfl, _, rfl, _, rfl, L, rfl, small' (by omega), _, _, rfl, rfl, small' (by have := (p1.app aS (Nat.le_refl _)).1; have := p3.1; omega), ?_⟩
                exact k _ H3 s03 ((p1.app aS (Nat.le_refl _)).app p3 (by decide))
              · exact ⟨_, rfl, k _ H3 s03 ⟨by omega, aL.2⟩⟩)
        refine ⟨_, rfl, a, ns, 2, rfl, hS3, hl, fun a3 => ⟨_, _, rfl, rfl, ⟨by decide, by decide⟩, _, _, rfl, rfl, (show (0 : Int) < 3 by decide), rfl, _, rfl, ifD (fun _ => ?_) (fun _ => rest c0 none hc0)⟩⟩
        refine ⟨_, rfl, _, _, rfl, rfl, small' (by decide +kernel), ?_⟩
        refine ⟨_, rfl, _, rfl, a, ns, 2, rfl, hS3, hl, fun a4 => ⟨_, rfl, _, rfl, small' (by decide +kernel), _, _, rfl, rfl, (by decide +kernel), ?_⟩⟩
        obtain ⟨c1, hc1, hat1⟩ := at_sign (z := Str.ofString "!\"#$&'()*+,-./0123456789:;<=>?@ABCDEFGHIJKLMNOPQRSTUVWXYZ" ++ Str.ofString "[\\]^_`abcdefghijklmnopqrstuvwxyz{|}~ ") (n := 200) (by decide +kernel) (by decide +kernel) a4
        exact ⟨_, _, _, rfl, rfl, small' (by decide +kernel), hat1, rest c1 _ hc1⟩
inductive Sp_tells10I (vs : List V) (H : Hp) (Q : VK) : Prop where
  | mk (L : Str) (c1 : vs = [.str L]) (c2 : LineOk L) (c3 : ∀ (b : Bool) H', Same H H' → (b = true ↔ ¬ ∃ T : NT, T.okL ∧ L.cps.toList = T.line) → Q (.bl b) H')
def sp_tells10 : Sp := fun vs H Q _ => Sp_tells10I vs H Q
theorem ok_tells10 {f c_CallError c_NoStep c_Outer c_NoLine : Addr} {fd : FuncData} (F : Fun K "_law_base_tells" "_law_base_tells" s__law_base_tells f fd) (N_ : NoNames mg) (X_ : ExcsL K mg c_CallError c_NoStep c_Outer c_NoLine) (G_read : GF P w K mg base (CXE P w) 5 "read" ["line"] (sp_readA c_NoLine)) :
    FnOk P w K mg base CX0 6 f fd ["_law_line"] sp_tells10 := by
  refine F.ok sc__law_base_tells (fun vs H Q E h => ?_) (fun cdv A outer s H vs Q E hr h => ?_)
  · obtain ⟨L, rfl, _⟩ := h
    rfl
  · obtain ⟨L, rfl, hL, k⟩ := h
    have hm_CallError := X_.mE
    have hm_NoStep := X_.mN
    have hm_Outer := X_.mO
    have hm_NoLine := X_.mL
    have clE := X_.cl
    refine ⟨_, (pss_cons (ps_tryB (i := 1) ⟨rfl, rfl, rfl⟩ sc__law_base_tells.nd rfl rfl (pex_gf G_read (hr.mono (by decide)) rfl (pa_c (pv 0) pa_nil)) rfl hm_CallError (fun ea oe hoc hon => (pss_cons (ps_set (i := 2) sc__law_base_tells.nd rfl (Or.inl rfl) (pe_op op_add (pCT call_int1 (by rfl) N_.int boot_int (pa_c (pCB (call_isH List.mem_cons_self hoc hon clE) (by rfl) N_.isinstance boot_isinstance (pa_c (pv 1) (pa_c (pe_glob (v := .ref c_NoStep) rfl hm_NoStep rfl) pa_nil))) pa_nil)) (pCT call_int1 (by rfl) N_.int boot_int (pa_c (pCB (call_isH List.mem_cons_self hoc hon clE) (by rfl) N_.isinstance boot_isinstance (pa_c (pv 1) (pa_c (pe_glob (v := .ref c_Outer) rfl hm_Outer rfl) pa_nil))) pa_nil))))
      (pss_cons (ps_set (i := 2) sc__law_base_tells.nd rfl (Or.inl rfl) (pe_op op_add (pv 2) (pCT call_int1 (by rfl) N_.int boot_int (pa_c (pCB (call_isH List.mem_cons_self hoc hon clE) (by rfl) N_.isinstance boot_isinstance (pa_c (pv 1) (pa_c (pe_glob (v := .ref c_NoLine) rfl hm_NoLine rfl) pa_nil))) pa_nil))))
      (pss_one (ps_ret (pe_and (pCB (call_isH List.mem_cons_self hoc hon clE) (by rfl) N_.isinstance boot_isinstance (pa_c (pv 1) (pa_c (pe_bltn (v := V.ty "ValueError") rfl N_.ValueError boot_ValueError rfl) pa_nil))) (pe_one (pe_cmpR op_eq (pv 2) pe_int (nomark _))))))))))
      (pss_one (ps_ret pe_bl))), ?_⟩
    show (let V1_ : TS := _; tSeq _ V1_ _ _ _)
    intro V1_
    refine ⟨_, rfl, L, rfl, hL, fun T v' H1 s1 hv ok e => ?_, fun hno e H1 s1 => ?_⟩
    · exact k false H1 s1 ⟨(fun z => nomatch z), fun z => absurd ⟨T, ok, e⟩ z⟩
    · refine ⟨e, _, rfl, rfl, X_.x1, rfl, ?_⟩
      refine ⟨_, rfl, Or.inl ⟨_, false, rfl, X_.k1, Or.inr ⟨false, rfl, _, rfl, Or.inl ⟨_, false, rfl, X_.k2, Or.inr ⟨false, rfl, _, _, rfl, rfl, ?_⟩⟩⟩⟩⟩
      refine ⟨_, rfl, _, rfl, Or.inl ⟨_, true, rfl, X_.k3, Or.inr ⟨true, rfl, _, _, rfl, rfl, ?_⟩⟩⟩
      refine ⟨_, rfl, Or.inr ⟨_, true, rfl, X_.k4, _, rfl, iteT ⟨_, rfl, rfl, ?_⟩⟩⟩
      exact k true H1 s1 ⟨fun _ => hno, fun _ => rfl⟩
inductive Sp_lawI (K : PySem.W.Frag) (vs : List V) (H : Hp) (Q : VK) : Prop where
  | mk (a : _) (ns : List Int) (c1 : vs = [.ref a]) (c2 : SqL K H a (ns.map V.int)) (c3 : ns.length ≤ 63) (c4 : ∀ H', Q (.bl true) H')
def sp_law (K : PySem.W.Frag) : Sp := fun vs H Q u3_ => Sp_lawI K vs H Q
theorem ok_law {f c_CallError c_NoStep c_Outer c_NoLine : Addr} {fd : FuncData} (F : Fun K "law" "law" s_law f fd) (N_ : NoNames mg) (X_ : ExcsL K mg c_CallError c_NoStep c_Outer c_NoLine) (G__law_asked : GF P w K mg base CX0 3 "_law_asked" ["_law_script"] (sp_asked K)) (G_read : GF P w K mg base (CXE P w) 5 "read" ["line"] (sp_readA c_NoLine))
    (G__law_base_tells : GF P w K mg base CX0 6 "_law_base_tells" ["_law_line"] sp_tells10) (G__law_well : GF P w K mg base CX0 1 "_law_well" ["_law_line"] sp_well) (G__law_is_named : GF P w K mg base CX0 2 "_law_is_named" ["_law_found"] sp_is_named) (G__law_line_of : GF P w K mg base CX0 1 "_law_line_of" ["_law_term"] sp_line_of) :
    FnOk P w K mg base CX0 7 f fd ["_law_script"] (sp_law K) := by
  refine F.ok sc_law (fun vs H Q E h => ?_) (fun cdv A outer s H vs Q E hr h => ?_)
  · obtain ⟨a, ns, rfl, _⟩ := h
    rfl
  · obtain ⟨a, ns, rfl, hS, hl, k⟩ := h
    have hm_NoLine := X_.mL
    refine ⟨_, (pss_cons (ps_set (i := 1) sc_law.nd rfl (Or.inl rfl) (pe_gf G__law_asked (hr.mono (by decide)) rfl pass0 (pa_c (pv 0) pa_nil)))
      (pss_cons (ps_set (i := 2) sc_law.nd rfl (Or.inl rfl) pe_non)
      (pss_cons (ps_set (i := 3) sc_law.nd rfl (Or.inl rfl) pe_bl)
      (pss_cons (ps_tryA (i := 2) ⟨rfl, rfl, rfl⟩ sc_law.nd rfl (Or.inl rfl) (pex_gf G_read (hr.mono (by decide)) rfl (pa_c (pv 1) pa_nil)) rfl hm_NoLine (fun ea => (pss_one (ps_set (i := 3) sc_law.nd rfl (Or.inl rfl) pe_bl))))
      (pss_cons (ps_if (pt_cmpR op_ne (pe_gf G__law_base_tells (hr.mono (by decide)) rfl pass0 (pa_c (pv 1) pa_nil)) (pv 3) (nomark _)) (pss_one (ps_ret pe_bl)) pss_nil)
      (pss_cons (ps_if (pt_not (pt_val (pe_gf G__law_well (hr.mono (by decide)) rfl pass0 (pa_c (pv 1) pa_nil)))) (pss_one (ps_ret (pv 3))) pss_nil)
      (pss_one (ps_ret (pe_and (pe_not (pv 3)) (pe_and (pe_gf G__law_is_named (hr.mono (by decide)) rfl pass0 (pa_c (pv 2) pa_nil)) (pe_one (pe_cmpR op_eq (pe_gf G__law_line_of (hr.mono (by decide)) rfl pass0 (pa_c (pv 2) pa_nil)) (pv 1) (nomark _))))))))))))), ?_⟩
    show (let V1_ : TS := _; let V2_ : TS := _; let V3_ : TS := tSeq (tIfS _ V2_ _) V1_; let V4_ : TS := _; let V5_ : TS := tSeq (tIfS _ V4_ _) V3_; let V6_ : TS := tSeq _ V5_; let V7_ : TS := tSeq _ V6_; let V8_ : TS := tSeq _ V7_; tSeq _ V8_ _ _ _)
    intro V1_ V2_ V3_ V4_ V5_ V6_ V7_ V8_
    refine ⟨_, rfl, a, ns, rfl, hS, hl, fun L H1 s1 aL => ?_⟩
    have hlo : LineOk L := ⟨Nat.le_trans aL.1 (by decide), aL.2⟩
    have hw : roundsL L.length (repl pTC [70] (L.cps.toList.foldl markStep [])) = [84] ↔ ∃ T : NT, T.okL ∧ L.cps.toList = T.line := by
      have := well_iff L.cps.toList
      rw [len_str] at this
      exact this
    refine ⟨_, rfl, L, rfl, hlo, fun T v' H2 s2 hv ok e => ?_, fun hno e H2 s2 => ?_⟩
    · refine ⟨_, rfl, L, rfl, hlo, fun b H3 s3 hb => ?_⟩
      have eb : b = false := by
        cases b with
        | false => rfl
        | true => exact absurd ⟨T, ok, e⟩ (hb.mp rfl)
      subst eb
      refine ⟨_, rfl, rfl, _, rfl, ifNF rfl ⟨_, rfl, L, rfl, Nat.le_trans aL.1 (by decide), aL.2, fun b hb2 => ?_⟩⟩
      have eb : b = true := hb2.mpr (hw.mpr ⟨T, ok, e⟩)
      subst eb
      refine ⟨_, rfl, iteF ?_⟩
      have hv3 := hv.same s3
      have hTl : T.line.length ≤ 50000 := by rw [← e, len_str]; exact aL.1
      have hTs := size_line T ok
      refine ⟨_, rfl, _, rfl, _, rfl, iteT ⟨_, rfl, v', T, rfl, hv3, ok, by omega, fun H5 s5 => ⟨_, rfl, iteT ⟨_, rfl, v', T, rfl, hv3.same s5, by omega, by omega, fun L2 H6 s6 hL2 => ⟨_, rfl, rfl, ?_⟩⟩⟩⟩⟩
      rw [str_ext (hL2.trans e.symm), decide_eq_true rfl]
      exact k H6
    · refine ⟨e, _, rfl, rfl, X_.x2, ?_⟩
      refine ⟨_, rfl, L, rfl, hlo, fun b H3 s3 hb => ?_⟩
      have eb : b = true := hb.mpr hno
      subst eb
      refine ⟨_, rfl, rfl, _, rfl, ifNF rfl ⟨_, rfl, L, rfl, Nat.le_trans aL.1 (by decide), aL.2, fun b hb2 => ?_⟩⟩
      have eb : b = false := by
        cases b with
        | false => rfl
        | true => exact absurd (hw.mp (hb2.mp rfl)) hno
      subst eb
      exact ⟨_, rfl, iteT ⟨_, rfl, k H3⟩⟩
end
end NC
namespace NC
open PySem PySem.Spec PyProof.Rows L2
theorem all_mk {l : PySem.W.OpenLaw} {w : World} {K : PySem.W.Frag} {h : Heap} {mg : Str → Option Value} {fa C  f1 f2 f3 f4 f5 f6 f7 f8 f9 f10 f11 f12 f13 f14 f15 f16 f17 f18 : Addr} {cE cN cO cL : Addr} (X : K.In h) (G : h.Ns mainGlobals mg) (hfa : mg "law" = some (.ref fa))
    {od1 an1 od2 an2 od3 an3 od4 an4 od5 an5 od6 an6 od7 an7 od8 an8 od9 an9 od10 an10 od11 an11 od12 an12 od13 an13 od14 an14 od15 an15 od16 an16 od17 an17 od18 an18 : Option Addr} {sl1 sl2 sl3 sl4 sl5 sl6 sl7 sl8 sl9 sl10 sl11 sl12 sl13 sl14 sl15 sl16 sl17 sl18 : Array (Option Value)} {oc1 kV1 dc1 pm1 ct1 cd1 oc2 kV2 dc2 pm2 ct2 cd2 oc3 kV3 dc3 pm3 ct3 cd3 oc4 kV4 dc4 pm4 ct4 cd4 oc5 kV5 dc5 pm5 ct5 cd5 oc6 kV6 dc6 pm6 ct6 cd6 oc7 kV7 dc7 pm7 ct7 cd7 oc8 kV8 dc8 pm8 ct8 cd8 oc9 kV9 dc9 pm9 ct9 cd9 oc10 kV10 dc10 pm10 ct10 cd10 oc11 kV11 dc11 pm11 ct11 cd11 oc12 kV12 dc12 pm12 ct12 cd12 oc13 kV13 dc13 pm13 ct13 cd13 oc14 kV14 dc14 pm14 ct14 cd14 oc15 kV15 dc15 pm15 ct15 cd15 oc16 kV16 dc16 pm16 ct16 cd16 oc17 kV17 dc17 pm17 ct17 cd17 oc18 kV18 dc18 pm18 ct18 cd18 : Value}
    (a8 : PySem.W.nsIn K mainGlobals "read" = some (some (.ref f8)))
    (a9 : PySem.W.nsIn K mainGlobals "_law_at" = some (some (.ref f9)))
    (a10 : PySem.W.nsIn K mainGlobals "_law_any_word" = some (some (.ref f10)))
    (a11 : PySem.W.nsIn K mainGlobals "_law_wordy" = some (some (.ref f11)))
    (a12 : PySem.W.nsIn K mainGlobals "_law_letters" = some (some (.ref f12)))
    (a13 : PySem.W.nsIn K mainGlobals "_law_is_named" = some (some (.ref f13)))
    (a14 : PySem.W.nsIn K mainGlobals "_law_line_of" = some (some (.ref f14)))
    (a15 : PySem.W.nsIn K mainGlobals "_law_well" = some (some (.ref f15)))
    (a16 : PySem.W.nsIn K mainGlobals "_law_asked" = some (some (.ref f16)))
    (a17 : PySem.W.nsIn K mainGlobals "_law_base_tells" = some (some (.ref f17)))
    (a18 : PySem.W.nsIn K mainGlobals "law" = some (some (.ref f18)))
    (yC : PySem.W.nsIn K mainGlobals "Reader" = some (some (.ref C))) (yM : PySem.W.makesIn K C = true) (yI : PySem.W.findIn K (.ref C) "__init__" = some (some (.ref f1))) (yIf : PySem.W.isFn K (.ref f1) = true) (yK : PySem.W.keepIn K (.ref C) = true)
    (y1 : PySem.W.plainGet K C Str.empty = true) (y2 : PySem.W.hasDictIn K C = true) (y3 : PySem.W.plainOver K C = true) (y4 : PySem.W.findIn K (.ref C) "__setattr__" = some (some (.builtin "object.__setattr__")))
    (yB_is_over : PySem.W.findIn K (.ref C) "is_over" = some (some (.ref f2))) (yF_is_over : PySem.W.isFn K (.ref f2) = true)
    (yB_take : PySem.W.findIn K (.ref C) "take" = some (some (.ref f3))) (yF_take : PySem.W.isFn K (.ref f3) = true)
    (yB_need : PySem.W.findIn K (.ref C) "need" = some (some (.ref f4))) (yF_need : PySem.W.isFn K (.ref f4) = true)
    (yB_take_word : PySem.W.findIn K (.ref C) "take_word" = some (some (.ref f5))) (yF_take_word : PySem.W.isFn K (.ref f5) = true)
    (yB_next_name : PySem.W.findIn K (.ref C) "next_name" = some (some (.ref f6))) (yF_next_name : PySem.W.isFn K (.ref f6) = true)
    (yB_ended : PySem.W.findIn K (.ref C) "ended" = some (some (.ref f7))) (yF_ended : PySem.W.isFn K (.ref f7) = true)
    (yN_line : PySem.W.findIn K (.ref C) "line" = some none)
    (yN_at : PySem.W.findIn K (.ref C) "at" = some none)
    (yN_begun : PySem.W.findIn K (.ref C) "begun" = some none)
    (eE : PySem.W.nsIn K mainGlobals "CallError" = some (some (.ref cE))) (eN : PySem.W.nsIn K mainGlobals "NoStep" = some (some (.ref cN))) (eO : PySem.W.nsIn K mainGlobals "Outer" = some (some (.ref cO))) (eL : PySem.W.nsIn K mainGlobals "NoLine" = some (some (.ref cL)))
    (eX : PySem.W.excIn K cL [.type "ValueError", .type "Exception", .type "BaseException", .type "object"] "ValueError.__new__" = true)
    (e1 : PySem.W.exmOne K (.ref cL) (.ref cE) = some true) (e2 : PySem.W.exmOne K (.ref cL) (.ref cL) = some true) (e3 : PySem.W.kitOne K (.ref cL) (.ref cN) = some false) (e4 : PySem.W.kitOne K (.ref cL) (.ref cO) = some false) (e5 : PySem.W.kitOne K (.ref cL) (.ref cL) = some true) (e6 : PySem.W.kitOne K (.ref cL) (.type "ValueError") = some true)
    (e7 : PySem.W.findIn K (.ref cL) "__getattribute__" = some (some (.builtin "BaseException.__getattribute__"))) (e13 : PySem.W.findIn K (.ref cL) "__getattr__" = some none) (e14 : PySem.W.mroIn K cL (.type "BaseException") = some true) (e8 : PySem.W.hasDictIn K cL = true) (e9 : PySem.W.findIn K (.ref cL) "__class__" = some (some (.builtin "object.__class__"))) (e10 : PySem.W.specialIn K (.builtin "object.__class__") "__get__" = some (some (.builtin "getset_descriptor.__get__"))) (e11 : PySem.W.takesIn K (.builtin "object.__class__") = some true) (e12 : PySem.W.mroIn K cL (.type "object") = some true)
    {tk_LETTERS : Tok} (yG_LETTERS : PySem.W.nsIn K mainGlobals "LETTERS" = some (some (.str (Str.ofString "abcdefghijklmnopqrstuvwxyz") tk_LETTERS)))
    (l1 : K.lookup f1 = some ⟨oc1, od1, .func (PySem.W.fnOf "__init__" "Reader.__init__" (defArgs s_Reader___init__) (defBody s_Reader___init__) (defScope s_Reader___init__) .none kV1 dc1 pm1 an1 cd1 ct1), sl1⟩) (c1' : PySem.W.codeIn K cd1 "Reader.__init__" = true) (k1 : PySem.W.keepIn K (.ref f1) = true)
    (l2 : K.lookup f2 = some ⟨oc2, od2, .func (PySem.W.fnOf "is_over" "Reader.is_over" (defArgs s_Reader_is_over) (defBody s_Reader_is_over) (defScope s_Reader_is_over) .none kV2 dc2 pm2 an2 cd2 ct2), sl2⟩) (c2' : PySem.W.codeIn K cd2 "Reader.is_over" = true) (k2 : PySem.W.keepIn K (.ref f2) = true)
    (l3 : K.lookup f3 = some ⟨oc3, od3, .func (PySem.W.fnOf "take" "Reader.take" (defArgs s_Reader_take) (defBody s_Reader_take) (defScope s_Reader_take) .none kV3 dc3 pm3 an3 cd3 ct3), sl3⟩) (c3' : PySem.W.codeIn K cd3 "Reader.take" = true) (k3 : PySem.W.keepIn K (.ref f3) = true)
    (l4 : K.lookup f4 = some ⟨oc4, od4, .func (PySem.W.fnOf "need" "Reader.need" (defArgs s_Reader_need) (defBody s_Reader_need) (defScope s_Reader_need) .none kV4 dc4 pm4 an4 cd4 ct4), sl4⟩) (c4' : PySem.W.codeIn K cd4 "Reader.need" = true) (k4 : PySem.W.keepIn K (.ref f4) = true)
    (l5 : K.lookup f5 = some ⟨oc5, od5, .func (PySem.W.fnOf "take_word" "Reader.take_word" (defArgs s_Reader_take_word) (defBody s_Reader_take_word) (defScope s_Reader_take_word) .none kV5 dc5 pm5 an5 cd5 ct5), sl5⟩) (c5' : PySem.W.codeIn K cd5 "Reader.take_word" = true) (k5 : PySem.W.keepIn K (.ref f5) = true)
    (l6 : K.lookup f6 = some ⟨oc6, od6, .func (PySem.W.fnOf "next_name" "Reader.next_name" (defArgs s_Reader_next_name) (defBody s_Reader_next_name) (defScope s_Reader_next_name) .none kV6 dc6 pm6 an6 cd6 ct6), sl6⟩) (c6' : PySem.W.codeIn K cd6 "Reader.next_name" = true) (k6 : PySem.W.keepIn K (.ref f6) = true)
    (l7 : K.lookup f7 = some ⟨oc7, od7, .func (PySem.W.fnOf "ended" "Reader.ended" (defArgs s_Reader_ended) (defBody s_Reader_ended) (defScope s_Reader_ended) .none kV7 dc7 pm7 an7 cd7 ct7), sl7⟩) (c7' : PySem.W.codeIn K cd7 "Reader.ended" = true) (k7 : PySem.W.keepIn K (.ref f7) = true)
    (l8 : K.lookup f8 = some ⟨oc8, od8, .func (PySem.W.fnOf "read" "read" (defArgs s_read) (defBody s_read) (defScope s_read) .none kV8 dc8 pm8 an8 cd8 ct8), sl8⟩) (c8' : PySem.W.codeIn K cd8 "read" = true) (k8 : PySem.W.keepIn K (.ref f8) = true)
    (l9 : K.lookup f9 = some ⟨oc9, od9, .func (PySem.W.fnOf "_law_at" "_law_at" (defArgs s__law_at) (defBody s__law_at) (defScope s__law_at) .none kV9 dc9 pm9 an9 cd9 ct9), sl9⟩) (c9' : PySem.W.codeIn K cd9 "_law_at" = true) (k9 : PySem.W.keepIn K (.ref f9) = true)
    (l10 : K.lookup f10 = some ⟨oc10, od10, .func (PySem.W.fnOf "_law_any_word" "_law_any_word" (defArgs s__law_any_word) (defBody s__law_any_word) (defScope s__law_any_word) .none kV10 dc10 pm10 an10 cd10 ct10), sl10⟩) (c10' : PySem.W.codeIn K cd10 "_law_any_word" = true) (k10 : PySem.W.keepIn K (.ref f10) = true)
    (l11 : K.lookup f11 = some ⟨oc11, od11, .func (PySem.W.fnOf "_law_wordy" "_law_wordy" (defArgs s__law_wordy) (defBody s__law_wordy) (defScope s__law_wordy) .none kV11 dc11 pm11 an11 cd11 ct11), sl11⟩) (c11' : PySem.W.codeIn K cd11 "_law_wordy" = true) (k11 : PySem.W.keepIn K (.ref f11) = true)
    (l12 : K.lookup f12 = some ⟨oc12, od12, .func (PySem.W.fnOf "_law_letters" "_law_letters" (defArgs s__law_letters) (defBody s__law_letters) (defScope s__law_letters) .none kV12 dc12 pm12 an12 cd12 ct12), sl12⟩) (c12' : PySem.W.codeIn K cd12 "_law_letters" = true) (k12 : PySem.W.keepIn K (.ref f12) = true)
    (l13 : K.lookup f13 = some ⟨oc13, od13, .func (PySem.W.fnOf "_law_is_named" "_law_is_named" (defArgs s__law_is_named) (defBody s__law_is_named) (defScope s__law_is_named) .none kV13 dc13 pm13 an13 cd13 ct13), sl13⟩) (c13' : PySem.W.codeIn K cd13 "_law_is_named" = true) (k13 : PySem.W.keepIn K (.ref f13) = true)
    (l14 : K.lookup f14 = some ⟨oc14, od14, .func (PySem.W.fnOf "_law_line_of" "_law_line_of" (defArgs s__law_line_of) (defBody s__law_line_of) (defScope s__law_line_of) .none kV14 dc14 pm14 an14 cd14 ct14), sl14⟩) (c14' : PySem.W.codeIn K cd14 "_law_line_of" = true) (k14 : PySem.W.keepIn K (.ref f14) = true)
    (l15 : K.lookup f15 = some ⟨oc15, od15, .func (PySem.W.fnOf "_law_well" "_law_well" (defArgs s__law_well) (defBody s__law_well) (defScope s__law_well) .none kV15 dc15 pm15 an15 cd15 ct15), sl15⟩) (c15' : PySem.W.codeIn K cd15 "_law_well" = true) (k15 : PySem.W.keepIn K (.ref f15) = true)
    (l16 : K.lookup f16 = some ⟨oc16, od16, .func (PySem.W.fnOf "_law_asked" "_law_asked" (defArgs s__law_asked) (defBody s__law_asked) (defScope s__law_asked) .none kV16 dc16 pm16 an16 cd16 ct16), sl16⟩) (c16' : PySem.W.codeIn K cd16 "_law_asked" = true) (k16 : PySem.W.keepIn K (.ref f16) = true)
    (l17 : K.lookup f17 = some ⟨oc17, od17, .func (PySem.W.fnOf "_law_base_tells" "_law_base_tells" (defArgs s__law_base_tells) (defBody s__law_base_tells) (defScope s__law_base_tells) .none kV17 dc17 pm17 an17 cd17 ct17), sl17⟩) (c17' : PySem.W.codeIn K cd17 "_law_base_tells" = true) (k17 : PySem.W.keepIn K (.ref f17) = true)
    (l18 : K.lookup f18 = some ⟨oc18, od18, .func (PySem.W.fnOf "law" "law" (defArgs s_law) (defBody s_law) (defScope s_law) .none kV18 dc18 pm18 an18 cd18 ct18), sl18⟩) (c18' : PySem.W.codeIn K cd18 "law" = true) (k18 : PySem.W.keepIn K (.ref f18) = true)
    (z0 : PySem.W.nsIn K mainGlobals "len" = some none) (z1 : PySem.W.nsIn K mainGlobals "abs" = some none) (z2 : PySem.W.nsIn K mainGlobals "isinstance" = some none) (z3 : PySem.W.nsIn K mainGlobals "tuple" = some none) (z4 : PySem.W.nsIn K mainGlobals "str" = some none) (z5 : PySem.W.nsIn K mainGlobals "range" = some none) (z6 : PySem.W.nsIn K mainGlobals "int" = some none) (z7 : PySem.W.nsIn K mainGlobals "bool" = some none) (z8 : PySem.W.nsIn K mainGlobals "ValueError" = some none)
     :
    ∃ fd : FuncData, (∀ (s : Shared) (v : Value), BindsTo s fd ⟨[v], []⟩ [("_law_script", v)]) ∧ ∀ base : Heap, K.In base → base.Ns mainGlobals mg → FnOk l.prog w K mg base CX0 7 fa fd ["_law_script"] (sp_law  K) := by
  have e := hfa.symm.trans (PySem.W.mg_of X G a18)
  cases e
  have N_ : NoNames mg := ⟨PySem.W.mg_none_of X G z0, PySem.W.mg_none_of X G z1, PySem.W.mg_none_of X G z2, PySem.W.mg_none_of X G z3, PySem.W.mg_none_of X G z4, PySem.W.mg_none_of X G z5, PySem.W.mg_none_of X G z6, PySem.W.mg_none_of X G z7, PySem.W.mg_none_of X G z8⟩
  have R : RdCls K C := ⟨⟨y1, y2, y3, y4⟩, yN_line, yN_at, yN_begun⟩
  have X_ : ExcsL K mg cE cN cO cL := ⟨PySem.W.mg_of X G eE, PySem.W.mg_of X G eN, PySem.W.mg_of X G eO, PySem.W.mg_of X G eL, e1, e2, e3, e4, e5, e6, ⟨e7, e13, e14, e8, e9, e10, e11, e12⟩⟩
  have hG_LETTERS := PySem.W.mg_of X G yG_LETTERS
  have F1 := fun_mk (st := s_Reader___init__) l1 c1' k1
  have b1 := F1.binds (ps := ["self", "line"]) fun _ _ _ _ _ _ us hl => by obtain ⟨_, _, rfl⟩ := len2 hl; rfl
  have F2 := fun_mk (st := s_Reader_is_over) l2 c2' k2
  have b2 := F2.binds (ps := ["self"]) fun _ _ _ _ _ _ us hl => by obtain ⟨_, rfl⟩ := len1 hl; rfl
  have F3 := fun_mk (st := s_Reader_take) l3 c3' k3
  have b3 := F3.binds (ps := ["self", "sign"]) fun _ _ _ _ _ _ us hl => by obtain ⟨_, _, rfl⟩ := len2 hl; rfl
  have F4 := fun_mk (st := s_Reader_need) l4 c4' k4
  have b4 := F4.binds (ps := ["self", "sign"]) fun _ _ _ _ _ _ us hl => by obtain ⟨_, _, rfl⟩ := len2 hl; rfl
  have F5 := fun_mk (st := s_Reader_take_word) l5 c5' k5
  have b5 := F5.binds (ps := ["self"]) fun _ _ _ _ _ _ us hl => by obtain ⟨_, rfl⟩ := len1 hl; rfl
  have F6 := fun_mk (st := s_Reader_next_name) l6 c6' k6
  have b6 := F6.binds (ps := ["self"]) fun _ _ _ _ _ _ us hl => by obtain ⟨_, rfl⟩ := len1 hl; rfl
  have F7 := fun_mk (st := s_Reader_ended) l7 c7' k7
  have b7 := F7.binds (ps := ["self", "part"]) fun _ _ _ _ _ _ us hl => by obtain ⟨_, _, rfl⟩ := len2 hl; rfl
  have F8 := fun_mk (st := s_read) l8 c8' k8
  have b8 := F8.binds (ps := ["line"]) fun _ _ _ _ _ _ us hl => by obtain ⟨_, rfl⟩ := len1 hl; rfl
  have m8 := PySem.W.mg_of X G a8
  have F9 := fun_mk (st := s__law_at) l9 c9' k9
  have b9 := F9.binds (ps := ["_law_script", "_law_k"]) fun _ _ _ _ _ _ us hl => by obtain ⟨_, _, rfl⟩ := len2 hl; rfl
  have m9 := PySem.W.mg_of X G a9
  have F10 := fun_mk (st := s__law_any_word) l10 c10' k10
  have b10 := F10.binds (ps := ["_law_cell"]) fun _ _ _ _ _ _ us hl => by obtain ⟨_, rfl⟩ := len1 hl; rfl
  have m10 := PySem.W.mg_of X G a10
  have F11 := fun_mk (st := s__law_wordy) l11 c11' k11
  have b11 := F11.binds (ps := ["_law_cells"]) fun _ _ _ _ _ _ us hl => by obtain ⟨_, rfl⟩ := len1 hl; rfl
  have m11 := PySem.W.mg_of X G a11
  have F12 := fun_mk (st := s__law_letters) l12 c12' k12
  have b12 := F12.binds (ps := ["_law_found"]) fun _ _ _ _ _ _ us hl => by obtain ⟨_, rfl⟩ := len1 hl; rfl
  have m12 := PySem.W.mg_of X G a12
  have F13 := fun_mk (st := s__law_is_named) l13 c13' k13
  have b13 := F13.binds (ps := ["_law_found"]) fun _ _ _ _ _ _ us hl => by obtain ⟨_, rfl⟩ := len1 hl; rfl
  have m13 := PySem.W.mg_of X G a13
  have F14 := fun_mk (st := s__law_line_of) l14 c14' k14
  have b14 := F14.binds (ps := ["_law_term"]) fun _ _ _ _ _ _ us hl => by obtain ⟨_, rfl⟩ := len1 hl; rfl
  have m14 := PySem.W.mg_of X G a14
  have F15 := fun_mk (st := s__law_well) l15 c15' k15
  have b15 := F15.binds (ps := ["_law_line"]) fun _ _ _ _ _ _ us hl => by obtain ⟨_, rfl⟩ := len1 hl; rfl
  have m15 := PySem.W.mg_of X G a15
  have F16 := fun_mk (st := s__law_asked) l16 c16' k16
  have b16 := F16.binds (ps := ["_law_script"]) fun _ _ _ _ _ _ us hl => by obtain ⟨_, rfl⟩ := len1 hl; rfl
  have m16 := PySem.W.mg_of X G a16
  have F17 := fun_mk (st := s__law_base_tells) l17 c17' k17
  have b17 := F17.binds (ps := ["_law_line"]) fun _ _ _ _ _ _ us hl => by obtain ⟨_, rfl⟩ := len1 hl; rfl
  have m17 := PySem.W.mg_of X G a17
  have F18 := fun_mk (st := s_law) l18 c18' k18
  have b18 := F18.binds (ps := ["_law_script"]) fun _ _ _ _ _ _ us hl => by obtain ⟨_, rfl⟩ := len1 hl; rfl
  have m18 := PySem.W.mg_of X G a18
  refine ⟨PySem.W.fnOf "law" "law" (defArgs s_law) (defBody s_law) (defScope s_law) .none kV18 dc18 pm18 an18 cd18 ct18, fun s v => .of_eq rfl, fun base KB _ => ?_⟩
  have G_Reader : GK l.prog w K mg base CX0 1 C "Reader" ["self", "line"] (sp_rinit C) := ⟨_, _, ok_rinit F1 R, ⟨yM, yI, yIf, yK⟩, PySem.W.mg_of X G yC, b1⟩
  have G_Reader_is_over : GM l.prog w K mg base CX0 1 C "is_over" ["self"] (sp_rover C) := ⟨_, _, ok_rover F2 N_ R, ⟨yB_is_over, yF_is_over, k2⟩, b2⟩
  have G_Reader_take : GM l.prog w K mg base CX0 2 C "take" ["self", "sign"] (sp_rtake C) := ⟨_, _, ok_rtake F3 R G_Reader_is_over, ⟨yB_take, yF_take, k3⟩, b3⟩
  have G_Reader_need : GM l.prog w K mg base CX0 3 C "need" ["self", "sign"] (sp_rneed C) := ⟨_, _, ok_rneed F4 R G_Reader_take, ⟨yB_need, yF_need, k4⟩, b4⟩
  have G_Reader_take_word : GM l.prog w K mg base CX0 2 C "take_word" ["self"] (sp_rword C) := ⟨_, _, ok_rword F5 R hG_LETTERS G_Reader_is_over, ⟨yB_take_word, yF_take_word, k5⟩, b5⟩
  have G_Reader_next_name : GM l.prog w K mg base CX0 3 C "next_name" ["self"] (sp_rname C) := ⟨_, _, ok_rname F6 R G_Reader_take G_Reader_take_word, ⟨yB_next_name, yF_next_name, k6⟩, b6⟩
  have G_Reader_ended : GM l.prog w K mg base CX0 4 C "ended" ["self", "part"] (sp_rended C) := ⟨_, _, ok_rended F7 N_ R G_Reader_need, ⟨yB_ended, yF_ended, k7⟩, b7⟩
  have GE_need : GM l.prog w K mg base (CXE l.prog w) 3 C "need" ["self", "sign"] (sp_needE C cL) := ⟨_, _, ok_needE F4 R (exc_of KB X_.mL eX) G_Reader_take, ⟨yB_need, yF_need, k4⟩, b4⟩
  have GE_take_word : GM l.prog w K mg base (CXE l.prog w) 2 C "take_word" ["self"] (sp_wordE C cL) := ⟨_, _, ok_wordE F5 R hG_LETTERS (exc_of KB X_.mL eX) G_Reader_is_over, ⟨yB_take_word, yF_take_word, k5⟩, b5⟩
  have GE_next_name : GM l.prog w K mg base (CXE l.prog w) 3 C "next_name" ["self"] (sp_nameE C cL) := ⟨_, _, ok_nameE F6 R G_Reader_take GE_take_word, ⟨yB_next_name, yF_next_name, k6⟩, b6⟩
  have GE_ended : GM l.prog w K mg base (CXE l.prog w) 4 C "ended" ["self", "part"] (sp_endedE C cL) := ⟨_, _, ok_endedE F7 N_ R GE_need, ⟨yB_ended, yF_ended, k7⟩, b7⟩
  have Fr1 := ok_read F8 R G_Reader G_Reader_is_over G_Reader_next_name G_Reader_ended
  have Fr2 := ok_readB F8 R (exc_of KB X_.mL eX) G_Reader G_Reader_is_over GE_next_name GE_ended
  have G_read : GF l.prog w K mg base (CXE l.prog w) 5 "read" ["line"] (sp_readA cL) := ⟨_, _, ok_readA Fr1 Fr2, m8, k8, b8⟩
  have G__law_any_word : GF l.prog w K mg base CX0 1 "_law_any_word" ["_law_cell"] sp_any_wordF := ⟨_, _, ok_any_wordF F10 N_, m10, k10, b10⟩
  have G__law_wordy : GF l.prog w K mg base CX0 2 "_law_wordy" ["_law_cells"] (sp_wordy K) := ⟨_, _, ok__law_wordy F11 N_ G__law_any_word, m11, k11, b11⟩
  have G__law_at : GF l.prog w K mg base CX0 1 "_law_at" ["_law_script", "_law_k"] (sp_lat K) := ⟨_, _, ok__law_at F9 N_, m9, k9, b9⟩
  have G__law_letters : GF l.prog w K mg base CX0 1 "_law_letters" ["_law_found"] sp_letters := ⟨_, _, ok__law_letters F12 N_, m12, k12, b12⟩
  have G__law_is_named : GF l.prog w K mg base CX0 2 "_law_is_named" ["_law_found"] sp_is_named := ⟨_, _, ok__law_is_named F13 N_ G__law_letters, m13, k13, b13⟩
  have G__law_line_of : GF l.prog w K mg base CX0 1 "_law_line_of" ["_law_term"] sp_line_of := ⟨_, _, ok_line_of F14 N_, m14, k14, b14⟩
  have G__law_well : GF l.prog w K mg base CX0 1 "_law_well" ["_law_line"] sp_well := ⟨_, _, ok_well F15 N_, m15, k15, b15⟩
  have G__law_asked : GF l.prog w K mg base CX0 3 "_law_asked" ["_law_script"] (sp_asked K) := ⟨_, _, ok_asked F16 N_ G__law_at G__law_wordy G__law_line_of, m16, k16, b16⟩
  have G__law_base_tells : GF l.prog w K mg base CX0 6 "_law_base_tells" ["_law_line"] sp_tells10 := ⟨_, _, ok_tells10 F17 N_ X_ G_read, m17, k17, b17⟩
  exact ok_law F18 N_ X_ G__law_asked G_read G__law_base_tells G__law_well G__law_is_named G__law_line_of
theorem walk {l : PySem.W.OpenLaw} {q : Program} {loose : List Str} {XP : (Str → Option Value) → Heap → Prop} {YP : World → Heap → Prop} {d : DefRec} {K : Params → PySem.W.Frag} (hn : l.most = some 63) (hdf : d.params.defaults = [])
    (hY : ∀ (w : World) (h : Heap), YP w h → (K w.params).In h)
    (F : ∀ (w : World) (mg : Str → Option Value) (fa : Addr) (h : Heap), (K w.params).In h → h.Ns mainGlobals mg → mg d.name = some (.ref fa) →
      ∃ fd : FuncData, (∀ (s : Shared) (u : Value), BindsTo s fd ⟨[u], []⟩ [("_law_script", u)]) ∧ ∀ base : Heap, (K w.params).In base → base.Ns mainGlobals mg → FnOk l.prog w (K w.params) mg base CX0 7 fa fd ["_law_script"] (sp_law (K w.params))) :
    PySem.W.WalkO q loose XP YP l.row.toRowW d [] (fun f vs => PySem.call f vs) :=
  L2.walk_of (n := 63) (k := 7) (x := "_law_script") (CX := fun _ => CX0) (sp := fun w => sp_law (K w.params)) hn (by decide) hdf ⟨rfl, by decide, by decide⟩ hY F (fun _ _ a ns hl _ hS => ⟨a, ns, rfl, hS, hl, fun _ => rfl⟩) fun _ _ _ _ _ z => z
end NC
open PySem PySem.W PyProof.Rows
set_option maxRecDepth 100000 in
set_option maxHeartbeats 0 in
theorem PySem.Challenge.cw_namecall_k10_lines_read_or_refused_holds : PySem.Challenge.rw_namecall_k10_lines_read_or_refused.Holds := by
  w_on; o_law; k_head; (case hw => w_witness2)
  k_fill
  refine NC.walk (l := PySem.Challenge.rw_namecall_k10_lines_read_or_refused) rfl rfl (fun w h Y => PySem.W.kIn_of Y) ?F
  case F =>
    intro w mg fa h KX G hmg
    refine' NC.all_mk KX G hmg ?a8 ?a9 ?a10 ?a11 ?a12 ?a13 ?a14 ?a15 ?a16 ?a17 ?a18 ?yC ?yM ?yI ?yIf ?yK ?y1 ?y2 ?y3 ?y4 ?yB_is_over ?yF_is_over ?yB_take ?yF_take ?yB_need ?yF_need ?yB_take_word ?yF_take_word ?yB_next_name ?yF_next_name ?yB_ended ?yF_ended ?yN_line ?yN_at ?yN_begun ?eE ?eN ?eO ?eL ?eX ?e1 ?e2 ?e3 ?e4 ?e5 ?e6 ?e7 ?e13 ?e14 ?e8 ?e9 ?e10 ?e11 ?e12 ?yG_LETTERS ?l1 ?c1' ?k1 ?l2 ?c2' ?k2 ?l3 ?c3' ?k3 ?l4 ?c4' ?k4 ?l5 ?c5' ?k5 ?l6 ?c6' ?k6 ?l7 ?c7' ?k7 ?l8 ?c8' ?k8 ?l9 ?c9' ?k9 ?l10 ?c10' ?k10 ?l11 ?c11' ?k11 ?l12 ?c12' ?k12 ?l13 ?c13' ?k13 ?l14 ?c14' ?k14 ?l15 ?c15' ?k15 ?l16 ?c16' ?k16 ?l17 ?c17' ?k17 ?l18 ?c18' ?k18 ?z0 ?z1 ?z2 ?z3 ?z4 ?z5 ?z6 ?z7 ?z8
    (case a8 => k_is); (case a9 => k_is); (case a10 => k_is); (case a11 => k_is); (case a12 => k_is); (case a13 => k_is); (case a14 => k_is); (case a15 => k_is)
    (case a16 => k_is); (case a17 => k_is); (case a18 => k_is); (case yC => k_is); (case yM => k_is); (case yI => k_is); (case yIf => k_is); (case yK => k_is)
    (case y1 => k_is); (case y2 => k_is); (case y3 => k_is); (case y4 => k_is); (case yB_is_over => k_is); (case yF_is_over => k_is); (case yB_take => k_is); (case yF_take => k_is)
    (case yB_need => k_is); (case yF_need => k_is); (case yB_take_word => k_is); (case yF_take_word => k_is); (case yB_next_name => k_is); (case yF_next_name => k_is); (case yB_ended => k_is); (case yF_ended => k_is)
    (case yN_line => k_is); (case yN_at => k_is); (case yN_begun => k_is); (case eE => k_is); (case eN => k_is); (case eO => k_is); (case eL => k_is); (case eX => kernel_rfl)
    (case e1 => kernel_rfl); (case e2 => kernel_rfl); (case e3 => kernel_rfl); (case e4 => kernel_rfl); (case e5 => kernel_rfl); (case e6 => kernel_rfl); (case e7 => k_is); (case e13 => k_is)
    (case e14 => k_is); (case e8 => k_is); (case e9 => k_is); (case e10 => k_is); (case e11 => k_is); (case e12 => k_is); (case yG_LETTERS => k_is); (case l1 => k_is)
    (case c1' => k_is); (case k1 => k_is); (case l2 => k_is); (case c2' => k_is); (case k2 => k_is); (case l3 => k_is); (case c3' => k_is); (case k3 => k_is)
    (case l4 => k_is); (case c4' => k_is); (case k4 => k_is); (case l5 => k_is); (case c5' => k_is); (case k5 => k_is); (case l6 => k_is); (case c6' => k_is)
    (case k6 => k_is); (case l7 => k_is); (case c7' => k_is); (case k7 => k_is); (case l8 => k_is); (case c8' => k_is); (case k8 => k_is); (case l9 => k_is)
    (case c9' => k_is); (case k9 => k_is); (case l10 => k_is); (case c10' => k_is); (case k10 => k_is); (case l11 => k_is); (case c11' => k_is); (case k11 => k_is)
    (case l12 => k_is); (case c12' => k_is); (case k12 => k_is); (case l13 => k_is); (case c13' => k_is); (case k13 => k_is); (case l14 => k_is); (case c14' => k_is)
    (case k14 => k_is); (case l15 => k_is); (case c15' => k_is); (case k15 => k_is); (case l16 => k_is); (case c16' => k_is); (case k16 => k_is); (case l17 => k_is)
    (case c17' => k_is); (case k17 => k_is); (case l18 => k_is); (case c18' => k_is); (case k18 => k_is); (case z0 => k_is); (case z1 => k_is); (case z2 => k_is)
    (case z3 => k_is); (case z4 => k_is); (case z5 => k_is); (case z6 => k_is); (case z7 => k_is); (case z8 => k_is)
