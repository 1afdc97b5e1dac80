import PyProof.Rows.All
import Wide.All
import OpenK.AllK
import Wide.FinOn
import Lean
import PyProof.EqAt
import PyProof.EqKinds
import PyProof.TupleCall
import PyProof.NeKinds
import PySem.Challenge.RW_namecall_k06_whole_numbered_and_named
set_option Elab.async false
set_option linter.all false
set_option maxRecDepth 100000
/-! THE HAND LAYER, for ints, bools, texts, own classes, LISTS and tuples (index, slices, in, append, pop ..), calls, loops. Paste it whole ahead of your own text; what your proof does not reach may be deleted. -/
namespace L2
open PySem PySem.Spec PyProof.Rows

/-- a key: an int or a str -/
abbrev Key := Sum Int Str
def keyIs : Key → Value → Bool
  | .inl k, v => Value.isInt k v
  | .inr x, v => Value.isStrOf x v
def keyH (w : World) : Key → Int
  | .inl k => hashInt k
  | .inr x => hashStr w x
theorem keyIs_shape : ∀ {k : Key} {v : Value}, keyIs k v = true → (∃ i t, k = Sum.inl i ∧ v = Value.int i t) ∨ (∃ x t, k = Sum.inr x ∧ v = Value.str x t)
  | .inl i, v, h => by
    obtain ⟨t, e⟩ := Value.isInt_shape (k := i) (v := v) h
    exact .inl ⟨i, t, rfl, e⟩
  | .inr x, v, h => by
    obtain ⟨t, e⟩ := Value.isStrOf_shape (x := x) (v := v) h
    exact .inr ⟨x, t, rfl, e⟩
theorem keyIs_int (i : Int) (t : Tok) : keyIs (.inl i) (.int i t) = true := by simp [keyIs, Value.isInt]
theorem keyIs_str (x : Str) (t : Tok) : keyIs (.inr x) (.str x t) = true := by simp [keyIs, Value.isStrOf]
theorem key_ll (a b : Int) : decide ((Sum.inl a : Key) = Sum.inl b) = (a == b) := by
  by_cases e : a = b
  · subst e; simp
  · have h : ¬ (Sum.inl a : Key) = Sum.inl b := fun q => e (Sum.inl.inj q)
    rw [decide_eq_false h]
    exact (beq_eq_false_iff_ne.mpr e).symm
theorem key_rr (a b : Str) : decide ((Sum.inr a : Key) = Sum.inr b) = decide (a = b) := by
  by_cases e : a = b
  · subst e; simp
  · have h : ¬ (Sum.inr a : Key) = Sum.inr b := fun q => e (Sum.inr.inj q)
    rw [decide_eq_false h, decide_eq_false e]
theorem key_lr (a : Int) (b : Str) : decide ((Sum.inl a : Key) = Sum.inr b) = false := decide_eq_false (fun q => nomatch q)
theorem key_rl (a : Str) (b : Int) : decide ((Sum.inr a : Key) = Sum.inl b) = false := decide_eq_false (fun q => nomatch q)

def mixKind (prog : Program) (w : World) : PySem.KeyKind prog w Key where
  is := keyIs
  hash := keyH w
  inj := fun v a b ha hb => by
    rcases keyIs_shape ha with ⟨i, t, rfl, rfl⟩ | ⟨x, t, rfl, rfl⟩
    · rcases keyIs_shape hb with ⟨j, u, rfl, e⟩ | ⟨y, u, rfl, e⟩
      · injection e with e1 _; rw [e1]
      · exact nomatch e
    · rcases keyIs_shape hb with ⟨j, u, rfl, e⟩ | ⟨y, u, rfl, e⟩
      · exact nomatch e
      · injection e with e1 _; rw [e1]
  byValue := fun k v h => by
    rcases keyIs_shape h with ⟨i, t, rfl, rfl⟩ | ⟨x, t, rfl, rfl⟩ <;> rfl
  pyHash := fun hv h => by
    rcases keyIs_shape hv with ⟨i, t, rfl, rfl⟩ | ⟨x, t, rfl, rfl⟩
    · exact wpAny_pyHash_int h
    · exact wpAny_pyHash_str h
  eqBool := fun hu hv h => by
    rcases keyIs_shape hu with ⟨i, t, rfl, rfl⟩ | ⟨x, t, rfl, rfl⟩
    · rcases keyIs_shape hv with ⟨j, u, rfl, rfl⟩ | ⟨y, u, rfl, rfl⟩
      · rw [key_ll] at h; exact wpAny_eqBool_int h
      · rw [key_lr] at h; exact SeqAt.EqAt.int_str i t y u _ _ _ _ h
    · rcases keyIs_shape hv with ⟨j, u, rfl, rfl⟩ | ⟨y, u, rfl, rfl⟩
      · rw [key_rl] at h; exact SeqAt.EqAt.str_int x t j u _ _ _ _ h
      · rw [key_rr] at h; exact wpAny_eqBool_str h
  «strs» := fun k x t v h => by
    rcases keyIs_shape h with ⟨i, u, rfl, e⟩ | ⟨y, u, rfl, e⟩
    · exact nomatch e
    · injection e with e1 _
      subst e1
      cases v <;> rfl

theorem mixKind_is (prog : Program) (w : World) (k : Key) (v : Value) : (mixKind prog w).is k v = keyIs k v := rfl
theorem mixKind_int (prog : Program) (w : World) (i : Int) (t : Tok) : (mixKind prog w).is (.inl i) (.int i t) = true := keyIs_int i t
theorem mixKind_str (prog : Program) (w : World) (x : Str) (t : Tok) : (mixKind prog w).is (.inr x) (.str x t) = true := keyIs_str x t
end L2

namespace L2
open PySem PySem.Spec PyProof.Rows

/-- a value, without the heap -/
inductive V where
  | non | bl (b : Bool) | int (i : Int) | str (x : Str) | byt (b : Array UInt8) | flt (b : UInt64) | ref (a : Addr) | ty (n : String)
  deriving DecidableEq

def RelV : V → Value → Prop
  | .non, u => u = Value.none
  | .bl b, u => u = Value.bool b
  | .int i, u => ∃ t, u = Value.int i t
  | .str x, u => ∃ t, u = Value.str x t
  | .byt b, u => ∃ t, u = Value.bytes b t
  | .flt b, u => ∃ t, u = Value.float b t
  | .ref a, u => u = Value.ref a
  | .ty n, u => u = Value.type n

abbrev Vals : List V → List Value → Prop := Paired RelV
theorem Vals.length {xs : List V} {us : List Value} (r : Vals xs us) : xs.length = us.length := Paired.length r
theorem Vals.get : ∀ {xs : List V} {us : List Value} {i : Nat} {x : V}, Vals xs us → xs[i]? = some x → ∃ u, us[i]? = some u ∧ RelV x u
  | _, _, _, _, .nil, e => by simp at e
  | _, _, 0, _, .cons r _, e => by simp at e; subst e; exact ⟨_, rfl, r⟩
  | _, _, i + 1, x, .cons _ t, e => by
    obtain ⟨u, h1, h2⟩ := Vals.get (i := i) (x := x) t (by simpa using e)
    exact ⟨u, by simpa using h1, h2⟩
theorem Vals.set {x : V} {u : Value} (r : RelV x u) : ∀ {xs : List V} {us : List Value} (i : Nat), Vals xs us → Vals (xs.set i x) (us.set i u)
  | _, _, _, .nil => .nil
  | _, _, 0, .cons _ t => .cons r t
  | _, _, i + 1, .cons q t => .cons q (Vals.set r i t)
theorem Vals.append : ∀ {xs ys : List V} {us ws : List Value}, Vals xs us → Vals ys ws → Vals (xs ++ ys) (us ++ ws)
  | _, _, _, _, .nil, s => s
  | _, _, _, _, .cons r t, s => .cons r (Vals.append t s)
theorem Vals.take : ∀ {xs : List V} {us : List Value} (n : Nat), Vals xs us → Vals (xs.take n) (us.take n)
  | _, _, 0, _ => .nil
  | _, _, _ + 1, .nil => .nil
  | _, _, n + 1, .cons r t => .cons r (Vals.take n t)
theorem Vals.drop : ∀ {xs : List V} {us : List Value} (n : Nat), Vals xs us → Vals (xs.drop n) (us.drop n)
  | _, _, 0, r => r
  | _, _, _ + 1, .nil => .nil
  | _, _, n + 1, .cons _ t => Vals.drop n t
theorem Vals.none_of : ∀ {xs : List V} {us : List Value} {i : Nat}, Vals xs us → xs[i]? = none → us[i]? = none := fun {xs us i} r e => by
  have h1 := r.length
  have h2 : xs.length ≤ i := List.getElem?_eq_none_iff.mp e
  exact List.getElem?_eq_none_iff.mpr (by omega)

def RelO : Option V → Option Value → Prop
  | some v, some u => RelV v u
  | none, none => True
  | _, _ => False
def KV {κ : Type} : List (κ × V) → List (κ × Value) → Prop := Paired fun (p : κ × V) (q : κ × Value) => p.1 = q.1 ∧ RelV p.2 q.2

/-- a key of a dict (00_mix): an int or a text -/
def kV : Key → V
  | .inl i => .int i
  | .inr x => .str x

/-- what stands at a tracked address -/
inductive HO where
  /-- a list -/
  | lst (xs : List V)
  /-- a tuple (never changes) -/
  | tup (xs : List V)
  /-- a dict whose keys are ints and texts; one whose keys are tuples of ints and texts (the empty one is both) -/
  | dK (kvs : List (Key × V)) | dT (kvs : List (List Key × V))
  /-- a set of ints: its members, its size -/
  | set (S : Int → Bool) (n : Nat)
  /-- an instance of the class at C, its dict at dx, its attributes -/
  | ins (C dx : Addr) (fs : List (Str × V))
  /-- the dict of the instance at x -/
  | own (x : Addr)
  /-- the dict of an exception -/
  | xd (fs : List (Str × V))
  /-- a bound method, f of x -/
  | met (f x : Addr)
  /-- a range object lo, lo + 1, .. below hi -/
  | rng (lo hi : Int)
  /-- a thing that is known to the object (the script; a dict while a loop walks it): read, never written while it is so -/
  | frz (o : Obj) (u : HO)
  /-- a code object's table -/
  | tbl (ps : Array Value)
  /-- any other thing, by what is true of its one object (a def of one's own: SetO a S n := HO.ext fun h => ..) -/
  | ext (φ : Heap → Prop)

abbrev Hp := Addr → Option HO
def upd (H : Hp) (a : Addr) (o : HO) : Hp := fun b => if b = a then some o else H b
theorem upd_same {H : Hp} {a : Addr} {o : HO} : upd H a o a = some o := by unfold upd; rw [if_pos rfl]
theorem upd_ne {H : Hp} {a b : Addr} {o : HO} (h : b ≠ a) : upd H a o b = H b := by unfold upd; rw [if_neg h]
theorem ne_of_none {H : Hp} {a b : Addr} {o : HO} (h : H a = some o) (h' : H b = none) : a ≠ b := by
  intro e; subst e; rw [h] at h'; cases h'

section
variable (P : Program) (w : World)
def ObjOk (H : Hp) (h : Heap) (a : Addr) : HO → Prop
  | .lst xs => xs.length ≤ sizeLine ∧ ∃ (its : List Value) (n : Nat), Vals xs its ∧ h.get? a = some { cls := .type "list", data := .seq its.toArray n }
  | .tup xs => xs.length ≤ sizeLine ∧ ∃ its : List Value, Vals xs its ∧ IsTup h a its.toArray
  | .dK kvs => kvs.length ≤ sizeLine ∧ (a == sysModules) = false ∧ ∃ vs, KV kvs vs ∧ h.DictOf (mixKind P w) a vs
  | .dT kvs => kvs.length ≤ sizeLine ∧ (a == sysModules) = false ∧ ∃ xs : List (List Key × Addr × Value),
      Paired (fun (p : List Key × V) (q : List Key × Addr × Value) => p.1 = q.1 ∧ H q.2.1 = some (.tup (p.1.map kV)) ∧ RelV p.2 q.2.2) kvs xs ∧
      ∃ o es ep, h.get? a = some o ∧ o.ExactDict ∧ o.data = .dict es ep ∧ es.toList = xs.map (entryOfKey (tupleKind (mixKind P w))) ∧ (xs.map (·.1)).Nodup
  | .set S n => h.SetOf (intKind P w) a S n
  | .ins C dx fs => H dx = some (.own a) ∧ fs.length ≤ 1000 ∧ dx ≠ a ∧ h.get? a = some (PySem.W.instObj C dx) ∧
      ∃ mA, h.Ns1 dx mA ∧ (∀ f, RelO (fs.lookup f) (mA f)) ∧ PySem.Within mA (fs.map (·.1))
  | .own _ => ∃ o, h.get? a = some o
  | .xd fs => ∃ mA, h.Ns1 a mA ∧ ∀ f, RelO (fs.lookup f) (mA f)
  | .rng lo hi => ∃ t u v, h.get? a = some { cls := .type "range", data := .fields #[.int lo t, .int hi u, .int 1 v] }
  | .frz o u => h.get? a = some o ∧ ObjOk H h a u
  | .tbl ps => h.get? a = some { cls := .none, data := .fields ps }
  | .met f x => h.get? a = some (PySem.W.methodObj (.ref f) (.ref x))
  | .ext φ => φ h ∧ (∃ o, h.get? a = some o) ∧ ∀ h1 h2 : Heap, φ h1 → (∀ o, h1.get? a = some o → h2.get? a = some o) → φ h2
/-- the abstract heap is held -/
def HOk (H : Hp) (h : Heap) : Prop := ∀ a o, H a = some o → ObjOk P w H h a o
end

section
variable {P : Program} {w : World} {H H' : Hp} {h h' : Heap} {a : Addr} {o : HO}
theorem ObjOk.lt (x : ObjOk P w H h a o) : a < h.objs.size := by
  cases o with
  | lst xs => obtain ⟨_, _, _, _, e⟩ := x; exact Heap.lt_size e
  | tup xs => obtain ⟨_, _, _, p⟩ := x; exact p.lt
  | dK kvs => obtain ⟨_, _, _, _, o, _, _, e, _⟩ := x; exact Heap.lt_size e
  | dT kvs => obtain ⟨_, _, _, _, o, _, _, e, _⟩ := x; exact Heap.lt_size e
  | set S n => obtain ⟨o, _, _, _, e, _⟩ := x; exact Heap.lt_size e
  | ins C dx fs => obtain ⟨_, _, _, e, _⟩ := x; exact Heap.lt_size e
  | own y => obtain ⟨_, e⟩ := x; exact Heap.lt_size e
  | xd fs => obtain ⟨_, ⟨_, _, _, e, _⟩, _⟩ := x; exact Heap.lt_size e
  | rng lo hi => obtain ⟨_, _, _, e⟩ := x; exact Heap.lt_size e
  | frz ob u => obtain ⟨e, _⟩ := x; exact Heap.lt_size e
  | tbl ps => exact Heap.lt_size (show h.get? a = some _ from x)
  | met f y => exact Heap.lt_size (show h.get? a = some _ from x)
  | ext φ => obtain ⟨_, ⟨_, e⟩, _⟩ := x; exact Heap.lt_size e
theorem Paired.mapP {α β : Type} {F G : α → β → Prop} : ∀ {l₁ : List α} {l₂ : List β}, Paired F l₁ l₂ → (∀ a b, F a b → G a b) → Paired G l₁ l₂
  | _, _, .nil, _ => .nil
  | _, _, .cons r t, f => .cons (f _ _ r) (Paired.mapP t f)
/-- what an object's description leans on: its own object, its own dict, the tuples -/
theorem ObjOk.stay (x : ObjOk P w H h a o) (k : ∀ b u, (b = a ∨ H b = some (.own a)) → h.get? b = some u → h'.get? b = some u)
    (ho : ∀ b, H b = some (.own a) → H' b = some (.own a)) (ht : ∀ b xs, H b = some (.tup xs) → H' b = some (.tup xs)) : ObjOk P w H' h' a o := by
  induction o with
  | lst xs => obtain ⟨z, its, n, r, e⟩ := x; exact ⟨z, its, n, r, k _ _ (.inl rfl) e⟩
  | tup xs => obtain ⟨z, its, r, ob, e, c⟩ := x; exact ⟨z, its, r, ob, k _ _ (.inl rfl) e, c⟩
  | dK kvs => obtain ⟨z, y, vs, r, ob, es, ep, e, c⟩ := x; exact ⟨z, y, vs, r, ob, es, ep, k _ _ (.inl rfl) e, c⟩
  | dT kvs =>
    obtain ⟨z, y, xs, r, ob, es, ep, e, c⟩ := x
    exact ⟨z, y, xs, Paired.mapP r fun p q z => ⟨z.1, ht _ _ z.2.1, z.2.2⟩, ob, es, ep, k _ _ (.inl rfl) e, c⟩
  | set S n => obtain ⟨ob, es, ep, t, e, c⟩ := x; exact ⟨ob, es, ep, t, k _ _ (.inl rfl) e, c⟩
  | ins C dx fs =>
    obtain ⟨d, z, ne, e, mA, ⟨od, es, ep, e2, c⟩, r⟩ := x
    exact ⟨ho _ d, z, ne, k _ _ (.inl rfl) e, mA, ⟨od, es, ep, k _ _ (.inr d) e2, c⟩, r⟩
  | own y => obtain ⟨ob, e⟩ := x; exact ⟨ob, k _ _ (.inl rfl) e⟩
  | xd fs => obtain ⟨mA, ⟨od, es, ep, e, c⟩, r⟩ := x; exact ⟨mA, ⟨od, es, ep, k _ _ (.inl rfl) e, c⟩, r⟩
  | rng lo hi => obtain ⟨t, u, v, e⟩ := x; exact ⟨t, u, v, k _ _ (.inl rfl) e⟩
  | frz ob u ih => obtain ⟨e, q⟩ := x; exact ⟨k _ _ (.inl rfl) e, ih q⟩
  | tbl ps =>
    have e : h.get? a = some { cls := .none, data := .fields ps } := x
    show h'.get? a = some { cls := .none, data := .fields ps }
    exact k a _ (.inl rfl) e
  | met f y =>
    have e : h.get? a = some (PySem.W.methodObj (.ref f) (.ref y)) := x
    show h'.get? a = some (PySem.W.methodObj (.ref f) (.ref y))
    exact k a _ (.inl rfl) e
  | ext φ => obtain ⟨p, ⟨o, e⟩, st⟩ := x; exact ⟨st _ _ p fun o q => k _ _ (.inl rfl) q, ⟨o, k _ _ (.inl rfl) e⟩, st⟩
theorem HOk.lt (x : HOk P w H h) (e : H a = some o) : a < h.objs.size := (x a o e).lt
theorem HOk.fresh (x : HOk P w H h) (e : h.objs.size ≤ a) : H a = none := by
  cases q : H a with
  | none => rfl
  | some u => exact absurd (Nat.lt_of_lt_of_le (x.lt q) e) (Nat.lt_irrefl _)
/-- every object of the heap is kept -/
theorem HOk.kept (x : HOk P w H h) (k : ∀ b u, h.get? b = some u → h'.get? b = some u) : HOk P w H h' := fun a o e =>
  (x a o e).stay (fun b u _ q => k b u q) (fun _ q => q) fun _ _ q => q
/-- a new object is laid and tracked -/
theorem HOk.laid (x : HOk P w H h) (k : ∀ b u, h.get? b = some u → h'.get? b = some u) (hp : h.objs.size ≤ a) (new : ObjOk P w (upd H a o) h' a o) : HOk P w (upd H a o) h' := fun b u e => by
  have hn := x.fresh hp
  by_cases hb : b = a
  · subst hb; rw [upd_same] at e; cases e; exact new
  · rw [upd_ne hb] at e
    exact (x b u e).stay (fun c v _ q => k c v q) (fun c q => by rw [upd_ne (ne_of_none q hn)]; exact q) fun c xs q => by rw [upd_ne (ne_of_none q hn)]; exact q
end

/-- what may be read as u: it is u, or a known u -/
def Rd (H : Hp) (a : Addr) (u : HO) : Prop := H a = some u ∨ ∃ o, H a = some (.frz o u)
theorem Rd.of {H : Hp} {a : Addr} {u : HO} (h : H a = some u) : Rd H a u := .inl h
theorem Rd.ok {P : Program} {w : World} {H : Hp} {h : Heap} {a : Addr} {u : HO} (r : Rd H a u) (x : HOk P w H h) : ObjOk P w H h a u := by
  rcases r with r | ⟨o, r⟩
  · exact x a u r
  · obtain ⟨_, q⟩ := x a _ r
    exact q
/-- what may be written -/
def Mut : Option HO → Prop
  | some (.lst _) => True
  | some (.dK _) => True
  | some (.dT _) => True
  | some (.set _ _) => True
  | some (.ins _ _ _) => True
  | some (.ext _) => True
  | _ => False
section
variable {P : Program} {w : World} {H : Hp} {h h' : Heap} {x e : Addr} {o' : HO}
/-- the object at e is changed: x itself, or the dict of the instance x -/
theorem HOk.write (ok : HOk P w H h) (mu : Mut (H x)) (he : e = x ∨ H e = some (.own x)) (k : ∀ b u, b ≠ e → h.get? b = some u → h'.get? b = some u) (heo : ∃ u, h'.get? e = some u)
    (new : ObjOk P w (upd H x o') h' x o') : HOk P w (upd H x o') h' := fun b u q => by
  have nown : ∀ c y, H c = some (.own y) → c ≠ x := fun c y r z => by subst z; rw [r] at mu; exact mu
  have ntup : ∀ c xs, H c = some (.tup xs) → c ≠ x := fun c xs r z => by subst z; rw [r] at mu; exact mu
  by_cases hb : b = x
  · subst hb; rw [upd_same] at q; cases q; exact new
  · rw [upd_ne hb] at q
    by_cases hbe : b = e
    · have q' : H b = some (.own x) := by
        rcases he with z | z
        · exact absurd (hbe.trans z) hb
        · rw [hbe]; exact z
      rw [q] at q'; cases q'
      obtain ⟨v, hv⟩ := heo
      exact ⟨v, by rw [hbe]; exact hv⟩
    · refine (ok b u q).stay (fun c v hc r => k c v ?_ r) (fun c r => by rw [upd_ne (nown c b r)]; exact r) fun c xs r => by rw [upd_ne (ntup c xs r)]; exact r
      rcases hc with rfl | hc
      · exact hbe
      · rintro rfl
        rcases he with z | z
        · exact nown c b hc z
        · rw [hc] at z; cases z; exact hb rfl
end

/-! ### kept unless tracked; of the frames at fs (the callers') the slots may change (an exception that passes writes there); of the records at ex (iterators) nothing is said -/
structure Un (fs ex : List Addr) (H H' : Hp) (h h' : Heap) : Prop where
  keep : ∀ b o, h.get? b = some o → H b = none → b ∉ fs → b ∉ ex → h'.get? b = some o
  slot : ∀ b o, h.get? b = some o → H b = none → b ∈ fs → b ∉ ex → ∃ sl, h'.get? b = some { o with slots := sl }
  free : ∀ b o, h.get? b = some o → H b = none → b ∉ ex → H' b = none
  there : ∀ b o, h.get? b = some o → b ∉ ex → ∃ o', h'.get? b = some o'
  tups : ∀ b xs, H b = some (.tup xs) → H' b = some (.tup xs)
  frzs : ∀ b o u, H b = some (.frz o u) → H' b = some (.frz o u)
  tbls : ∀ b ps, H b = some (.tbl ps) → ∃ more, H' b = some (.tbl (ps ++ more))
section
variable {fs fs' ex ex' : List Addr} {H H1 H2 : Hp} {h h1 h2 h' : Heap} {a x e : Addr} {o : HO}
theorem Un.any (u : Un fs ex H H1 h h1) {b : Addr} {ob : Obj} (q : h.get? b = some ob) (n : H b = none) (hx : b ∉ ex) : ∃ sl, h1.get? b = some { ob with slots := sl } := by
  by_cases hb : b ∈ fs
  · exact u.slot b ob q n hb hx
  · exact ⟨ob.slots, u.keep b ob q n hb hx⟩
theorem Un.trans (a : Un fs ex H H1 h h1) (b : Un fs ex H1 H2 h1 h2) : Un fs ex H H2 h h2 where
  keep := fun c ob q n hc hx => b.keep c ob (a.keep c ob q n hc hx) (a.free c ob q n hx) hc hx
  slot := fun c ob q n hc hx => by
    obtain ⟨sl, e1⟩ := a.slot c ob q n hc hx
    obtain ⟨sl', e2⟩ := b.slot c _ e1 (a.free c ob q n hx) hc hx
    exact ⟨sl', e2⟩
  free := fun c ob q n hx => by
    obtain ⟨o', e1⟩ := a.there c ob q hx
    exact b.free c o' e1 (a.free c ob q n hx) hx
  there := fun c ob q hx => by
    obtain ⟨o', e1⟩ := a.there c ob q hx
    exact b.there c o' e1 hx
  tups := fun c xs q => b.tups c xs (a.tups c xs q)
  frzs := fun c ob xs q => b.frzs c ob xs (a.frzs c ob xs q)
  tbls := fun c ps q => by
    obtain ⟨m1, e1⟩ := a.tbls c ps q
    obtain ⟨m2, e2⟩ := b.tbls c _ e1
    exact ⟨m1 ++ m2, by rw [e2, Array.append_assoc]⟩
theorem Un.kept (k : ∀ b u, h.get? b = some u → h'.get? b = some u) : Un fs ex H H h h' :=
  ⟨fun b ob q _ _ _ => k b ob q, fun b ob q _ _ _ => ⟨ob.slots, k b ob q⟩, fun _ _ _ n _ => n, fun b ob q _ => ⟨ob, k b ob q⟩, fun _ _ q => q, fun _ _ _ q => q, fun _ ps q => ⟨#[], by rw [q]; simp⟩⟩
theorem Un.refl : Un fs ex H H h h := Un.kept fun _ _ q => q
theorem Un.laid (k : ∀ b u, h.get? b = some u → h'.get? b = some u) (hp : h.objs.size ≤ a) (hn : H a = none) : Un fs ex H (upd H a o) h h' where
  keep := fun b u q _ _ _ => k b u q
  slot := fun b u q _ _ _ => ⟨u.slots, k b u q⟩
  free := fun b u q n _ => by rw [upd_ne (Nat.ne_of_lt (Nat.lt_of_lt_of_le (Heap.lt_size q) hp))]; exact n
  there := fun b u q _ => ⟨u, k b u q⟩
  tups := fun b xs q => by rw [upd_ne (ne_of_none q hn)]; exact q
  frzs := fun b u xs q => by rw [upd_ne (ne_of_none q hn)]; exact q
  tbls := fun b ps q => ⟨#[], by rw [upd_ne (ne_of_none q hn), q]; simp⟩
theorem Un.write (mu : Mut (H x)) (he : e = x ∨ H e = some (.own x)) (k : ∀ b u, b ≠ e → h.get? b = some u → h'.get? b = some u) (heo : ∃ u, h'.get? e = some u) : Un fs ex H (upd H x o) h h' := by
  have hx : ∀ b, H b = none → b ≠ x := fun b n z => by subst z; rw [n] at mu; exact mu
  have hb : ∀ b, H b = none → b ≠ e := fun b n z => by
    subst z
    rcases he with r | r
    · exact hx b n r
    · rw [n] at r; cases r
  have hm : ∀ b u, H b = some u → ¬ Mut (some u) → b ≠ x := fun b u q nm z => by subst z; rw [q] at mu; exact nm mu
  refine ⟨fun b u q n _ _ => k b u (hb b n) q, fun b u q n _ _ => ⟨u.slots, k b u (hb b n) q⟩, fun b u q n _ => by rw [upd_ne (hx b n)]; exact n, fun b u q _ => ?_,
    fun b xs q => by rw [upd_ne (hm b _ q fun z => z)]; exact q, fun b u xs q => by rw [upd_ne (hm b _ q fun z => z)]; exact q, fun b ps q => ⟨#[], by rw [upd_ne (hm b _ q fun z => z), q]; simp⟩⟩
  by_cases hbe : b = e
  · subst hbe; exact heo
  · exact ⟨u, k b u hbe q⟩
theorem Un.mono (u : Un fs ex H H1 h h1) (hs : ∀ b ∈ fs, b ∈ fs') (hx : ∀ b ∈ ex, b ∈ ex') : Un fs' ex' H H1 h h1 :=
  ⟨fun b ob q n hb he => u.keep b ob q n (fun z => hb (hs b z)) fun z => he (hx b z), fun _ _ q n _ he => u.any q n fun z => he (hx _ z), fun b ob q n he => u.free b ob q n fun z => he (hx b z), fun b ob q he => u.there b ob q fun z => he (hx b z), u.tups, u.frzs, u.tbls⟩
end

/-! ### the heap without what is tracked -/
def trk (h : Heap) (H : Hp) : List Addr := (List.range h.objs.size).filter fun a => (H a).isSome
def hidT (h : Heap) (H : Hp) : Heap := PySem.W.hideAll h (trk h H)
theorem hidT_size (h : Heap) (H : Hp) : (hidT h H).objs.size = h.objs.size := PySem.W.hideAll_size _ _
theorem hidT_get {h : Heap} {H : Hp} {b : Addr} {o : Obj} (e : h.get? b = some o) (n : H b = none) : (hidT h H).get? b = some o :=
  PySem.W.hideAll_get _ e fun hm => by
    have q : (H b).isSome = true := (List.mem_filter.mp hm).2
    rw [n] at q; simp at q
theorem of_hidT {h : Heap} {H : Hp} {b : Addr} {o : Obj} (e : (hidT h H).get? b = some o) : h.get? b = some o ∧ H b = none := by
  have e' : h.get? b = some o := PySem.W.of_hideAll (trk h H) e
  refine ⟨e', ?_⟩
  cases q : H b with
  | none => rfl
  | some x =>
    have hm : b ∈ trk h H := List.mem_filter.mpr ⟨List.mem_range.mpr (Heap.lt_size e'), by simp [q]⟩
    have z : (hidT h H).get? b = none := PySem.W.hideAll_none (trk h H) hm
    rw [z] at e; cases e

/-! ### OpenK's ledger, filled with every new object but one -/
def allNews (g h : Heap) (L : Addr) : List (Addr × Obj) := (List.range h.objs.size).filterMap fun a => if a = L ∨ (g.get? a).isSome = true then none else (h.get? a).map fun o => (a, o)
def rest (g h : Heap) (L d : Addr) : List (Addr × Obj) := (allNews g h L).filter fun p => decide (p.1 ≠ d)
end L2

namespace L2
open PySem PySem.Spec PyProof.Rows

/-- the module's facts, over the base: the heap at the law's entry without what is tracked there -/
structure Mod (K : PySem.W.Frag) (mg : Str → Option Value) (base : Heap) : Prop where
  kin : K.In base
  glob : base.Ns mainGlobals mg
  blt : ∃ mb, base.Ns builtinsNs mb ∧ ∀ x : Str, x ≠ "__name__" → mb x = bootBuiltins x
  nolimit : base.NoLimit

/-- the context: a def's body (or a comprehension's block) running. base: fixed through the whole law; s₀, H₀: the entry; outer: the frames whose slots others may change (a def's callers); stack: all frames that run;
   ex: iterators that were made ahead of the entry and are walked here (a comprehension's); fn: the names whose cells were made at the entry (a def: all; a comprehension's block: its own); calm: not within an except suite; pn: pins that every state bears; xe: what is wanted of an exception that leaves the code -/
structure Cx where
  prog : Program
  w : World
  K : PySem.W.Frag
  mg : Str → Option Value
  base : Heap
  A : Around
  N : List Str
  s₀ : Shared
  H₀ : Hp
  env : Env
  outer : List Env
  stack : List Env
  ex : List Addr
  fn : Str → Bool
  calm : Bool
  pn : List (Addr × Obj)
  xe : Value → Shared → Prop
/-- the callers' frames -/
def frs (l : List Env) : List Addr := l.filterMap (·.frame)
abbrev Cx.fs (X : Cx) : List Addr := frs X.outer

def Vis (sc : Scope) (x : Str) : Prop := sc.names.lookup x = some .local ∨ sc.names.lookup x = some .cell ∨ sc.names.lookup x = some .free
def Loc (sc : Scope) (x : Str) : Prop := sc.names.lookup x = some .local ∨ sc.names.lookup x = some .cell
def Look (env : Env) (h : Heap) (m : Str → Option Value) (x : Str) (u : Value) : Prop :=
  (env.kindOf x = some .local ∧ m x = some u) ∨ ((env.kindOf x = some .cell ∨ env.kindOf x = some .free) ∧ ∃ c, env.cells.lookup x = some c ∧ h.IsCell c (some u))

structure Cx.Ok (X : Cx) : Prop where
  mod : Mod X.K X.mg X.base
  kind : X.env.scope.kind = .function
  glob : X.env.globals = mainGlobals
  blt : X.env.builtins = builtinsNs
  above : X.s₀.heap.objs.size ≤ X.env.locals
  inj : ∀ x y c, X.env.cells.lookup x = some c → X.env.cells.lookup y = some c → x = y
  has : ∀ x, (X.env.kindOf x = some .cell ∨ X.env.kindOf x = some .free) → ∃ c, X.env.cells.lookup x = some c
  cab : ∀ x c, X.fn x = true → X.env.cells.lookup x = some c → X.s₀.heap.objs.size ≤ c
  hd : X.calm = true → X.A.handled = none
  frames : X.A.frames = some X.stack
  stk : X.stack = X.outer ∨ (X.stack = X.env :: X.outer ∧ X.env.frame = some X.env.locals)
  exf : ∀ b ∈ X.ex, b ≠ X.env.locals ∧ ∀ x c, X.env.cells.lookup x = some c → c ≠ b
  bs : ∀ b o, X.base.get? b = some o → X.s₀.heap.get? b = some o ∧ X.H₀ b = none
  bsz : X.base.objs.size ≤ X.s₀.heap.objs.size
  noex : ∀ b o, X.base.get? b = some o → b ∉ X.ex
  exfs : ∀ b ∈ X.ex, b ∉ X.fs
  funs : X.s₀.heap.FunFrames X.base X.outer
  frf : ∀ b ∈ X.fs, X.H₀ b = none

structure Inv (X : Cx) (pins : List (Addr × Obj)) (σ : List (Option V)) (H : Hp) (s : Shared) : Prop where
  ok : X.Ok
  os : s.os = X.s₀.os
  bare : AllBare s.gens
  base : Un X.fs X.ex X.H₀ H X.s₀.heap s.heap
  loc : ∃ m, s.heap.Ns X.env.locals m ∧ ∀ (i : Nat) (x : Str) (v : V), X.N[i]? = some x → σ[i]? = some (some v) → Vis X.env.scope x → ∃ u, RelV v u ∧ Look X.env s.heap m x u
  cell : ∀ x c, X.env.cells.lookup x = some c → ∃ v, s.heap.IsCell c v
  free : H X.env.locals = none
  freeC : ∀ x c, X.env.cells.lookup x = some c → H c = none
  pin : ∀ p ∈ X.pn ++ pins, s.heap.get? p.1 = some p.2 ∧ H p.1 = none ∧ p.1 ≠ X.env.locals ∧ p.1 ∉ X.fs ∧ ∀ v, p.2.data ≠ .cell v
  hok : HOk X.prog X.w H s.heap
  len : σ.length = X.N.length

section
variable {X : Cx} {pins : List (Addr × Obj)} {σ : List (Option V)} {H H' : Hp} {s : Shared} {h' : Heap}

theorem Cx.Ok.nofr (ok : X.Ok) {b : Addr} {o : Obj} (e : X.base.get? b = some o) : b ∉ X.fs := fun hb => by
  have := (ok.funs.mem hb).1
  rw [e] at this; cases this
theorem Inv.bs (I : Inv X pins σ H s) : ∀ b o, X.base.get? b = some o → s.heap.get? b = some o ∧ H b = none := fun b o e =>
  ⟨I.base.keep b o (I.ok.bs b o e).1 (I.ok.bs b o e).2 (I.ok.nofr e) (I.ok.noex b o e), I.base.free b o (I.ok.bs b o e).1 (I.ok.bs b o e).2 (I.ok.noex b o e)⟩
theorem Inv.bk (I : Inv X pins σ H s) : ∀ b o, X.base.get? b = some o → s.heap.get? b = some o := fun b o e => (I.bs b o e).1
theorem Inv.mod (I : Inv X pins σ H s) : Mod X.K X.mg X.base := I.ok.mod
theorem Inv.kIn (I : Inv X pins σ H s) : X.K.In s.heap := I.ok.mod.kin.keeps I.bk
theorem Inv.nolimit (I : Inv X pins σ H s) : s.heap.NoLimit := I.ok.mod.nolimit.keeps I.bk
/-- the frame over the base: for OpenK's rules (K.In X.base is I.mod.kin) -/
theorem Inv.fr (I : Inv X pins σ H s) : ∃ m, Fr X.base X.env.locals s.heap m :=
  let ⟨m, hn, _⟩ := I.loc
  ⟨m, hn, I.bk, Nat.le_trans I.ok.bsz I.ok.above⟩
theorem Inv.lt (I : Inv X pins σ H s) : X.env.locals < s.heap.objs.size := let ⟨_, hn, _⟩ := I.loc; hn.lt
theorem Inv.sz (I : Inv X pins σ H s) : X.s₀.heap.objs.size ≤ s.heap.objs.size := Nat.le_trans I.ok.above (Nat.le_of_lt I.lt)
theorem Inv.nofs (I : Inv X pins σ H s) {a : Addr} (h : s.heap.objs.size ≤ a) : a ∉ X.fs := fun hb => by
  obtain ⟨_, o, ho, _⟩ := I.ok.funs.mem hb
  exact absurd (Nat.lt_of_lt_of_le (Heap.lt_size ho) (Nat.le_trans I.sz h)) (Nat.lt_irrefl _)
theorem Inv.cne (I : Inv X pins σ H s) : ∀ x c, X.env.cells.lookup x = some c → c ≠ X.env.locals := fun x c e z => by
  obtain ⟨v, o, ho, hd⟩ := I.cell x c e
  obtain ⟨m, ⟨o', es, ep, ho', hd', _⟩, _⟩ := I.loc
  rw [z, ho'] at ho; cases ho; rw [hd'] at hd; cases hd
theorem Inv.funs (I : Inv X pins σ H s) : s.heap.FunFrames X.base X.outer := by
  have all : ∀ (l : List Env), (∀ b ∈ frs l, b ∈ X.fs) → X.s₀.heap.FunFrames X.base l → s.heap.FunFrames X.base l := by
    intro l
    induction l with
    | nil => intro _ _; trivial
    | cons env r ih =>
      intro hs hl
      obtain ⟨hk, ⟨L, o, hf, hn, ho, hd⟩, hr⟩ := hl
      have hL : L ∈ X.fs := hs L (by unfold frs; rw [List.filterMap_cons, hf]; exact List.mem_cons_self)
      obtain ⟨sl, e⟩ := I.base.slot L o ho (I.ok.frf L hL) hL fun z => I.ok.exfs L z hL
      exact ⟨hk, ⟨L, _, hf, hn, e, hd⟩, ih (fun b hb => hs b (by unfold frs; rw [List.filterMap_cons, hf]; exact List.mem_cons_of_mem _ hb)) hr⟩
  exact all X.outer (fun _ hb => hb) I.ok.funs

/-- the frames that run, for a call -/
theorem Inv.stack (I : Inv X pins σ H s) : s.heap.FunFrames X.base X.stack := by
  rcases I.ok.stk with e | ⟨e, hf⟩
  · rw [e]; exact I.funs
  · rw [e]
    obtain ⟨m, hn, _⟩ := I.loc
    refine .cons (by rw [I.ok.kind]; decide) hf hn ?_ I.funs
    exact Heap.get?_none_of_le (Nat.le_trans I.ok.bsz I.ok.above)
theorem Inv.stkSub (I : Inv X pins σ H s) : ∀ b ∈ frs X.stack, b ∈ X.env.locals :: X.fs := fun b hb => by
  rcases I.ok.stk with e | ⟨e, hf⟩
  · rw [e] at hb; exact List.mem_cons_of_mem _ hb
  · rw [e] at hb
    unfold frs at hb
    rw [List.filterMap_cons, hf] at hb
    exact hb
theorem Inv.stkFree (I : Inv X pins σ H s) : ∀ b ∈ frs X.stack, H b = none := fun b hb => by
  rcases List.mem_cons.mp (I.stkSub b hb) with e | hb
  · rw [e]; exact I.free
  · obtain ⟨_, o, ho, _⟩ := I.ok.funs.mem hb
    exact I.base.free b o ho (I.ok.frf b hb) fun z => I.ok.exfs b z hb

/-- THE STEP: the untracked objects but the frame and the records at ch are kept (the callers' frames up to slots), the frame's map is kept, the new abstract heap is held -/
theorem Inv.step {g' : Array GenState} {t' : Nat} {d' : Drawn} {ch : List Addr} (I : Inv X pins σ H s)
    (hch : ∀ b ∈ ch, (b ∈ X.ex ∨ X.s₀.heap.objs.size ≤ b) ∧ b ≠ X.env.locals ∧ (∀ x c, X.env.cells.lookup x = some c → c ≠ b) ∧ ∀ p ∈ X.pn ++ pins, p.1 ≠ b)
    (keep : ∀ b o, b ≠ X.env.locals → b ∉ X.fs → b ∉ ch → s.heap.get? b = some o → H b = none → h'.get? b = some o)
    (slot : ∀ b o, b ≠ X.env.locals → b ∈ X.fs → b ∉ ch → s.heap.get? b = some o → H b = none → ∃ sl, h'.get? b = some { o with slots := sl }) (free : ∀ b o, b ∉ ch → s.heap.get? b = some o → H b = none → H' b = none)
    (there : ∀ b o, b ∉ ch → s.heap.get? b = some o → ∃ o', h'.get? b = some o')
    (tups : ∀ b xs, H b = some (.tup xs) → H' b = some (.tup xs)) (frzs : ∀ b o u, H b = some (.frz o u) → H' b = some (.frz o u)) (tbls : ∀ b ps, H b = some (.tbl ps) → ∃ more, H' b = some (.tbl (ps ++ more)))
    (ns : ∀ m, s.heap.Ns X.env.locals m → h'.Ns X.env.locals m) (hok : HOk X.prog X.w H' h') (hg : AllBare g') :
    Inv X pins σ H' { s with heap := h', gens := g', drawn := d', toks := t' } := by
  have neL : ∀ b o, X.s₀.heap.get? b = some o → b ≠ X.env.locals := fun b o e => Nat.ne_of_lt (Nat.lt_of_lt_of_le (Heap.lt_size e) I.ok.above)
  have neC : ∀ b o, X.s₀.heap.get? b = some o → b ∉ X.ex → b ∉ ch := fun b o e hx hb => by
    rcases (hch b hb).1 with z | z
    · exact hx z
    · exact absurd (Nat.lt_of_lt_of_le (Heap.lt_size e) z) (Nat.lt_irrefl _)
  have cellK : ∀ x c, X.env.cells.lookup x = some c → ∀ v, s.heap.IsCell c v → h'.IsCell c v := fun x c e v ⟨o, ho, hd⟩ => by
    have nch : c ∉ ch := fun z => (hch c z).2.2.1 x c e rfl
    by_cases hc : c ∈ X.fs
    · obtain ⟨sl, q⟩ := slot c o (I.cne x c e) hc nch ho (I.freeC x c e)
      exact ⟨_, q, hd⟩
    · exact ⟨o, keep c o (I.cne x c e) hc nch ho (I.freeC x c e), hd⟩
  refine ⟨I.ok, I.os, hg, ⟨fun b o e n hb hx => ?_, fun b o e n hb hx => ?_, fun b o e n hx => ?_, fun b o e hx => ?_, fun b xs e => tups b xs (I.base.tups b xs e), fun b o xs e => frzs b o xs (I.base.frzs b o xs e), fun b ps e => ?_⟩, ?_, fun x c e => ?_, ?_, fun x c e => ?_, fun p hp => ?_, hok, I.len⟩
  · exact keep b o (neL b o e) hb (neC b o e hx) (I.base.keep b o e n hb hx) (I.base.free b o e n hx)
  · obtain ⟨sl, e1⟩ := I.base.slot b o e n hb hx
    obtain ⟨sl', e2⟩ := slot b _ (neL b o e) hb (neC b o e hx) e1 (I.base.free b o e n hx)
    exact ⟨sl', e2⟩
  · obtain ⟨o', e1⟩ := I.base.there b o e hx
    exact free b o' (neC b o e hx) e1 (I.base.free b o e n hx)
  · obtain ⟨o', e1⟩ := I.base.there b o e hx
    exact there b o' (neC b o e hx) e1
  · obtain ⟨m1, e1⟩ := I.base.tbls b ps e
    obtain ⟨m2, e2⟩ := tbls b _ e1
    exact ⟨m1 ++ m2, by rw [e2, Array.append_assoc]⟩
  · obtain ⟨m, hn, hl⟩ := I.loc
    refine ⟨m, ns m hn, fun i x v e1 e2 e3 => ?_⟩
    obtain ⟨u, r, l⟩ := hl i x v e1 e2 e3
    refine ⟨u, r, ?_⟩
    rcases l with l | ⟨k, c, e, z⟩
    · exact .inl l
    · exact .inr ⟨k, c, e, cellK x c e _ z⟩
  · obtain ⟨v, z⟩ := I.cell x c e
    exact ⟨v, cellK x c e v z⟩
  · obtain ⟨m, ⟨o, _, _, ho, _⟩, _⟩ := I.loc
    exact free _ o (fun z => (hch _ z).2.1 rfl) ho I.free
  · obtain ⟨v, o, ho, hd⟩ := I.cell x c e
    exact free c o (fun z => (hch c z).2.2.1 x c e rfl) ho (I.freeC x c e)
  · obtain ⟨e, n, ne, nf, d⟩ := I.pin p hp
    have nch : p.1 ∉ ch := fun z => (hch p.1 z).2.2.2 p hp rfl
    exact ⟨keep p.1 p.2 ne nf nch e n, free p.1 p.2 nch e n, ne, nf, d⟩
/-- .. where the frame's own object is kept too -/
theorem Inv.un {t' : Nat} (I : Inv X pins σ H s) (u : Un X.fs [] H H' s.heap h') (hok : HOk X.prog X.w H' h') : Inv X pins σ H' { s with heap := h', toks := t' } := by
  obtain ⟨m, ⟨o, es, ep, ho, r⟩, _⟩ := id I.loc
  obtain ⟨sl, hL⟩ := u.any ho I.free (by simp)
  exact I.step (g' := s.gens) (d' := s.drawn) (ch := []) (fun _ z => nomatch z) (fun b o _ hb _ e n => u.keep b o e n hb (by simp)) (fun b o _ hb _ e n => u.slot b o e n hb (by simp)) (fun b o _ e n => u.free b o e n (by simp)) (fun b o _ e => u.there b o e (by simp)) u.tups u.frzs u.tbls (fun m' hm => by
    obtain ⟨o', es', ep', ho', r'⟩ := hm
    rw [ho] at ho'; cases ho'
    exact ⟨_, es', ep', hL, r'⟩) hok I.bare
/-- behind a call (or a comprehension's block): the slots of this frame may have changed too, the records at ch may have turned -/
theorem Inv.call {g' : Array GenState} {t' : Nat} {d' : Drawn} {ch : List Addr} (I : Inv X pins σ H s) (u : Un (frs X.stack) ch H H' s.heap h') (hok : HOk X.prog X.w H' h') (hg : AllBare g')
    (hch : ∀ b ∈ ch, (b ∈ X.ex ∨ X.s₀.heap.objs.size ≤ b) ∧ b ≠ X.env.locals ∧ (∀ x c, X.env.cells.lookup x = some c → c ≠ b) ∧ ∀ p ∈ X.pn ++ pins, p.1 ≠ b) :
    Inv X pins σ H' { s with heap := h', gens := g', drawn := d', toks := t' } := by
  obtain ⟨m, ⟨o, es, ep, ho, r⟩, _⟩ := id I.loc
  obtain ⟨sl, hL⟩ := u.any ho I.free fun z => (hch _ z).2.1 rfl
  exact I.step (ch := ch) hch (fun b o hL hb hc e n => u.keep b o e n (fun z => (List.mem_cons.mp (I.stkSub b z)).elim hL hb) hc) (fun b o _ _ hc e n => u.any e n hc) (fun b o hc e n => u.free b o e n hc) (fun b o hc e => u.there b o e hc) u.tups u.frzs u.tbls (fun m' hm => by
    obtain ⟨o', es', ep', ho', r'⟩ := hm
    rw [ho] at ho'; cases ho'
    exact ⟨_, es', ep', hL, r'⟩) hok hg
/-- an untracked record of ours (an iterator) has turned -/
theorem Inv.turned {t' : Nat} {it : Addr} (I : Inv X pins σ H s) (k : ∀ b o, b ≠ it → s.heap.get? b = some o → h'.get? b = some o) (hn : H it = none) (hL : it ≠ X.env.locals)
    (h1 : it ∈ X.ex ∨ X.s₀.heap.objs.size ≤ it) (h2 : ∀ x c, X.env.cells.lookup x = some c → c ≠ it) (h3 : ∀ p ∈ X.pn ++ pins, p.1 ≠ it) : Inv X pins σ H { s with heap := h', toks := t' } := by
  have nit : ∀ b u, H b = some u → b ≠ it := fun b u e z => by rw [z, hn] at e; cases e
  refine I.step (g' := s.gens) (d' := s.drawn) (ch := [it]) (fun b hb => ?_) (fun b o _ _ hc e _ => k b o (fun z => hc (by simp [z])) e) (fun b o _ _ hc e _ => ⟨o.slots, k b o (fun z => hc (by simp [z])) e⟩) (fun _ _ _ _ n => n)
    (fun b o hc e => ⟨o, k b o (fun z => hc (by simp [z])) e⟩) (fun _ _ e => e) (fun _ _ _ e => e) (fun b ps e => ⟨#[], by rw [e]; simp⟩) (fun m hm => ?_) (fun b u e => ?_) I.bare
  · have e : b = it := by simpa using hb
    subst e
    exact ⟨h1, hL, h2, h3⟩
  · obtain ⟨o, es, ep, ho, r⟩ := hm
    exact ⟨o, es, ep, k _ o (Ne.symm hL) ho, r⟩
  · refine (I.hok b u e).stay (fun c v hc q => k c v ?_ q) (fun _ q => q) fun _ _ q => q
    rcases hc with z | z
    · rw [z]; exact nit b u e
    · exact nit c _ z
theorem Inv.tok (I : Inv X pins σ H s) (t : Nat) : Inv X pins σ H { s with toks := t } := I.un (h' := s.heap) (t' := t) Un.refl I.hok
/-- all objects kept -/
theorem Inv.kept {t' : Nat} (I : Inv X pins σ H s) (k : ∀ b u, s.heap.get? b = some u → h'.get? b = some u) : Inv X pins σ H { s with heap := h', toks := t' } := I.un (Un.kept k) (I.hok.kept k)
/-- a new object laid and tracked -/
theorem Inv.laid {a : Addr} {o : HO} {t' : Nat} (I : Inv X pins σ H s) (k : ∀ b u, s.heap.get? b = some u → h'.get? b = some u) (hp : s.heap.objs.size ≤ a) (new : ObjOk X.prog X.w (upd H a o) h' a o) :
    Inv X pins σ (upd H a o) { s with heap := h', toks := t' } := I.un (Un.laid k hp (I.hok.fresh hp)) (I.hok.laid k hp new)
/-- an object written -/
theorem Inv.write {x e : Addr} {o : HO} {t' : Nat} (I : Inv X pins σ H s) (mu : Mut (H x)) (he : e = x ∨ H e = some (.own x)) (k : ∀ b u, b ≠ e → s.heap.get? b = some u → h'.get? b = some u) (heo : ∃ u, h'.get? e = some u)
    (new : ObjOk X.prog X.w (upd H x o) h' x o) : Inv X pins σ (upd H x o) { s with heap := h', toks := t' } := I.un (Un.write mu he k heo) (I.hok.write mu he k heo new)
theorem Inv.pins_of {pins' : List (Addr × Obj)} (I : Inv X pins σ H s) (h : ∀ p ∈ pins', s.heap.get? p.1 = some p.2 ∧ H p.1 = none ∧ p.1 ≠ X.env.locals ∧ p.1 ∉ X.fs ∧ ∀ v, p.2.data ≠ .cell v) : Inv X pins' σ H s :=
  ⟨I.ok, I.os, I.bare, I.base, I.loc, I.cell, I.free, I.freeC, fun p hp => (List.mem_append.mp hp).elim (fun z => I.pin p (List.mem_append_left _ z)) (h p), I.hok, I.len⟩

theorem nodup_ix {N : List Str} (hN : N.Nodup) {i j : Nat} {x : Str} (a : N[i]? = some x) (b : N[j]? = some x) : i = j := by
  obtain ⟨h1, e1⟩ := List.getElem?_eq_some_iff.mp a
  obtain ⟨h2, e2⟩ := List.getElem?_eq_some_iff.mp b
  exact (List.getElem_inj hN).mp (e1.trans e2.symm)

/-- a name is stored; what changed -/
theorem store_ok2 {M : Model} {A : Around} {E : Value → Shared → Prop} {i : Nat} {x : Str} {v : V} {u : Value} {Q : Unit → Shared → Prop} (I : Inv X pins σ H s) (hN : X.N.Nodup) (hi : X.N[i]? = some x) (hx : Loc X.env.scope x) (r : RelV v u)
    (h : ∀ s', Inv X pins (σ.set i (some v)) H s' → (∃ a, Heap.SameBut a s.heap s'.heap ∧ (a = X.env.locals ∨ X.env.cells.lookup x = some a)) → Q () s') (hf : X.fn x = true ∨ X.env.scope.names.lookup x = some .local := by first | exact .inl rfl | exact .inr rfl | assumption) : wpAny M A (storeName X.env x u) Q E s := by
  obtain ⟨m, hn, hl⟩ := id I.loc
  have hcls : (X.env.scope.kind == .class || (X.env.scope.kind == .module && X.env.locals != X.env.globals)) = false := by rw [I.ok.kind]; rfl
  have hiσ : i < σ.length := by rw [I.len]; exact (List.getElem?_eq_some_iff.mp hi).1
  have cne := I.cne
  have tracked : ∀ {a : Addr} {h' : Heap}, (∃ o, s.heap.get? a = some o ∧ H a = none) → Heap.SameBut a s.heap h' → HOk X.prog X.w H h' := fun {a h'} ha hs b ob e => by
    obtain ⟨_, _, hfree⟩ := ha
    refine (I.hok b ob e).stay (fun c w' hc q => (hs.2 c ?_).trans q) (fun _ q => q) fun _ _ q => q
    rintro rfl
    rcases hc with rfl | hc
    · rw [hfree] at e; cases e
    · rw [hfree] at hc; cases hc
  rcases hx with hk | hk
  · refine wpAny_storeName_local hk hn (fun h' hn' hs => ?_) hcls
    obtain ⟨oL, _, _, hoL, _⟩ := id hn
    refine h _ ⟨I.ok, I.os, I.bare, ⟨fun b o e n hb hx => ?_, fun b o e n hb hx => ?_, I.base.free, fun b o e hx => ?_, I.base.tups, I.base.frzs, I.base.tbls⟩, ⟨_, hn', fun j y v' e1 e2 e3 => ?_⟩, fun y c e => ?_, I.free, I.freeC, fun p hp => ?_, tracked ⟨oL, hoL, I.free⟩ hs, by simpa using I.len⟩ ⟨_, hs, .inl rfl⟩
    · exact (hs.2 b (Nat.ne_of_lt (Nat.lt_of_lt_of_le (Heap.lt_size e) I.ok.above))).trans (I.base.keep b o e n hb hx)
    · obtain ⟨sl, e1⟩ := I.base.slot b o e n hb hx
      exact ⟨sl, (hs.2 b (Nat.ne_of_lt (Nat.lt_of_lt_of_le (Heap.lt_size e) I.ok.above))).trans e1⟩
    · obtain ⟨o', e1⟩ := I.base.there b o e hx
      exact ⟨o', (hs.2 b (Nat.ne_of_lt (Nat.lt_of_lt_of_le (Heap.lt_size e) I.ok.above))).trans e1⟩
    · by_cases hj : j = i
      · subst hj
        rw [hi] at e1; cases e1
        rw [List.getElem?_set_self hiσ] at e2
        cases e2
        exact ⟨u, r, .inl ⟨hk, by simp⟩⟩
      · rw [List.getElem?_set_ne (Ne.symm hj)] at e2
        obtain ⟨u', r', q⟩ := hl j y v' e1 e2 e3
        refine ⟨u', r', ?_⟩
        rcases q with ⟨k, e⟩ | ⟨k, c, e, z⟩
        · refine .inl ⟨k, ?_⟩
          have : y ≠ x := fun e => hj (nodup_ix hN e1 (e ▸ hi))
          simp [this, e]
        · exact .inr ⟨k, c, e, z.sameBut hs (cne y c e)⟩
    · obtain ⟨w', z⟩ := I.cell y c e
      exact ⟨w', z.sameBut hs (cne y c e)⟩
    · obtain ⟨e, n, ne, nf, d⟩ := I.pin p hp
      exact ⟨(hs.2 p.1 ne).trans e, n, ne, nf, d⟩
  · have hfn : X.fn x = true := by
      rcases hf with z | z
      · exact z
      · rw [z] at hk; cases hk
    obtain ⟨c, hc⟩ := I.ok.has x (.inl hk)
    obtain ⟨w', z⟩ := I.cell x c hc
    refine wpAny_storeName_cell I.ok.kind hk hc z (fun h' hc' hs => ?_)
    obtain ⟨oc, hoc, hocd⟩ := id z
    refine h { s with heap := h' } ⟨I.ok, I.os, I.bare, ⟨fun b o e n hb hx => ?_, fun b o e n hb hx => ?_, I.base.free, fun b o e hx => ?_, I.base.tups, I.base.frzs, I.base.tbls⟩, ⟨m, hn.sameBut hs (Ne.symm (cne x c hc)), fun j y v' e1 e2 e3 => ?_⟩, fun y c' e => ?_, I.free, I.freeC, fun p hp => ?_, tracked ⟨oc, hoc, I.freeC x c hc⟩ hs, by simpa using I.len⟩ ⟨c, hs, .inr hc⟩
    · exact (hs.2 b (Nat.ne_of_lt (Nat.lt_of_lt_of_le (Heap.lt_size e) (I.ok.cab x c hfn hc)))).trans (I.base.keep b o e n hb hx)
    · obtain ⟨sl, e1⟩ := I.base.slot b o e n hb hx
      exact ⟨sl, (hs.2 b (Nat.ne_of_lt (Nat.lt_of_lt_of_le (Heap.lt_size e) (I.ok.cab x c hfn hc)))).trans e1⟩
    · obtain ⟨o', e1⟩ := I.base.there b o e hx
      exact ⟨o', (hs.2 b (Nat.ne_of_lt (Nat.lt_of_lt_of_le (Heap.lt_size e) (I.ok.cab x c hfn hc)))).trans e1⟩
    · by_cases hj : j = i
      · subst hj
        rw [hi] at e1; cases e1
        rw [List.getElem?_set_self hiσ] at e2
        cases e2
        exact ⟨u, r, .inr ⟨.inl hk, c, hc, hc'⟩⟩
      · rw [List.getElem?_set_ne (Ne.symm hj)] at e2
        obtain ⟨u', r', q⟩ := hl j y v' e1 e2 e3
        refine ⟨u', r', ?_⟩
        rcases q with q | ⟨k, c', e, z'⟩
        · exact .inl q
        · refine .inr ⟨k, c', e, z'.sameBut hs ?_⟩
          rintro rfl
          exact hj (nodup_ix hN e1 (I.ok.inj _ _ _ e hc ▸ hi))
    · by_cases hcc : c' = c
      · subst hcc; exact ⟨_, hc'⟩
      · obtain ⟨w2, z2⟩ := I.cell y c' e
        exact ⟨w2, z2.sameBut hs hcc⟩
    · obtain ⟨e, n, ne, nf, d⟩ := I.pin p hp
      refine ⟨(hs.2 p.1 ?_).trans e, n, ne, nf, d⟩
      intro q
      rw [q, hoc] at e
      have q' : oc = p.2 := Option.some.inj e
      exact d w' (by rw [← q']; exact hocd)
theorem store_ok {M : Model} {A : Around} {E : Value → Shared → Prop} {i : Nat} {x : Str} {v : V} {u : Value} {Q : Unit → Shared → Prop} (I : Inv X pins σ H s) (hN : X.N.Nodup) (hi : X.N[i]? = some x) (hx : Loc X.env.scope x) (r : RelV v u)
    (h : ∀ s', Inv X pins (σ.set i (some v)) H s' → Q () s') (hf : X.fn x = true ∨ X.env.scope.names.lookup x = some .local := by first | exact .inl rfl | exact .inr rfl | assumption) : wpAny M A (storeName X.env x u) Q E s :=
  store_ok2 I hN hi hx r (fun s' I' _ => h s' I') hf
/-- behind a call or a block, the state as it is -/
theorem Inv.call' {s' : Shared} {ch : List Addr} (I : Inv X pins σ H s) (ho : s'.os = s.os) (u : Un (frs X.stack) ch H H' s.heap s'.heap) (hok : HOk X.prog X.w H' s'.heap) (hg : AllBare s'.gens)
    (hch : ∀ b ∈ ch, (b ∈ X.ex ∨ X.s₀.heap.objs.size ≤ b) ∧ b ≠ X.env.locals ∧ (∀ x c, X.env.cells.lookup x = some c → c ≠ b) ∧ ∀ p ∈ X.pn ++ pins, p.1 ≠ b) : Inv X pins σ H' s' := by
  obtain ⟨h', g', d', t', o'⟩ := s'
  have e : o' = s.os := ho
  subst e
  exact I.call (g' := g') (t' := t') (d' := d') u hok hg hch
end

/-! ### the judgements -/
/-- an exception: its class, its own dict's address (where it has one), the abstract heap behind it -/
abbrev XK := Value → Option Addr → Hp → Prop
abbrev St := List (Option V)
abbrev VK := V → Hp → Prop
/-- an expression's reading; a test's; an argument list's -/
abbrev TE := St → Hp → VK → Prop
abbrev TT := St → Hp → (Bool → Hp → Prop) → Prop
abbrev TA := St → Hp → (List V → Hp → Prop) → Prop
/-- what is wanted behind a statement -/
structure Ends where
  nx : St → Hp → Prop
  rt : VK
  bk : St → Hp → Prop := fun _ _ => False
  ct : St → Hp → Prop := fun _ _ => False
abbrev TS := Ends → St → Hp → Prop

inductive EPI (X : Cx) (pins : List (Addr × Obj)) (σ : St) (Q : VK) (u : Value) (s' : Shared) : Prop where
  | mk (v : _) (H' : _) (c1 : Inv X pins σ H' s') (c2 : RelV v u) (c3 : Q v H')
def EP (X : Cx) (pins : List (Addr × Obj)) (σ : St) (Q : VK) (u : Value) (s' : Shared) : Prop := EPI X pins σ Q u s'
def TP (X : Cx) (pins : List (Addr × Obj)) (σ : St) (Q : Bool → Hp → Prop) (b : Bool) (s' : Shared) : Prop := ∃ H', Inv X pins σ H' s' ∧ Q b H'
inductive API (X : Cx) (pins : List (Addr × Obj)) (σ : St) (Q : List V → Hp → Prop) (us : List Value) (s' : Shared) : Prop where
  | mk (vs : _) (H' : _) (c1 : Inv X pins σ H' s') (c2 : Vals vs us) (c3 : Q vs H')
def AP (X : Cx) (pins : List (Addr × Obj)) (σ : St) (Q : List V → Hp → Prop) (us : List Value) (s' : Shared) : Prop := API X pins σ Q us s'
def SP (X : Cx) (pins : List (Addr × Obj)) (D : Ends) (f : Flow) (s' : Shared) : Prop :=
  match f with
  | .next => ∃ σ' H', Inv X pins σ' H' s' ∧ D.nx σ' H'
  | .brk => ∃ σ' H', Inv X pins σ' H' s' ∧ D.bk σ' H'
  | .cont => ∃ σ' H', Inv X pins σ' H' s' ∧ D.ct σ' H'
  | .ret u => ∃ v σ' H', Inv X pins σ' H' s' ∧ RelV v u ∧ D.rt v H'

def PE (X : Cx) (e : Expr) (t : TE) : Prop :=
  ∀ (pins : List (Addr × Obj)) (s : Shared) (σ : St) (H : Hp) (Q : VK), Inv X pins σ H s → t σ H Q → wpAny (model X.prog X.w) X.A (eval e X.env) (EP X pins σ Q) X.xe s
def PT (X : Cx) (e : Expr) (t : TT) : Prop :=
  ∀ (pins : List (Addr × Obj)) (s : Shared) (σ : St) (H : Hp) (Q : Bool → Hp → Prop), Inv X pins σ H s → t σ H Q → wpAny (model X.prog X.w) X.A (isTrue e X.env (eval e X.env)) (TP X pins σ Q) X.xe s
/-- a test whatever its 'whole' is (and, or) -/
def PW (X : Cx) (e : Expr) (t : TT) : Prop :=
  ∀ (whole : Sem Value) (pins : List (Addr × Obj)) (s : Shared) (σ : St) (H : Hp) (Q : Bool → Hp → Prop), Inv X pins σ H s → t σ H Q → wpAny (model X.prog X.w) X.A (isTrue e X.env whole) (TP X pins σ Q) X.xe s
theorem PW.pt {X : Cx} {e : Expr} {t : TT} (h : PW X e t) : PT X e t := h _
/-- an argument list (no star), from the left -/
def PA (X : Cx) (es : List Expr) (t : TA) : Prop :=
  ∀ (pos : Pos) (pins : List (Addr × Obj)) (s : Shared) (σ : St) (H : Hp) (Q : List V → Hp → Prop), Inv X pins σ H s → t σ H Q → wpAny (model X.prog X.w) X.A (spliced (backTo pos (starEach es X.env))) (AP X pins σ Q) X.xe s
def PS (X : Cx) (st : Stmt) (t : TS) : Prop :=
  ∀ (pins : List (Addr × Obj)) (s : Shared) (σ : St) (H : Hp) (D : Ends), Inv X pins σ H s → t D σ H → wpAny (model X.prog X.w) X.A (exec st X.env) (SP X pins D) X.xe s
def PSs (X : Cx) (st : List Stmt) (t : TS) : Prop :=
  ∀ (pins : List (Addr × Obj)) (s : Shared) (σ : St) (H : Hp) (D : Ends), Inv X pins σ H s → t D σ H → wpAny (model X.prog X.w) X.A (execs st X.env) (SP X pins D) X.xe s
/-- weaken the end -/
theorem thn {α : Type} {t : Sem α} {Q Q' : α → Shared → Prop} {M : Model} {A : Around} {E : Value → Shared → Prop} {s : Shared} (h : wpAny M A t Q E s) (hQ : ∀ a s, Q a s → Q' a s) : wpAny M A t Q' E s := wpAny_mono h hQ fun _ _ x => x
end L2

namespace L2
open PySem PySem.Spec PyProof.Rows
section
variable {X : Cx}

/-- two expressions in a row -/
theorem bin {a b : Expr} {ta tb : TE} (ha : PE X a ta) (hb : PE X b tb) {pins : List (Addr × Obj)} {s : Shared} {σ : St} {H : Hp} {R : V → V → Hp → Prop} (I : Inv X pins σ H s) (h : ta σ H fun x H1 => tb σ H1 fun y H2 => R x y H2)
    {α : Type} {Q : α → Shared → Prop} {f : Value → Value → Sem α}
    (hf : ∀ v u s2 x y H2, Inv X pins σ H2 s2 → RelV x v → RelV y u → R x y H2 → wpAny (model X.prog X.w) X.A (f v u) Q X.xe s2) :
    wpAny (model X.prog X.w) X.A (eval a X.env) (fun v s₁ => wpAny (model X.prog X.w) X.A (eval b X.env) (fun u s₂ => wpAny (model X.prog X.w) X.A (f v u) Q X.xe s₂) X.xe s₁) X.xe s := by
  refine thn (ha pins s σ H _ I h) fun v s1 ⟨x, H1, I1, r1, q1⟩ => ?_
  refine thn (hb pins s1 σ H1 _ I1 q1) fun u s2 ⟨y, H2, I2, r2, q2⟩ => ?_
  exact hf v u s2 x y H2 I2 r1 r2 q2

/-! ### names and constants -/
inductive TVarI (i : Nat) (σ : L2.St) (H : Hp) (Q : VK) : Prop where
  | mk (v : _) (c1 : σ[i]? = some (some v)) (c2 : Q v H)
def tVar (i : Nat) : TE := fun σ H Q => TVarI i σ H Q
def tC (v : V) : TE := fun _ H Q => Q v H
theorem pe_var {i : Nat} {x : Str} {pos : Pos} (hN : X.N[i]? = some x) (hv : Vis X.env.scope x) (hd : (x == ("__debug__" : Str)) = false := by decide) (hcd : (x == ("__classdict__" : Str)) = false := by decide) : PE X (.Name x pos) (tVar i) := by
  intro pins s σ H Q I h
  obtain ⟨v, e, h⟩ := h
  obtain ⟨m, hn, hl⟩ := I.loc
  obtain ⟨u, r, l⟩ := hl i x v hN e hv
  have fin : EP X pins σ Q u s := ⟨v, H, I, r, h⟩
  rcases l with ⟨hk, hm⟩ | ⟨hk, c, hc, hcell⟩
  · exact wpAny_Name (wpAny_loadName_local I.ok.kind hk hn hm fin) hd
  · rcases hk with hk | hk
    · exact wpAny_Name (wpAny_loadName_cell I.ok.kind hk hc hcell fin) hd
    · exact wpAny_Name (wpAny_loadName_free I.ok.kind hk hc hcell fin hcd) hd
theorem pe_int {i j pos} : PE X (.Constant (.int i) j pos) (tC (.int i)) := fun _ _ _ H _ I h => wpAny_Constant_int ⟨.int i, H, I.tok _, ⟨_, rfl⟩, h⟩
theorem pe_bl {b j pos} : PE X (.Constant (.bool b) j pos) (tC (.bl b)) := fun _ _ _ H _ I h => Constant_bool ⟨.bl b, H, I, rfl, h⟩
theorem pe_non {j pos} : PE X (.Constant .none j pos) (tC .non) := fun _ _ _ H _ I h => Constant_none ⟨.non, H, I, rfl, h⟩
theorem pe_str {x j pos} : PE X (.Constant (.str x) j pos) (tC (.str x)) := fun _ _ _ H _ I h => Calls.Constant_str ⟨.str x, H, I.tok _, ⟨_, rfl⟩, h⟩

/-- a global name of the def -/
def Gl (X : Cx) (x : Str) : Prop := X.env.kindOf x = some .globalImplicit
theorem ld_glob {E : Value → Shared → Prop} {pins : List (Addr × Obj)} {s : Shared} {σ : St} {H : Hp} {x : Str} {u : Value} {pos : Pos} {Q : Value → Shared → Prop} (I : Inv X pins σ H s) (hg : Gl X x) (hm : X.mg x = some u) (h : Q u s)
    (hd : (x == ("__debug__" : Str)) = false := by decide) : wpAny (model X.prog X.w) X.A (eval (.Name x pos) X.env) Q E s :=
  Calls.Name_function_global I.ok.kind hg (Calls.loadGlobal_global (by rw [I.ok.glob]; exact I.mod.glob.keeps I.bk) hm h) hd
theorem ld_blt {E : Value → Shared → Prop} {pins : List (Addr × Obj)} {s : Shared} {σ : St} {H : Hp} {x : Str} {u : Value} {pos : Pos} {Q : Value → Shared → Prop} (I : Inv X pins σ H s) (hg : Gl X x) (hm : X.mg x = none) (hv : bootBuiltins x = some u) (h : Q u s)
    (hn : x ≠ "__name__" := by decide) (hd : (x == ("__debug__" : Str)) = false := by decide) : wpAny (model X.prog X.w) X.A (eval (.Name x pos) X.env) Q E s := by
  obtain ⟨mb, h1, h2⟩ := I.mod.blt
  exact Calls.Name_function_global I.ok.kind hg (Calls.loadGlobal_builtin (by rw [I.ok.glob]; exact I.mod.glob.keeps I.bk) hm (by rw [I.ok.blt]; exact h1.keeps I.bk) ((h2 x hn).trans hv) h) hd
/-- a module's constant, a class, a function, as a value -/
theorem pe_glob {x : Str} {v : V} {u : Value} {pos : Pos} (hg : Gl X x) (hm : X.mg x = some u) (r : RelV v u) (hd : (x == ("__debug__" : Str)) = false := by decide) : PE X (.Name x pos) (tC v) :=
  fun _ _ _ H _ I h => ld_glob I hg hm ⟨v, H, I, r, h⟩ hd
theorem pe_bltn {x : Str} {v : V} {u : Value} {pos : Pos} (hg : Gl X x) (hm : X.mg x = none) (hv : bootBuiltins x = some u) (r : RelV v u) (hn : x ≠ "__name__" := by decide) (hd : (x == ("__debug__" : Str)) = false := by decide) : PE X (.Name x pos) (tC v) :=
  fun _ _ _ H _ I h => ld_blt I hg hm hv ⟨v, H, I, r, h⟩ hn hd

/-! ### arithmetic -/
variable {a b : Expr} {ta tb : TE} {pos : Pos}

/-! ### comparisons -/
def PC (X : Cx) (op : CmpOp) (a b : Expr) (t : TE) : Prop :=
  ∀ (pins : List (Addr × Obj)) (s : Shared) (σ : St) (H : Hp) (Q : VK), Inv X pins σ H s → t σ H Q →
    wpAny (model X.prog X.w) X.A (eval a X.env) (fun v s₁ => wpAny (model X.prog X.w) X.A (eval b X.env) (fun u s₂ => wpAny (model X.prog X.w) X.A (compareOp op v u) (EP X pins σ Q) X.xe s₂) X.xe s₁) X.xe s
theorem nobehind (b : Expr) {op : CmpOp} (h : op ≠ .In) (h2 : op ≠ .NotIn) : behindInMarks op b = false := by
  have e1 : (op == CmpOp.In) = false := by cases op <;> first | rfl | exact absurd rfl h
  have e2 : (op == CmpOp.NotIn) = false := by cases op <;> first | rfl | exact absurd rfl h2
  cases b <;> simp [behindInMarks, e1, e2]
/-- a comparison as a value, as a test -/
inductive TBI (x : V) (H1 : Hp) (Q : Bool → Hp → Prop) : Prop where
  | mk (c : _) (c1 : x = .bl c) (c2 : Q c H1)
def tB (t : TE) : TT := fun σ H Q => t σ H fun x H1 => TBI x H1 Q
theorem pt_cmp {op : CmpOp} {t : TE} (h : PC X op a b t) (h1 : behindInMarks op b = false := by first | exact nobehind _ (by decide) (by decide) | rfl) : PT X (.Compare a [op] [b] pos) (tB t) := by
  intro pins s σ H Q I hw
  refine wpAny_isTrue_Compare1 (thn (h pins s σ H _ I hw) fun v s1 h1 => thn h1 fun u s2 h2 => thn h2 fun c s3 ⟨x, H1, I1, r1, q1⟩ => ?_) h1
  obtain ⟨d, rfl, q⟩ := q1
  cases r1
  exact wpAny_truthy_bool ⟨H1, I1, q⟩
/-- an expression whose value is a bool, as a test -/
theorem pt_val {e : Expr} {t : TE} (h : PE X e t) (he : ∀ whole, isTrue e X.env whole = (do let v ← whole; standAt e.pos; holding [v] (truthy v)) := by intro _; rfl) : PT X e (tB t) := by
  intro pins s σ H Q I hw
  refine isTrue_plain (thn (h pins s σ H _ I hw) fun v s1 ⟨x, H1, I1, r1, q1⟩ => ?_) (he _)
  obtain ⟨d, rfl, q⟩ := q1
  cases r1
  exact wpAny_truthy_bool ⟨H1, I1, q⟩

/-! ### and, or, not -/
variable {tA tB' : TT} {rest : List Expr}
def tAnd (t u : TT) : TT := fun σ H Q => t σ H fun c H1 => if c = true then u σ H1 Q else Q false H1
def tOr (t u : TT) : TT := fun σ H Q => t σ H fun c H1 => if c = true then Q true H1 else u σ H1 Q
def tNot (t : TT) : TT := fun σ H Q => t σ H fun c H1 => Q (!c) H1
theorem pw_and1 (ha : PT X a tA) : PW X (.BoolOp .And [a] pos) tA := by
  intro wh pins s σ H Q I h
  refine isTrue_and (thn (ha pins s σ H Q I h) fun c s1 e => ?_)
  cases c with
  | true => exact isTrue_and_nil e
  | false => exact e
theorem pw_or1 (ha : PT X a tA) : PW X (.BoolOp .Or [a] pos) tA := by
  intro wh pins s σ H Q I h
  refine isTrue_or (thn (ha pins s σ H Q I h) fun c s1 e => ?_)
  cases c with
  | false => exact isTrue_or_nil e
  | true => exact e
theorem pw_and (ha : PT X a tA) (hb : PW X (.BoolOp .And (b :: rest) pos) tB') : PW X (.BoolOp .And (a :: b :: rest) pos) (tAnd tA tB') := by
  intro wh pins s σ H Q I h
  refine isTrue_and (thn (ha pins s σ H _ I h) fun c s1 ⟨H1, I1, q1⟩ => ?_)
  cases c with
  | true => exact hb wh pins s1 σ H1 Q I1 q1
  | false => exact ⟨H1, I1, q1⟩
theorem pw_or (ha : PT X a tA) (hb : PW X (.BoolOp .Or (b :: rest) pos) tB') : PW X (.BoolOp .Or (a :: b :: rest) pos) (tOr tA tB') := by
  intro wh pins s σ H Q I h
  refine isTrue_or (thn (ha pins s σ H _ I h) fun c s1 ⟨H1, I1, q1⟩ => ?_)
  cases c with
  | true => exact ⟨H1, I1, q1⟩
  | false => exact hb wh pins s1 σ H1 Q I1 q1
theorem pt_not (ha : PT X a tA) : PT X (.UnaryOp .Not a pos) (tNot tA) := by
  intro pins s σ H Q I h
  exact isTrue_not (ha pins s σ H (fun c H1 => Q (!c) H1) I h)
/-- .. as values (bools) -/
inductive TAndVI (tb : TE) (σ : L2.St) (x : V) (H1 : Hp) (Q : VK) : Prop where
  | mk (c : _) (c1 : x = .bl c) (c2 : if c = true then tb σ H1 Q else Q (.bl false) H1)
def tAndV (ta tb : TE) : TE := fun σ H Q => ta σ H fun x H1 => TAndVI tb σ x H1 Q
inductive TNotVI (x : V) (H1 : Hp) (Q : VK) : Prop where
  | mk (c : _) (c1 : x = .bl c) (c2 : Q (.bl (!c)) H1)
def tNotV (ta : TE) : TE := fun σ H Q => ta σ H fun x H1 => TNotVI x H1 Q
theorem pe_one {op} {t : TE} (h : PE X a t) : PE X (.BoolOp op [a] pos) t := fun pins s σ H Q I hw => BoolOp_one (h pins s σ H Q I hw)
theorem pe_and (ha : PE X a ta) (hb : PE X (.BoolOp .And (b :: rest) pos) tb) : PE X (.BoolOp .And (a :: b :: rest) pos) (tAndV ta tb) := by
  intro pins s σ H Q I h
  refine BoolOp_and (thn (ha pins s σ H _ I h) fun v s1 ⟨x, H1, I1, r1, q1⟩ => ?_)
  obtain ⟨c, rfl, q1⟩ := q1
  cases r1
  refine wpAny_truthy_bool ?_
  cases c with
  | true => exact hb pins s1 σ H1 Q I1 q1
  | false => exact ⟨.bl false, H1, I1, rfl, q1⟩
theorem pe_not (ha : PE X a ta) : PE X (.UnaryOp .Not a pos) (tNotV ta) := by
  intro pins s σ H Q I h
  refine UnaryOp_ (thn (ha pins s σ H _ I h) fun v s1 ⟨x, H1, I1, r1, q1⟩ => ?_)
  obtain ⟨c, rfl, q1⟩ := q1
  cases r1
  exact not_of (wpAny_truthy_bool ⟨.bl (!c), H1, I1, rfl, q1⟩)
end
end L2

namespace L2
open PySem PySem.Spec PyProof.Rows

/-! ### a list, a tuple that is read: tracked, frozen, or an object of the module -/
def SqL (K : PySem.W.Frag) (H : Hp) (a : Addr) (xs : List V) : Prop :=
  Rd H a (.lst xs) ∨
    ∃ (o : Obj) (its : Array Value) (n : Nat), K.lookup a = some o ∧ o.cls = .type "list" ∧ o.dict = none ∧ o.data = .seq its n ∧ its.size ≤ sizeLine ∧ Vals xs its.toList
def SqT (K : PySem.W.Frag) (H : Hp) (a : Addr) (xs : List V) : Prop :=
  Rd H a (.tup xs) ∨
    ∃ (o : Obj) (its : Array Value) (n : Nat), K.lookup a = some o ∧ o.cls = .type "tuple" ∧ o.data = .seq its n ∧ its.size ≤ sizeLine ∧ Vals xs its.toList
def absV : Value → Option V
  | .none => some .non
  | .bool b => some (.bl b)
  | .int i _ => some (.int i)
  | .str x _ => some (.str x)
  | .bytes b _ => some (.byt b)
  | .float b _ => some (.flt b)
  | .ref a => some (.ref a)
  | .type n => some (.ty n)
  | _ => none
theorem RelV.abs {x : V} {u : Value} (r : RelV x u) : absV u = some x := by
  cases x with
  | non => cases r; rfl
  | bl _ => cases r; rfl
  | int _ => obtain ⟨t, rfl⟩ := r; rfl
  | str _ => obtain ⟨t, rfl⟩ := r; rfl
  | byt _ => obtain ⟨t, rfl⟩ := r; rfl
  | flt _ => obtain ⟨t, rfl⟩ := r; rfl
  | ref _ => cases r; rfl
  | ty _ => cases r; rfl
theorem RelV.inj {x y : V} {u : Value} (r : RelV x u) (q : RelV y u) : x = y := Option.some.inj (r.abs.symm.trans q.abs)
theorem Vals.inj : ∀ {xs ys : List V} {us : List Value}, Vals xs us → Vals ys us → xs = ys
  | _, _, _, .nil, .nil => rfl
  | _, _, _, .cons r t, .cons r' t' => by rw [r.inj r', Vals.inj t t']
section
variable {X : Cx} {pins : List (Addr × Obj)} {σ : St} {H : Hp} {s : Shared} {a : Addr} {xs ys : List V}
theorem SqL.of {K : PySem.W.Frag} (h : H a = some (.lst xs)) : SqL K H a xs := .inl (.inl h)
theorem SqT.of {K : PySem.W.Frag} (h : H a = some (.tup xs)) : SqT K H a xs := .inl (.inl h)
theorem Inv.list (I : Inv X pins σ H s) (h : SqL X.K H a xs) : ∃ its : List Value, Vals xs its ∧ PlainL s.heap a its.toArray ∧ xs.length ≤ sizeLine := by
  rcases h with h | ⟨o, its, n, hk, hc, hd, hs, hz, r⟩
  · obtain ⟨z, its, n, r, e⟩ := h.ok I.hok
    exact ⟨its, r, ⟨_, n, e, rfl, rfl, rfl⟩, z⟩
  · refine ⟨its.toList, r, ⟨o, n, I.kIn a o hk, hc, hd, by simpa using hs⟩, ?_⟩
    have e := r.length
    simp only [Array.length_toList] at e
    omega
theorem Inv.tuple (I : Inv X pins σ H s) (h : SqT X.K H a xs) : ∃ its : List Value, Vals xs its ∧ IsTup s.heap a its.toArray ∧ xs.length ≤ sizeLine := by
  rcases h with h | ⟨o, its, n, hk, hc, hs, hz, r⟩
  · obtain ⟨z, its, r, p⟩ := h.ok I.hok
    exact ⟨its, r, p, z⟩
  · refine ⟨its.toList, r, ⟨o, I.kIn a o hk, hc, n, by simpa using hs⟩, ?_⟩
    have e := r.length
    simp only [Array.length_toList] at e
    omega
theorem Inv.list_inj (I : Inv X pins σ H s) (h : SqL X.K H a xs) (h' : SqL X.K H a ys) : xs = ys := by
  obtain ⟨its, r, ⟨o, n, e, _, _, d⟩, _⟩ := I.list h
  obtain ⟨its', r', ⟨o', n', e', _, _, d'⟩, _⟩ := I.list h'
  rw [e] at e'; cases e'
  rw [d] at d'
  injection d' with d1 _
  have : its = its' := by simpa using congrArg Array.toList d1
  subst this
  exact r.inj r'
theorem Inv.tuple_inj (I : Inv X pins σ H s) (h : SqT X.K H a xs) (h' : SqT X.K H a ys) : xs = ys := by
  obtain ⟨its, r, ⟨o, e, _, n, d⟩, _⟩ := I.tuple h
  obtain ⟨its', r', ⟨o', e', _, n', d'⟩, _⟩ := I.tuple h'
  rw [e] at e'; cases e'
  rw [d] at d'
  injection d' with d1 _
  have : its = its' := by simpa using congrArg Array.toList d1
  subst this
  exact r.inj r'
end

/-! ### another wish about exceptions -/
abbrev Cx.wish (X : Cx) (E : Value → Shared → Prop) : Cx := { X with xe := E }
/-- no exception leaves -/
abbrev Cx.nox (X : Cx) : Cx := X.wish fun _ _ => False
theorem Cx.Ok.wish {X : Cx} (ok : X.Ok) (E : Value → Shared → Prop) : (X.wish E).Ok :=
  ⟨ok.mod, ok.kind, ok.glob, ok.blt, ok.above, ok.inj, ok.has, ok.cab, ok.hd, ok.frames, ok.stk, ok.exf, ok.bs, ok.bsz, ok.noex, ok.exfs, ok.funs, ok.frf⟩
theorem Cx.Ok.unwish {X : Cx} {E : Value → Shared → Prop} (ok : (X.wish E).Ok) : X.Ok :=
  ⟨ok.mod, ok.kind, ok.glob, ok.blt, ok.above, ok.inj, ok.has, ok.cab, ok.hd, ok.frames, ok.stk, ok.exf, ok.bs, ok.bsz, ok.noex, ok.exfs, ok.funs, ok.frf⟩
section
variable {X : Cx} {pins : List (Addr × Obj)} {σ : St} {H : Hp} {s : Shared} {E : Value → Shared → Prop}
theorem Inv.wish (I : Inv X pins σ H s) (E : Value → Shared → Prop) : Inv (X.wish E) pins σ H s := ⟨I.ok.wish E, I.os, I.bare, I.base, I.loc, I.cell, I.free, I.freeC, I.pin, I.hok, I.len⟩
theorem Inv.unwish (I : Inv (X.wish E) pins σ H s) : Inv X pins σ H s := ⟨I.ok.unwish, I.os, I.bare, I.base, I.loc, I.cell, I.free, I.freeC, I.pin, I.hok, I.len⟩
theorem SP.unwish {D : Ends} {f : Flow} {s' : Shared} (h : SP (X.wish E) pins D f s') : SP X pins D f s' := by
  cases f with
  | next => obtain ⟨σ', H', I, q⟩ := h; exact ⟨σ', H', I.unwish, q⟩
  | brk => obtain ⟨σ', H', I, q⟩ := h; exact ⟨σ', H', I.unwish, q⟩
  | cont => obtain ⟨σ', H', I, q⟩ := h; exact ⟨σ', H', I.unwish, q⟩
  | ret u => obtain ⟨v, σ', H', I, r, q⟩ := h; exact ⟨v, σ', H', I.unwish, r, q⟩
theorem PE.nox {e : Expr} {t : TE} (h : PE X.nox e t) : PE X e t := fun pins s σ H Q I hw =>
  wpAny_mono (h pins s σ H Q (I.wish _) hw) (fun _ _ ⟨v, H', I', r, q⟩ => ⟨v, H', I'.unwish, r, q⟩) fun _ _ z => False.elim z
theorem PT.nox {e : Expr} {t : TT} (h : PT X.nox e t) : PT X e t := fun pins s σ H Q I hw =>
  wpAny_mono (h pins s σ H Q (I.wish _) hw) (fun _ _ ⟨H', I', q⟩ => ⟨H', I'.unwish, q⟩) fun _ _ z => False.elim z
theorem PSs.nox {st : List Stmt} {t : TS} (h : PSs X.nox st t) : PSs X st t := fun pins s σ H D I hw =>
  wpAny_mono (h pins s σ H D (I.wish _) hw) (fun _ _ q => q.unwish) fun _ _ z => False.elim z
end

/-! ### blocks and small statements -/
section
variable {X : Cx} {st : Stmt} {rest : List Stmt} {t u : TS} {e : Expr} {te : TE} {pos : Pos}
def tNext : TS := fun D σ H => D.nx σ H
def tSeq (t u : TS) : TS := fun D σ H => t { D with nx := u D } σ H
theorem pss_nil : PSs X [] tNext := fun _ _ σ H _ I h => wpAny_execs_nil ⟨σ, H, I, h⟩
theorem pss_cons (h1 : PS X st t) (h2 : PSs X rest u) : PSs X (st :: rest) (tSeq t u) := by
  intro pins s σ H D I h
  refine wpAny_execs_cons (thn (h1 pins s σ H { D with nx := u D } I h) fun f s1 q => ?_)
  cases f with
  | next =>
    obtain ⟨σ', H', I', q⟩ := q
    exact h2 pins s1 σ' H' D I' q
  | ret v => exact q
  | brk => exact q
  | cont => exact q
theorem pss_one (h1 : PS X st t) : PSs X [st] t := by
  intro pins s σ H D I h
  refine wpAny_execs_cons (thn (h1 pins s σ H D I h) fun f s1 q => ?_)
  cases f with
  | next => exact wpAny_execs_nil q
  | ret v => exact q
  | brk => exact q
  | cont => exact q
/-- in a def's body nothing is shown -/
theorem Inv.quiet {pins : List (Addr × Obj)} {σ : St} {H : Hp} {s : Shared} (I : Inv X pins σ H s) : interactive X.env = false := by simp [interactive, I.ok.kind]
/-- an expression whose value is dropped -/
def tDrop (te : TE) : TS := fun D σ H => te σ H fun _ H1 => D.nx σ H1
theorem ps_expr (he : PE X e te) (hs : swapsWith e none pos.line X.env = pure false := by rfl) : PS X (.Expr e pos) (tDrop te) := by
  intro pins s σ H D I h
  exact wpAny_Expr_any (thn (he pins s σ H _ I h) fun v s1 ⟨x, H1, I1, r1, q1⟩ => ⟨σ, H1, I1, q1⟩) I.quiet hs
def tRet (te : TE) : TS := fun D σ H => te σ H D.rt
theorem ps_ret (he : PE X e te) : PS X (.Return (some e) pos) (tRet te) := by
  intro pins s σ H D I h
  exact wpAny_Return_some (thn (he pins s σ H _ I h) fun v s1 ⟨x, H1, I1, r1, q1⟩ => ⟨x, σ, H1, I1, r1, q1⟩)
def tIfS (c : TT) (t u : TS) : TS := fun D σ H => c σ H fun b H1 => if b = true then t D σ H1 else u D σ H1
theorem ps_if {c : Expr} {a b : List Stmt} {tc : TT} (hc : PT X c tc) (ha : PSs X a t) (hb : PSs X b u) : PS X (.If c a b pos) (tIfS tc t u) := by
  intro pins s σ H D I h
  refine wpAny_If (thn (hc pins s σ H _ I h) fun d s1 ⟨H1, I1, q1⟩ => ?_)
  cases d with
  | true => exact ha pins s1 σ H1 D I1 q1
  | false => exact hb pins s1 σ H1 D I1 q1
end

/-! ### targets -/
abbrev TG := V → St → Hp → (St → Hp → Prop) → Prop
abbrev TGs := List V → St → Hp → (St → Hp → Prop) → Prop
def PG (X : Cx) (target : Expr) (t : TG) : Prop :=
  ∀ (pins : List (Addr × Obj)) (s : Shared) (σ : St) (H : Hp) (v : V) (u : Value) (Q : St → Hp → Prop), Inv X pins σ H s → RelV v u → t v σ H Q →
    wpAny (model X.prog X.w) X.A (assign target X.env u) (fun _ s' => ∃ σ' H', Inv X pins σ' H' s' ∧ Q σ' H') X.xe s
/-- several targets, one after another -/
def PGs (X : Cx) (ts : List Expr) (t : TGs) : Prop :=
  ∀ (pins : List (Addr × Obj)) (s : Shared) (σ : St) (H : Hp) (vs : List V) (us : List Value) (Q : St → Hp → Prop), Inv X pins σ H s → Vals vs us → t vs σ H Q →
    wpAny (model X.prog X.w) X.A (assignInOrder ((assignEach ts X.env).map (·.2)) us) (fun _ s' => ∃ σ' H', Inv X pins σ' H' s' ∧ Q σ' H') X.xe s
/-- a op= b, by values -/
abbrev TIp := V → V → Hp → VK → Prop
def PIp (X : Cx) (op : Operator) (t : TIp) : Prop :=
  ∀ (pins : List (Addr × Obj)) (s : Shared) (σ : St) (H : Hp) (x y : V) (v u : Value) (Q : VK), Inv X pins σ H s → RelV x v → RelV y u → t x y H Q →
    wpAny (model X.prog X.w) X.A (inplaceOp op v u) (EP X pins σ Q) X.xe s
section
variable {X : Cx} {pos : Pos}
def gName (i : Nat) : TG := fun v σ H Q => Q (σ.set i (some v)) H
theorem pg_name {i : Nat} {x : Str} (hN : X.N.Nodup) (hi : X.N[i]? = some x) (hx : Loc X.env.scope x) (hf : X.fn x = true ∨ X.env.scope.names.lookup x = some .local := by first | exact .inl rfl | exact .inr rfl | assumption) : PG X (.Name x pos) (gName i) := by
  intro pins s σ H v u Q I r h
  exact wpAny_assign_Name (store_ok I hN hi hx r (fun s' I' => ⟨_, H, I', h⟩) hf)
def gNil : TGs := fun vs σ H Q => vs = [] ∧ Q σ H
def gCons (t : TG) (u : TGs) : TGs := fun vs σ H Q => ∃ v r, vs = v :: r ∧ t v σ H fun σ' H' => u r σ' H' Q
theorem pgs_nil : PGs X [] gNil := by
  intro pins s σ H vs us Q I r h
  obtain ⟨e, h⟩ := h
  subst e
  cases r
  exact assignInOrder_nil ⟨σ, H, I, h⟩
theorem pgs_cons {e : Expr} {es : List Expr} {t : TG} {u : TGs} (h1 : PG X e t) (h2 : PGs X es u)
    (hs : (assignEach (e :: es) X.env).map (·.2) = assign e X.env :: (assignEach es X.env).map (·.2) := by rfl) : PGs X (e :: es) (gCons t u) := by
  intro pins s σ H vs us Q I r h
  obtain ⟨v, vr, e1, h⟩ := h
  subst e1
  cases r with
  | cons r rr =>
    rw [hs]
    refine assignInOrder_cons (thn (h1 pins s σ H _ _ _ I r h) fun _ s1 ⟨σ1, H1, I1, q1⟩ => ?_)
    exact h2 pins s1 σ1 H1 _ _ Q I1 rr q1
/-- (a, b, ..) = a tuple of that length -/
def gTup (K : PySem.W.Frag) (n : Nat) (t : TGs) : TG := fun v σ H Q => ∃ a xs, v = .ref a ∧ SqT K H a xs ∧ xs.length = n ∧ t xs σ H Q
theorem pg_tup {es : List Expr} {k : Nat} {t : TGs} {n : Nat} (hc : X.calm = true) (h : PGs X es t)
    (hn : (assignEach es X.env).length = n := by rfl) (hst : (assignEach es X.env).findIdx? (·.1) = none := by rfl) : PG X (.Tuple es k pos) (gTup X.K n t) := by
  intro pins s σ H v u Q I r hw
  obtain ⟨a, xs, e1, hq, hl, hw⟩ := hw
  subst e1
  cases r
  obtain ⟨its, rv, ht, hz⟩ := I.tuple hq
  refine assign_Tuple_tuple (I.ok.hd hc) ht (by simp [hn, ← hl, rv.length]) hst fun h' hx => ?_
  have I1 : Inv X pins σ H { s with heap := h' } := I.kept (t' := s.toks) fun b o e => hx b o (Nat.ne_of_lt (Heap.lt_size e)) e
  exact h pins _ σ H xs _ Q I1 (by simpa using rv) hw
/-- target = value -/
def tAsg (te : TE) (g : TG) : TS := fun D σ H => te σ H fun x H1 => g x σ H1 D.nx
theorem ps_asg {tg e : Expr} {te : TE} {g : TG} (he : PE X e te) (hg : PG X tg g) (hs : swapsWithSole [tg] e pos.line X.env = pure false := by rfl) (hw : swappedStores [tg] e X.env = pure none := by rfl)
    (h1 : (assignEach [tg] X.env).map (·.2) = [assign tg X.env] := by rfl) : PS X (.Assign [tg] e pos) (tAsg te g) := by
  intro pins s σ H D I h
  refine wpAny_Assign_stores (thn (he pins s σ H _ I h) fun v s1 ⟨x, H1, I1, r1, q1⟩ => ?_) hs hw
  rw [h1]
  exact thn (hg pins s1 σ H1 x v _ I1 r1 q1) fun _ s2 q => q
/-- name = value -/
theorem ps_set {i : Nat} {x : Str} {e : Expr} {te : TE} {pos' : Pos} (hN : X.N.Nodup) (hi : X.N[i]? = some x) (hx : Loc X.env.scope x) (he : PE X e te) (hs : swapsWith e (some (.Name x pos')) pos.line X.env = pure false := by rfl) (hf : X.fn x = true ∨ X.env.scope.names.lookup x = some .local := by first | exact .inl rfl | exact .inr rfl | assumption) :
    PS X (.Assign [.Name x pos'] e pos) (tAsg te (gName i)) := by
  intro pins s σ H D I h
  refine wpAny_Assign_Name (thn (he pins s σ H _ I h) fun v s1 ⟨y, H1, I1, r1, q1⟩ => ?_) hs
  exact store_ok I1 hN hi hx r1 (fun s2 I2 => ⟨_, H1, I2, q1⟩) hf
/-- name op= e -/
inductive TAugI (i : Nat) (te : TE) (ti : TIp) (D : Ends) (σ : L2.St) (H : Hp) : Prop where
  | mk (x : _) (c1 : σ[i]? = some (some x)) (c2 : te σ H fun y H1 => ti x y H1 fun z H2 => D.nx (σ.set i (some z)) H2)
def tAug (i : Nat) (te : TE) (ti : TIp) : TS := fun D σ H => TAugI i te ti D σ H
theorem ps_aug {i : Nat} {x : Str} {e : Expr} {te : TE} {op : Operator} {ti : TIp} {pos' : Pos} (hN : X.N.Nodup) (hi : X.N[i]? = some x) (hx : Loc X.env.scope x) (he : PE X e te) (ho : PIp X op ti) (hf : X.fn x = true ∨ X.env.scope.names.lookup x = some .local := by first | exact .inl rfl | exact .inr rfl | assumption) :
    PS X (.AugAssign (.Name x pos') op e pos) (tAug i te ti) := by
  intro pins s σ H D I h
  obtain ⟨v, e1, h⟩ := h
  obtain ⟨m, hn, hl⟩ := I.loc
  have vis : Vis X.env.scope x := by rcases hx with k | k; exact .inl k; exact .inr (.inl k)
  obtain ⟨u, r, l⟩ := hl i x v hi e1 vis
  refine wpAny_AugAssign_Name ?_
  have go : wpAny (model X.prog X.w) X.A (eval e X.env) (fun w s₂ => wpAny (model X.prog X.w) X.A (inplaceOp op u w) (fun r s₃ => wpAny (model X.prog X.w) X.A (storeName X.env x r) (fun _ => SP X pins D .next) X.xe s₃) X.xe s₂) X.xe s := by
    refine thn (he pins s σ H _ I h) fun w s1 ⟨y, H1, I1, r1, q1⟩ => ?_
    refine thn (ho pins s1 σ H1 v y u w _ I1 r r1 q1) fun z s2 ⟨zv, H2, I2, r2, q2⟩ => ?_
    exact store_ok I2 hN hi hx r2 (fun s3 I3 => ⟨_, H2, I3, q2⟩) hf
  rcases l with ⟨hk, hm⟩ | ⟨hk, c, hc, hcell⟩
  · exact wpAny_loadName_local I.ok.kind hk hn hm go
  · rcases hk with hk | hk
    · exact wpAny_loadName_cell I.ok.kind hk hc hcell go
    · rcases hx with k | k
      · have : X.env.scope.names.lookup x = some .free := hk
        rw [k] at this; cases this
      · have : X.env.scope.names.lookup x = some .free := hk
        rw [k] at this; cases this
/-- ints -/
def ipI (f : Int → Int → Int) : TIp := fun x y H Q => ∃ i j, x = .int i ∧ y = .int j ∧ Q (.int (f i j)) H
theorem ip_add : PIp X .Add (ipI fun i j => i + j) := by
  intro pins s σ H x y v u Q I r1 r2 h
  obtain ⟨i, j, e1, e2, q⟩ := h
  subst e1; subst e2
  obtain ⟨t, rfl⟩ := r1
  obtain ⟨t', rfl⟩ := r2
  exact iadd_int ⟨.int _, H, I.tok _, ⟨_, rfl⟩, q⟩
end

/-! ### while -/
section
variable {X : Cx} {pos : Pos}
/-- the invariant W with its measure -/
inductive GoI (tb : TS) (D : Ends) (W : Nat → St → Hp → Prop) (m : Nat) (σ : St) (H : Hp) : Prop where
  | mk (N : St → Hp → Prop) (c1 : ∀ σ' H', N σ' H' → ∃ m', m' < m ∧ W m' σ' H') (c2 : tb { D with nx := N, ct := N, bk := D.nx } σ H)
inductive TWhileI (c : TT) (tb : TS) (D : Ends) (σ : L2.St) (H : Hp) : Prop where
  | mk (W : Nat → St → Hp → Prop) (c1 : (∃ m, W m σ H)) (c2 : ∀ m σ H, W m σ H →
  c σ H fun b H1 => if b = true then GoI tb D W m σ H1 else D.nx σ H1)
def tWhile (c : TT) (tb : TS) : TS := fun D σ H => TWhileI c tb D σ H
theorem ps_while {c : Expr} {body : List Stmt} {tc : TT} {tb : TS} (hp : PassesOwn (model X.prog X.w) X.A X.env X.xe) (hc : PT X c tc) (hb : PSs X body tb) : PS X (.While c body [] pos) (tWhile tc tb) := by
  intro pins s σ H D I h
  obtain ⟨W, ⟨m0, w0⟩, turn⟩ := h
  refine wpAny_While (codeAny_whileLoop (fun n s' => ∃ σ' H', Inv X pins σ' H' s' ∧ W n σ' H') ?_ m0 ⟨σ, H, I, w0⟩)
  rintro n s1 ⟨σ1, H1, I1, w1⟩
  refine wpAny_passesOwn hp (thn (hc pins s1 σ1 H1 _ I1 (turn n σ1 H1 w1)) fun b s2 ⟨H2, I2, q2⟩ => ?_)
  cases b with
  | true =>
    obtain ⟨N, hN, q2⟩ := q2
    rw [if_pos rfl]
    refine wpAny_passesOwn hp (thn (hb pins s2 σ1 H2 _ I2 q2) fun f s3 q3 => ?_)
    cases f with
    | next =>
      obtain ⟨σ3, H3, I3, n3⟩ := q3
      obtain ⟨m', hm, w3⟩ := hN σ3 H3 n3
      exact ⟨m', hm, σ3, H3, I3, w3⟩
    | cont =>
      obtain ⟨σ3, H3, I3, n3⟩ := q3
      obtain ⟨m', hm, w3⟩ := hN σ3 H3 n3
      exact ⟨m', hm, σ3, H3, I3, w3⟩
    | brk => exact q3
    | ret v => exact q3
  | false =>
    rw [if_neg Bool.false_ne_true]
    exact wpAny_execs_nil ⟨σ1, H2, I2, q2⟩
end

/-! ### what a loop or a comprehension walks -/
/-- at turn i: it yields x (the heap may grow), or it stops -/
structure It where
  go : Nat → Hp → Prop
  yld : Nat → Hp → V → Hp → Prop
  stop : Nat → Hp → Prop
/-- the iterator's own objects may turn: they are not the frame's, not pinned, younger than the entry (or a comprehension's own) -/
def FpOk (X : Cx) (pins : List (Addr × Obj)) (H : Hp) (b : Addr) : Prop :=
  H b = none ∧ b ≠ X.env.locals ∧ b ∉ X.fs ∧ (b ∈ X.ex ∨ X.s₀.heap.objs.size ≤ b) ∧ (∀ x c, X.env.cells.lookup x = some c → c ≠ b) ∧ ∀ p ∈ X.pn ++ pins, p.1 ≠ b
theorem Inv.fpOk {X : Cx} {pins : List (Addr × Obj)} {σ : St} {H H' : Hp} {s : Shared} {b : Addr} (I : Inv X pins σ H s) (hb : s.heap.objs.size ≤ b) (hn : H' b = none) : FpOk X pins H' b := by
  refine ⟨hn, Nat.ne_of_gt (Nat.lt_of_lt_of_le I.lt hb), I.nofs hb, .inr (Nat.le_trans I.sz hb), fun x c e z => ?_, fun p hp z => ?_⟩
  · obtain ⟨v, q⟩ := I.cell x c e
    exact absurd (Nat.lt_of_lt_of_le q.lt (by rw [z]; exact hb)) (Nat.lt_irrefl _)
  · exact absurd (Nat.lt_of_lt_of_le (Heap.lt_size (I.pin p hp).1) (by rw [z]; exact hb)) (Nat.lt_irrefl _)
structure Turn (P : Program) (w : World) (K : PySem.W.Frag) (tg : Expr) (J : It) (fp : List Addr) (it : Addr) (tn : Nat → Heap → Prop) : Prop where
  mem : it ∈ fp
  obj : ∀ i h, tn i h → ∀ b ∈ fp, ∃ o, h.get? b = some o ∧ ∀ v, o.data ≠ .cell v
  keep : ∀ i h h', tn i h → (∀ b ∈ fp, ∀ o, h.get? b = some o → h'.get? b = some o) → tn i h'
  item : ∀ (X : Cx), X.prog = P → X.w = w → X.K = K → X.calm = true → ∀ (i : Nat) (pins : List (Addr × Obj)) (s : Shared) (σ : St) (H : Hp) (E : Value → Shared → Prop), Inv X pins σ H s → (∀ b ∈ fp, FpOk X pins H b) → tn i s.heap → J.go i H →
    wpAny (model P w) X.A (pyNext (.ref it)) (fun r s1 => ∃ u, r = some u ∧
      wpAny (model P w) X.A (letOwnedTupleGo tg (.ref it) u) (fun _ s2 => ∃ x H', Inv X pins σ H' s2 ∧ RelV x u ∧ J.yld i H x H' ∧ tn (i + 1) s2.heap ∧ ∀ b ∈ fp, H' b = none) E s1) E s
  done : ∀ (X : Cx), X.prog = P → X.w = w → X.K = K → X.calm = true → ∀ (i : Nat) (pins : List (Addr × Obj)) (s : Shared) (σ : St) (H : Hp) (E : Value → Shared → Prop), Inv X pins σ H s → (∀ b ∈ fp, FpOk X pins H b) → tn i s.heap → J.stop i H →
    wpAny (model P w) X.A (pyNext (.ref it)) (fun r s1 => r = none ∧ Inv X pins σ H s1) E s
  self : ∀ (A : Around) (i : Nat) (s : Shared) (Q : Value → Shared → Prop) (E : Value → Shared → Prop), tn i s.heap → Q (.ref it) s → wpAny (model P w) A (pyIter (.ref it)) Q E s
abbrev TI := St → Hp → (It → Hp → Prop) → Prop
/-- an iterator has come -/
def PIE (X : Cx) (pins : List (Addr × Obj)) (σ : St) (tg : Expr) (R : It → Hp → Prop) (itv : Value) (s2 : Shared) : Prop :=
  ∃ (it : Addr) (fp : List Addr) (tn : Nat → Heap → Prop) (J : It) (H' : Hp), itv = .ref it ∧ Inv X pins σ H' s2 ∧ Turn X.prog X.w X.K tg J fp it tn ∧ tn 0 s2.heap ∧ (∀ b ∈ fp, FpOk X pins H' b) ∧ R J H'
def PI (X : Cx) (tg iter : Expr) (wi : TI) : Prop :=
  ∀ (pins : List (Addr × Obj)) (s : Shared) (σ : St) (H : Hp) (R : It → Hp → Prop), Inv X pins σ H s → wi σ H R →
    wpAny (model X.prog X.w) X.A (eval iter X.env) (fun v s1 => wpAny (model X.prog X.w) X.A (pyIter v) (PIE X pins σ tg R) X.xe s1) X.xe s

/-- the step ahead of the store is nothing for an iterator that keeps no tuple -/
theorem go_of {M : Model} {A : Around} {E : Value → Shared → Prop} {s : Shared} {tg : Expr} {it : Addr} {u : Value} {o : Obj} {n : String} {vs : Array Value} {Q : Unit → Shared → Prop} (ho : s.heap.get? it = some o) (hc : o.cls = .type n) (hd : o.data = .fields vs)
    (hn : ["enumerate", "zip", "dict_itemiterator", "dict_reverseitemiterator", "odict_iterator", "itertools.zip_longest", "itertools.pairwise"].contains n = false) (hQ : Q () s) : wpAny M A (letOwnedTupleGo tg (.ref it) u) Q E s := by
  unfold letOwnedTupleGo
  cases tg <;> first
    | exact wpAny_pure hQ
    | (cases u <;> first
        | exact wpAny_pure hQ
        | (refine wpAny_bind (wpAny_load ho ?_)
           rw [hc, hd]
           show wpAny M A (if (["enumerate", "zip", "dict_itemiterator", "dict_reverseitemiterator", "odict_iterator", "itertools.zip_longest", "itertools.pairwise"].contains n && vs[0]? == some (rawInt _)) = true then _ else _) Q E s
           rw [if_neg (by intro h; rw [hn, Bool.false_and] at h; cases h)]
           exact wpAny_pure hQ))

/-- the list at a, as it stands at each turn (a loop may append to it) -/
def Itl (K : PySem.W.Frag) (a : Addr) : It :=
  ⟨fun i H => ∃ xs x, SqL K H a xs ∧ xs[i]? = some x, fun i H x H' => H' = H ∧ ∀ xs, SqL K H a xs → xs[i]? = some x, fun i H => ∃ xs, SqL K H a xs ∧ xs.length ≤ i⟩
/-- lo, lo + 1, .. (n of them) -/
def Itr (lo : Int) (n : Nat) : It := ⟨fun i _ => i < n, fun i H x H' => H' = H ∧ x = .int (lo + i), fun i _ => n ≤ i⟩
theorem turn_list {P : Program} {w : World} {K : PySem.W.Frag} {tg : Expr} (a it : Addr) : Turn P w K tg (Itl K a) [it] it (fun i h => h.IsListIter it a i) where
  mem := by simp
  obj := fun i h st b hb => by
    have e : b = it := by simpa using hb
    subst e
    obtain ⟨o, e, c, d⟩ := st
    exact ⟨o, e, fun v z => by rw [d] at z; cases z⟩
  keep := fun i h h' st k => st.at fun o e => k it (by simp) o e
  item := by
    intro X hP hw hK hc i pins s σ H E I hf st hg
    subst hP hw hK
    obtain ⟨xs, x, hq, hx⟩ := hg
    obtain ⟨its, rv, p, hz⟩ := I.list hq
    obtain ⟨u, hu, ru⟩ := rv.get hx
    obtain ⟨f0, f1, f2, f3, f4, f5⟩ := hf it (by simp)
    refine wpAny_pyNext_list_item st p.isList (x := u) (by simpa using hu) fun h' st' sb => ?_
    have I1 : Inv X pins σ H { s with heap := h' } := I.turned (t' := s.toks) (fun b o hb e => (sb.2 b hb).trans e) f0 f1 f3 f4 f5
    obtain ⟨o, e, c, d⟩ := id st'
    exact ⟨u, rfl, go_of (s := { s with heap := h' }) e c d (by decide) ⟨x, H, I1, ru, ⟨rfl, fun ys hy => by rw [I.list_inj hy hq]; exact hx⟩, st', fun b hb => (hf b hb).1⟩⟩
  done := by
    intro X hP hw hK hc i pins s σ H E I hf st hg
    subst hP hw hK
    obtain ⟨xs, hq, hx⟩ := hg
    obtain ⟨its, rv, p, hz⟩ := I.list hq
    obtain ⟨f0, f1, f2, f3, f4, f5⟩ := hf it (by simp)
    have hl := rv.length
    exact wpAny_pyNext_list_end (I.ok.hd hc) st p.isList (by simp; omega) fun h' eb => ⟨rfl, I.turned (t' := s.toks) (fun b o hb e => eb b o hb e) f0 f1 f3 f4 f5⟩
  self := fun _ _ _ _ _ st h => wpAny_pyIter_listiter st h
theorem turn_range {P : Program} {w : World} {K : PySem.W.Frag} {tg : Expr} (it : Addr) (lo : Int) (n : Nat) : Turn P w K tg (Itr lo n) [it] it (fun i h => IsRangeIter h it (lo + (i : Nat) * 1) ((n : Int) - (i : Nat)) 1) where
  mem := by simp
  obj := fun i h st b hb => by
    have e : b = it := by simpa using hb
    subst e
    exact ⟨_, st, fun v z => by
      have z' : Data.fields _ = Data.cell v := z
      cases z'⟩
  keep := fun i h h' st k => k it (by simp) _ st
  item := by
    intro X hP hw hK hc i pins s σ H E I hf st hg
    subst hP hw hK
    obtain ⟨f0, f1, f2, f3, f4, f5⟩ := hf it (by simp)
    have W := Walks.range (prog := X.prog) (w := X.w) (I.ok.hd hc) it lo 1 n
    refine W.item i s _ _ hg st fun v h' tk hv st' kk => ?_
    obtain ⟨t, rfl⟩ := hv
    have I1 : Inv X pins σ H { s with heap := h', toks := tk } := I.turned (fun b o hb e => kk b o (by simpa using hb) e) f0 f1 f3 f4 f5
    refine ⟨_, rfl, go_of (s := { s with heap := h', toks := tk }) (n := "range_iterator") st' rfl rfl (by decide) ⟨.int (lo + i), H, I1, ⟨t, ?_⟩, ⟨rfl, rfl⟩, st', fun b hb => (hf b hb).1⟩⟩
    rw [Int.mul_one]
  done := by
    intro X hP hw hK hc i pins s σ H E I hf st hg
    subst hP hw hK
    obtain ⟨f0, f1, f2, f3, f4, f5⟩ := hf it (by simp)
    exact wpAny_pyNext_range_end (I.ok.hd hc) st (by have : n ≤ i := hg; omega) fun h' eb => ⟨rfl, I.turned (t' := s.toks) (fun b o hb e => eb b o hb e) f0 f1 f3 f4 f5⟩
  self := fun _ _ _ _ _ st h => wpAny_pyIter_rangeiter st h
end L2

namespace L2
open PySem PySem.Spec PyProof.Rows
section
variable {X : Cx} {tg : Expr}
inductive IListI (K : PySem.W.Frag) (R : It → Hp → Prop) (x : V) (H1 : Hp) : Prop where
  | mk (a : _) (c1 : x = .ref a) (c2 : (∃ xs, SqL K H1 a xs)) (c3 : R (Itl K a) H1)
def iList (K : PySem.W.Frag) (tl : TE) : TI := fun σ H R => tl σ H fun x H1 => IListI K R x H1
theorem pi_list {l : Expr} {tl : TE} (hl : PE X l tl) : PI X tg l (iList X.K tl) := by
  intro pins s σ H R I h
  refine thn (hl pins s σ H _ I h) fun v s1 ⟨x, H1, I1, r1, q1⟩ => ?_
  obtain ⟨a, e, ⟨xs, hq⟩, q⟩ := q1
  subst e
  cases r1
  obtain ⟨its, rv, p, hz⟩ := I1.list hq
  refine wpAny_pyIter_list p.isList ?_
  refine ⟨s1.heap.objs.size, [s1.heap.objs.size], _, _, H1, rfl, I1.kept (t' := s1.toks) fun b o e => Heap.get?_push_of_some _ e, turn_list a _, ⟨_, Heap.get?_push_size _ rfl, rfl, rfl⟩, fun b hb => ?_, q⟩
  have e : b = s1.heap.objs.size := by simpa using hb
  subst e
  exact I1.fpOk (Nat.le_refl _) (I1.hok.fresh (Nat.le_refl _))
/-- a range object just made, walked -/
theorem range_it {pins : List (Addr × Obj)} {σ : St} {H : Hp} {s : Shared} {R : It → Hp → Prop} {E : Value → Shared → Prop} {lo hi : Int} {t u v : Tok} {tk : Nat} (I : Inv X pins σ H s) (h1 : -(2 ^ 62) ≤ lo) (h2 : lo < 2 ^ 62) (h3 : -(2 ^ 62) ≤ hi) (h4 : hi < 2 ^ 62)
    (q : R (Itr lo (hi - lo).toNat) H) : wpAny (model X.prog X.w) X.A (pyIter (.ref s.heap.objs.size)) (PIE X pins σ tg R) E { s with heap := s.heap.push { cls := .type "range", data := .fields #[.int lo t, .int hi u, .int 1 v] }, toks := tk } := by
  refine wpAny_pyIter_range (IsRange.new ..) (small_one h1 h2 h3 h4) ?_
  have I1 : Inv X pins σ H { s with heap := s.heap.push { cls := .type "range", data := .fields #[.int lo t, .int hi u, .int 1 v] }, toks := tk } := I.kept fun b o e => Heap.get?_push_of_some _ e
  refine ⟨(s.heap.push { cls := .type "range", data := .fields #[.int lo t, .int hi u, .int 1 v] }).objs.size, [(s.heap.push { cls := .type "range", data := .fields #[.int lo t, .int hi u, .int 1 v] }).objs.size], _, _, H, rfl,
    I1.kept (t' := tk) fun b o e => Heap.get?_push_of_some _ e, turn_range _ lo (hi - lo).toNat, ?_, fun b hb => ?_, q⟩
  · have e1 : lo + ((0 : Nat) : Int) * 1 = lo := by simp
    have e2 : (((hi - lo).toNat : Nat) : Int) - ((0 : Nat) : Int) = Builtin.Range.rangeSize lo hi 1 := by rw [rangeSize_one]; split <;> omega
    show IsRangeIter _ _ (lo + ((0 : Nat) : Int) * 1) ((((hi - lo).toNat : Nat) : Int) - ((0 : Nat) : Int)) 1
    rw [e1, e2]
    exact Heap.get?_push_size _ rfl
  · have e : b = (s.heap.push { cls := .type "range", data := .fields #[.int lo t, .int hi u, .int 1 v] }).objs.size := by simpa using hb
    subst e
    exact I1.fpOk (Nat.le_refl _) (I1.hok.fresh (Nat.le_refl _))
inductive IRng1I (R : It → Hp → Prop) (vs : List V) (H1 : Hp) : Prop where
  | mk (j : Int) (c1 : vs = [.int j]) (c2 : -(2 ^ 62) ≤ j) (c3 : j < 2 ^ 62) (c4 : R (Itr 0 j.toNat) H1)
def iRng1 (ta : TA) : TI := fun σ H R => ta σ H fun vs H1 => IRng1I R vs H1
theorem pi_range1 {a : Expr} {ta : TA} {p pos : Pos} (hg : Gl X "range") (hm : X.mg "range" = none) (ha : PA X [a] ta) (hs : starEach [a] X.env = [(false, eval a X.env)] := by rfl) : PI X tg (.Call (.Name "range" p) [a] [] pos) (iRng1 ta) := by
  intro pins s σ H R I h
  refine Call_ (ld_blt I hg hm boot_range (PyProof.Rows.callWith_type1 (thn (ha pos pins s σ H _ I h) fun us s1 ⟨vs, H1, I1, r1, q1⟩ => ?_) hs rfl))
  obtain ⟨j, e, q1, q2, q⟩ := q1
  subst e
  cases r1 with
  | cons r rr =>
    cases rr
    obtain ⟨t, rfl⟩ := r
    exact call_range_1 (range_it I1 (by omega) (by omega) q1 q2 (by simpa using q))

/-! ### for -/
/-- W: the invariant by the turn and a measure; N: what the body is to reach -/
def tFor (wi : TI) (g : TG) (tb : TS) : TS := fun D σ H => wi σ H fun J H1 => ∃ W : Nat → Nat → St → Hp → Prop, (∃ m, W 0 m σ H1) ∧ ∀ i m σ H, W i m σ H →
  (J.stop i H ∧ D.nx σ H) ∨ (J.go i H ∧ ∃ N : St → Hp → Prop, (∀ σ' H', N σ' H' → ∃ m', m' < m ∧ W (i + 1) m' σ' H') ∧ ∀ x H', J.yld i H x H' → g x σ H' fun σ2 H2 => tb { D with nx := N, ct := N, bk := D.nx } σ2 H2)
/-- the records at fp as they stand -/
def pinsAt (fp : List Addr) (h : Heap) : List (Addr × Obj) := fp.filterMap fun b => (h.get? b).map fun o => (b, o)
theorem mem_pinsAt {fp : List Addr} {h : Heap} {b : Addr} {o : Obj} (hb : b ∈ fp) (e : h.get? b = some o) : (b, o) ∈ pinsAt fp h := List.mem_filterMap.mpr ⟨b, hb, by rw [e]; rfl⟩
theorem of_pinsAt {fp : List Addr} {h : Heap} {p : Addr × Obj} (hp : p ∈ pinsAt fp h) : p.1 ∈ fp ∧ h.get? p.1 = some p.2 := by
  obtain ⟨b, hb, e⟩ := List.mem_filterMap.mp hp
  cases q : h.get? b with
  | none => rw [q] at e; cases e
  | some o =>
    rw [q] at e
    have e' : (b, o) = p := Option.some.inj e
    subst e'
    exact ⟨hb, q⟩
theorem Inv.pinned {pins : List (Addr × Obj)} {σ : St} {H : Hp} {s : Shared} {fp : List Addr} (I : Inv X pins σ H s) (hf : ∀ b ∈ fp, FpOk X pins H b) (ho : ∀ b ∈ fp, ∃ o, s.heap.get? b = some o ∧ ∀ v, o.data ≠ .cell v) : Inv X (pins ++ pinsAt fp s.heap) σ H s :=
  I.pins_of fun p hp => (List.mem_append.mp hp).elim (fun z => I.pin p (List.mem_append_right _ z)) fun z => by
    obtain ⟨hb, e⟩ := of_pinsAt z
    obtain ⟨f0, f1, f2, _⟩ := hf p.1 hb
    obtain ⟨o, e', d⟩ := ho p.1 hb
    rw [e] at e'; cases e'
    exact ⟨e, f0, f1, f2, d⟩
theorem Inv.unpinned {pins pl : List (Addr × Obj)} {σ : St} {H : Hp} {s : Shared} (I : Inv X (pins ++ pl) σ H s) : Inv X pins σ H s := I.pins_of fun p hp => I.pin p (List.mem_append_right _ (List.mem_append_left _ hp))
theorem ps_for {iter : Expr} {body : List Stmt} {wi : TI} {g : TG} {tb : TS} {pos : Pos} (hp : PassesOwn (model X.prog X.w) X.A X.env X.xe) (hc : X.calm = true) (hi : PI X tg iter wi) (hg : PG X tg g) (hb : PSs X body tb)
    (hs : ∀ x, foldedSetIterable iter X.env x = pure x := by intro _; rfl) : PS X (.For tg iter body [] pos) (tFor wi g tb) := by
  intro pins s σ H D I h
  refine wpAny_For (thn (hi pins s σ H _ I h) fun v s1 h1 => thn h1 fun itv s2 h2 => ?_) hs
  obtain ⟨it, fp, tn, J, H2, e, I2, T, st2, f2, W, ⟨m0, w0⟩, turn⟩ := h2
  subst e
  -- what stays true of the iterator's objects through the loop
  have stat : ∀ {H' : Hp}, (∀ b ∈ fp, H' b = none) → ∀ b ∈ fp, FpOk X pins H' b := fun hn b hb => ⟨hn b hb, (f2 b hb).2⟩
  refine codeAny_forLoop_any (fun n s' => ∃ i σ' H', Inv X pins σ' H' s' ∧ tn i s'.heap ∧ (∀ b ∈ fp, H' b = none) ∧ W i n σ' H') ?_ m0 ⟨0, σ, H2, I2, st2, fun b hb => (f2 b hb).1, w0⟩
  rintro n s3 ⟨i, σ3, H3, I3, st3, fr3, w3⟩
  rcases turn i n σ3 H3 w3 with ⟨stop, qn⟩ | ⟨go, N, hN, step⟩
  · refine wpAny_passesOwn hp (thn (T.done X rfl rfl rfl hc i pins s3 σ3 H3 X.xe I3 (stat fr3) st3 stop) fun r s4 ⟨hr, I4⟩ => ?_)
    subst hr
    exact wpAny_execs_nil ⟨σ3, H3, I4, qn⟩
  · refine wpAny_passesOwn hp (thn (T.item X rfl rfl rfl hc i pins s3 σ3 H3 X.xe I3 (stat fr3) st3 go) fun r s4 ⟨u, hr, h4⟩ => ?_)
    subst hr
    refine wpAny_passesOwn hp (thn h4 fun _ s5 ⟨x, H5, I5, r5, y5, st5, fr5⟩ => ?_)
    have I5' := I5.pinned (stat fr5) (T.obj _ _ st5)
    refine wpAny_passesOwn hp (thn (hg _ s5 σ3 H5 x u _ I5' r5 (step x H5 y5)) fun _ s6 ⟨σ6, H6, I6, q6⟩ => ?_)
    refine wpAny_passesOwn hp (thn (hb _ s6 σ6 H6 _ I6 q6) fun f s7 q7 => ?_)
    have again : ∀ {σ7 : St} {H7 : Hp}, Inv X (pins ++ pinsAt fp s5.heap) σ7 H7 s7 → N σ7 H7 → ∃ m, m < n ∧ ∃ i σ' H', Inv X pins σ' H' s7 ∧ tn i s7.heap ∧ (∀ b ∈ fp, H' b = none) ∧ W i m σ' H' := fun {σ7 H7} I7 n7 => by
      obtain ⟨m', hm, w7⟩ := hN σ7 H7 n7
      refine ⟨m', hm, i + 1, σ7, H7, I7.unpinned, T.keep _ _ _ st5 fun b hb o e => (I7.pin (b, o) (List.mem_append_right _ (List.mem_append_right _ (mem_pinsAt hb e)))).1, fun b hb => ?_, w7⟩
      obtain ⟨o, e, d⟩ := T.obj _ _ st5 b hb
      exact (I7.pin (b, o) (List.mem_append_right _ (List.mem_append_right _ (mem_pinsAt hb e)))).2.1
    cases f with
    | next => obtain ⟨σ7, H7, I7, n7⟩ := q7; exact again I7 n7
    | cont => obtain ⟨σ7, H7, I7, n7⟩ := q7; exact again I7 n7
    | brk => obtain ⟨σ7, H7, I7, q7⟩ := q7; exact ⟨σ7, H7, I7.unpinned, q7⟩
    | ret v => obtain ⟨x7, σ7, H7, I7, r7, q7⟩ := q7; exact ⟨x7, σ7, H7, I7.unpinned, r7, q7⟩
end

/-! ### the forms one uses -/
/-- over a list that the body leaves as it is -/
theorem for_list {K : PySem.W.Frag} {a : Addr} {xs : List V} {g : TG} {tb : TS} {D : Ends} {σ : St} {H : Hp} (Pv : Nat → St → Hp → Prop) (h0 : Pv 0 σ H) (hl : ∀ i σ H, i ≤ xs.length → Pv i σ H → SqL K H a xs)
    (hs : ∀ i x σ H, xs[i]? = some x → Pv i σ H → g x σ H fun σ2 H2 => tb { D with nx := Pv (i + 1), ct := Pv (i + 1), bk := D.nx } σ2 H2) (hd : ∀ σ H, Pv xs.length σ H → D.nx σ H) :
    ∃ W : Nat → Nat → St → Hp → Prop, (∃ m, W 0 m σ H) ∧ ∀ i m σ H, W i m σ H →
      ((Itl K a).stop i H ∧ D.nx σ H) ∨ ((Itl K a).go i H ∧ ∃ N : St → Hp → Prop, (∀ σ' H', N σ' H' → ∃ m', m' < m ∧ W (i + 1) m' σ' H') ∧ ∀ x H', (Itl K a).yld i H x H' → g x σ H' fun σ2 H2 => tb { D with nx := N, ct := N, bk := D.nx } σ2 H2) := by
  refine ⟨fun i m σ H => m = xs.length - i ∧ i ≤ xs.length ∧ Pv i σ H, ⟨xs.length, by simp, Nat.zero_le _, h0⟩, ?_⟩
  rintro i m σ H ⟨rfl, hi, p⟩
  have q := hl i σ H hi p
  by_cases hlt : i < xs.length
  · refine .inr ⟨⟨xs, xs[i], q, by simp [hlt]⟩, Pv (i + 1), fun σ' H' p' => ⟨xs.length - (i + 1), by omega, rfl, hlt, p'⟩, fun x H' y => ?_⟩
    obtain ⟨e, y⟩ := y
    subst e
    exact hs i x σ _ (y xs q) p
  · have e : i = xs.length := by omega
    subst e
    exact .inl ⟨⟨xs, q, Nat.le_refl _⟩, hd σ H p⟩
theorem for_range {lo : Int} {n : Nat} {g : TG} {tb : TS} {D : Ends} {σ : St} {H : Hp} (Pv : Nat → St → Hp → Prop) (h0 : Pv 0 σ H)
    (hs : ∀ i σ H, i < n → Pv i σ H → g (.int (lo + i)) σ H fun σ2 H2 => tb { D with nx := Pv (i + 1), ct := Pv (i + 1), bk := D.nx } σ2 H2) (hd : ∀ σ H, Pv n σ H → D.nx σ H) :
    ∃ W : Nat → Nat → St → Hp → Prop, (∃ m, W 0 m σ H) ∧ ∀ i m σ H, W i m σ H →
      ((Itr lo n).stop i H ∧ D.nx σ H) ∨ ((Itr lo n).go i H ∧ ∃ N : St → Hp → Prop, (∀ σ' H', N σ' H' → ∃ m', m' < m ∧ W (i + 1) m' σ' H') ∧ ∀ x H', (Itr lo n).yld i H x H' → g x σ H' fun σ2 H2 => tb { D with nx := N, ct := N, bk := D.nx } σ2 H2) := by
  refine ⟨fun i m σ H => m = n - i ∧ i ≤ n ∧ Pv i σ H, ⟨n, by simp, Nat.zero_le _, h0⟩, ?_⟩
  rintro i m σ H ⟨rfl, hi, p⟩
  by_cases hlt : i < n
  · refine .inr ⟨hlt, Pv (i + 1), fun σ' H' p' => ⟨n - (i + 1), by omega, rfl, hlt, p'⟩, fun x H' y => ?_⟩
    obtain ⟨e, y⟩ := y
    subst e y
    exact hs i σ _ hlt p
  · have e : i = n := by omega
    subst e
    exact .inl ⟨Nat.le_refl _, hd σ H p⟩
end L2

namespace L2
open PySem PySem.Spec PyProof.Rows

abbrev R2 := V → V → Hp → VK → Prop
/-- a two-place operation on values: f is binaryOp op, inplaceOp op or compareOp op -/
def OpR (X : Cx) (f : Value → Value → Sem Value) (r : R2) : Prop :=
  ∀ (pins : List (Addr × Obj)) (s : Shared) (σ : St) (H : Hp) (x y : V) (v u : Value) (Q : VK), Inv X pins σ H s → RelV x v → RelV y u → r x y H Q →
    wpAny (model X.prog X.w) X.A (f v u) (EP X pins σ Q) X.xe s
/-- a one-place operation -/
def UnR (X : Cx) (f : Value → Sem Value) (r : V → Hp → VK → Prop) : Prop :=
  ∀ (pins : List (Addr × Obj)) (s : Shared) (σ : St) (H : Hp) (x : V) (v : Value) (Q : VK), Inv X pins σ H s → RelV x v → r x H Q →
    wpAny (model X.prog X.w) X.A (f v) (EP X pins σ Q) X.xe s
/-- a call of a value that is known (a builtin, a type) with values -/
def CallR (X : Cx) (f : Value) (r : List V → Hp → VK → Prop) : Prop :=
  ∀ (pins : List (Addr × Obj)) (s : Shared) (σ : St) (H : Hp) (xs : List V) (us : List Value) (Q : VK), Inv X pins σ H s → Vals xs us → r xs H Q →
    wpAny (model X.prog X.w) X.A (call f us) (EP X pins σ Q) X.xe s
/-- a value's truth -/
def TruR (X : Cx) (r : V → Hp → (Bool → Hp → Prop) → Prop) : Prop :=
  ∀ (pins : List (Addr × Obj)) (s : Shared) (σ : St) (H : Hp) (x : V) (v : Value) (Q : Bool → Hp → Prop), Inv X pins σ H s → RelV x v → r x H Q →
    wpAny (model X.prog X.w) X.A (truthy v) (TP X pins σ Q) X.xe s

def tOp (r : R2) (ta tb : TE) : TE := fun σ H Q => ta σ H fun x H1 => tb σ H1 fun y H2 => r x y H2 Q
def tUn (r : V → Hp → VK → Prop) (ta : TE) : TE := fun σ H Q => ta σ H fun x H1 => r x H1 Q
/-- ints in, under C, and a value out -/
inductive RII (C : Int → Int → Prop) (g : Int → Int → V) (x : V) (y : V) (H : Hp) (Q : VK) : Prop where
  | mk (i : _) (j : _) (c1 : x = .int i) (c2 : y = .int j) (c3 : C i j) (c4 : Q (g i j) H)
def rI (C : Int → Int → Prop) (g : Int → Int → V) : R2 := fun x y H Q => RII C g x y H Q
inductive RI0I (g : Int → Int → V) (x : V) (y : V) (H : Hp) (Q : VK) : Prop where
  | mk (i : _) (j : _) (c1 : x = .int i) (c2 : y = .int j) (c3 : Q (g i j) H)
def rI0 (g : Int → Int → V) : R2 := fun x y H Q => RI0I g x y H Q
inductive RUI (g : Int → V) (x : V) (H : Hp) (Q : VK) : Prop where
  | mk (i : _) (c1 : x = .int i) (c2 : Q (g i) H)
def rU (g : Int → V) : V → Hp → VK → Prop := fun x H Q => RUI g x H Q

section
variable {X : Cx} {a b c : Expr} {ta tb tc : TE} {pos : Pos}

theorem binT (ha : PE X a ta) (hb : PE X b tb) {pins : List (Addr × Obj)} {s : Shared} {σ : St} {H : Hp} {R : V → V → Hp → Prop} (I : Inv X pins σ H s)
    (h : ta σ H fun x H1 => tb σ H1 fun y H2 => R x y H2) {Q : Value → Shared → Prop} {f : Value → Value → Sem Value}
    (hf : ∀ v u s2 x y H2, Inv X pins σ H2 s2 → RelV x v → RelV y u → R x y H2 → wpAny (model X.prog X.w) X.A (f v u) Q X.xe s2) :
    wpAny (model X.prog X.w) X.A (eval a X.env) (fun v s₁ => wpAny (model X.prog X.w) X.A (eval b X.env) (fun u s₂ => wpAny (model X.prog X.w) X.A (f v u) Q X.xe s₂) X.xe s₁) X.xe s := by
  refine thn (ha pins s σ H _ I h) fun v s1 ⟨x, H1, I1, r1, q1⟩ => ?_
  refine thn (hb pins s1 σ H1 _ I1 q1) fun u s2 ⟨y, H2, I2, r2, q2⟩ => ?_
  exact hf v u s2 x y H2 I2 r1 r2 q2

theorem pe_op {op : Operator} {r : R2} (ho : OpR X (binaryOp op) r) (ha : PE X a ta) (hb : PE X b tb) : PE X (.BinOp a op b pos) (tOp r ta tb) := by
  intro pins s σ H Q I h
  exact wpAny_BinOp (binT ha hb I h fun v u s2 x y H2 I2 rx ry q => ho pins s2 σ H2 x y v u Q I2 rx ry q)
theorem pe_un {op : UnaryOp} {r : V → Hp → VK → Prop} (ho : UnR X (unaryOp op) r) (ha : PE X a ta) : PE X (.UnaryOp op a pos) (tUn r ta) := by
  intro pins s σ H Q I h
  exact UnaryOp_ (thn (ha pins s σ H _ I h) fun v s1 ⟨x, H1, I1, r1, q1⟩ => ho pins s1 σ H1 x v Q I1 r1 q1)

/-! ### ints -/
theorem opI {f : Value → Value → Sem Value} {C : Int → Int → Prop} {g : Int → Int → Int}
    (rule : ∀ (i j : Int) (t u : Tok) (s : Shared) (Q : Value → Shared → Prop) (E : Value → Shared → Prop), C i j → Q (.int (g i j) s.toks) { s with toks := s.toks + 1 } → wpAny (model X.prog X.w) X.A (f (.int i t) (.int j u)) Q E s) :
    OpR X f (rI C fun i j => .int (g i j)) := by
  intro pins s σ H x y v u Q I rx ry h
  obtain ⟨i, j, rfl, rfl, hc, q⟩ := h
  obtain ⟨t, rfl⟩ := rx
  obtain ⟨t', rfl⟩ := ry
  exact rule i j t t' s _ _ hc ⟨.int (g i j), H, I.tok _, ⟨_, rfl⟩, q⟩
theorem opI0 {f : Value → Value → Sem Value} {g : Int → Int → Int}
    (rule : ∀ (i j : Int) (t u : Tok) (s : Shared) (Q : Value → Shared → Prop) (E : Value → Shared → Prop), Q (.int (g i j) s.toks) { s with toks := s.toks + 1 } → wpAny (model X.prog X.w) X.A (f (.int i t) (.int j u)) Q E s) :
    OpR X f (rI0 fun i j => .int (g i j)) := by
  intro pins s σ H x y v u Q I rx ry h
  obtain ⟨i, j, rfl, rfl, q⟩ := h
  obtain ⟨t, rfl⟩ := rx
  obtain ⟨t', rfl⟩ := ry
  exact rule i j t t' s _ _ ⟨.int (g i j), H, I.tok _, ⟨_, rfl⟩, q⟩
theorem opB0 {f : Value → Value → Sem Value} {g : Int → Int → Bool}
    (rule : ∀ (i j : Int) (t u : Tok) (s : Shared) (Q : Value → Shared → Prop) (E : Value → Shared → Prop), Q (.bool (g i j)) s → wpAny (model X.prog X.w) X.A (f (.int i t) (.int j u)) Q E s) :
    OpR X f (rI0 fun i j => .bl (g i j)) := by
  intro pins s σ H x y v u Q I rx ry h
  obtain ⟨i, j, rfl, rfl, q⟩ := h
  obtain ⟨t, rfl⟩ := rx
  obtain ⟨t', rfl⟩ := ry
  exact rule i j t t' s _ _ ⟨.bl (g i j), H, I, rfl, q⟩

def CDiv (i j : Int) : Prop := 0 < j ∧ j < 1073741824
def CPow (i j : Int) : Prop := 0 ≤ j ∧ j ≤ 1000000 ∧ i.natAbs < 2 ^ 64
def CMul (i j : Int) : Prop := (-(2 ^ 64) < i ∧ i < 2 ^ 64) ∨ (-(2 ^ 64) < j ∧ j < 2 ^ 64)
theorem CMul.ok {i j : Int} (h : CMul i j) : IntMulOk i j := by
  rcases h with ⟨h1, h2⟩ | ⟨h1, h2⟩
  · exact .of_left (intBits_le_64 h1 h2)
  · exact .of_right (intBits_le_64 h1 h2)

theorem op_add : OpR X (binaryOp .Add) (rI0 fun i j => .int (i + j)) := opI0 fun _ _ _ _ _ _ _ q => add_int q
theorem op_sub : OpR X (binaryOp .Sub) (rI0 fun i j => .int (i - j)) := opI0 fun _ _ _ _ _ _ _ q => sub_int q
theorem op_mul : OpR X (binaryOp .Mult) (rI CMul fun i j => .int (i * j)) := opI fun _ _ _ _ _ _ _ hc q => mul_int q hc.ok
/-- // by a positive divisor -/
theorem op_fdiv : OpR X (binaryOp .FloorDiv) (rI CDiv fun i j => .int (i / j)) := opI fun i j _ _ _ _ _ hc q => by
  have h1 : (0 : Int) < j := hc.1
  have h2 : j < 1073741824 := hc.2
  exact floordiv_int (by omega) (by rw [Int.fdiv_eq_ediv_of_nonneg i (by omega)]; exact q) (.inl (PyProof.noPylong_small (by omega)))
/-- % by a positive divisor of any size -/
theorem op_mod : OpR X (binaryOp .Mod) (rI (fun _ j => 0 < j) fun i j => .int (i % j)) := opI fun i j _ _ _ _ _ hc q => by
  have h1 : (0 : Int) < j := hc
  exact mod_int' (by omega) (by rw [Int.fmod_eq_emod_of_nonneg i (by omega)]; exact q)
theorem op_pow : OpR X (binaryOp .Pow) (rI CPow fun i j => .int (i ^ j.toNat)) := opI fun _ _ _ _ _ _ _ hc q => pow_int_small hc.1 hc.2.1 hc.2.2 q


theorem unI {f : Value → Sem Value} {g : Int → Int}
    (rule : ∀ (i : Int) (t : Tok) (s : Shared) (Q : Value → Shared → Prop) (E : Value → Shared → Prop), Q (.int (g i) s.toks) { s with toks := s.toks + 1 } → wpAny (model X.prog X.w) X.A (f (.int i t)) Q E s) :
    UnR X f (rU fun i => .int (g i)) := by
  intro pins s σ H x v Q I rx h
  obtain ⟨i, rfl, q⟩ := h
  obtain ⟨t, rfl⟩ := rx
  exact rule i t s _ _ ⟨.int (g i), H, I.tok _, ⟨_, rfl⟩, q⟩
theorem un_neg : UnR X (unaryOp .USub) (rU fun i => .int (-i)) := unI fun _ _ _ _ _ q => neg_int q

/-! ### bools among ints: n += (a < b) -/
end

/-! ### comparisons -/
/-- the scalars that == tells apart as data does -/
def scal : V → V → Bool
  | .non, .non => true | .non, .int _ => true | .int _, .non => true | .non, .bl _ => true | .bl _, .non => true | .non, .str _ => true | .str _, .non => true
  | .int _, .int _ => true | .bl _, .bl _ => true | .str _, .str _ => true | .byt _, .byt _ => true
  | .int _, .str _ => true | .str _, .int _ => true | .bl _, .str _ => true | .str _, .bl _ => true
  | _, _ => false
inductive REqI (x : V) (y : V) (H : Hp) (Q : VK) : Prop where
  | mk (c1 : scal x y = true) (c2 : Q (.bl (decide (x = y))) H)
def rEq : R2 := fun x y H Q => REqI x y H Q
inductive RNeI (x : V) (y : V) (H : Hp) (Q : VK) : Prop where
  | mk (c1 : scal x y = true) (c2 : Q (.bl (!decide (x = y))) H)
def rNe : R2 := fun x y H Q => RNeI x y H Q

theorem dec_int {i j : Int} : decide (V.int i = V.int j) = (i == j) := by
  rw [Bool.eq_iff_iff]
  simp
theorem dec_bl {i j : Bool} : decide (V.bl i = V.bl j) = (i == j) := by
  rw [Bool.eq_iff_iff]
  simp
theorem dec_str {i j : Str} : decide (V.str i = V.str j) = (i == j) := by
  rw [Bool.eq_iff_iff]
  simp
theorem dec_byt {i j : Array UInt8} : decide (V.byt i = V.byt j) = (i.toList == j.toList) := by
  rw [Bool.eq_iff_iff]
  cases i
  cases j
  simp

section
variable {X : Cx} {a b c : Expr} {ta tb tc : TE} {pos : Pos}
theorem fin_bl {pins : List (Addr × Obj)} {σ : St} {H : Hp} {s : Shared} {Q : VK} {k k' : Bool} (I : Inv X pins σ H s) (q : Q (.bl k) H) (e : k = k') : EP X pins σ Q (.bool k') s := by
  subst e
  exact ⟨.bl k, H, I, rfl, q⟩
theorem op_eq : OpR X (compareOp .Eq) rEq := by
  intro pins s σ H x y v u Q I rx ry h
  obtain ⟨hs, q⟩ := h
  cases x with
  | non =>
    cases rx
    cases y with
    | non => cases ry; exact PySem.EqNone.eq_none_none (fin_bl I q (by simp))
    | bl j => cases ry; exact PySem.EqNone.eq_none_bool (fin_bl I q (by simp))
    | int j => obtain ⟨t', rfl⟩ := ry; exact PySem.EqNone.eq_none_int (fin_bl I q (by simp))
    | str j => obtain ⟨t', rfl⟩ := ry; exact PySem.EqNone.eq_none_str (fin_bl I q (by simp))
    | _ => exact absurd (show false = true from hs) Bool.false_ne_true
  | bl i =>
    cases rx
    cases y with
    | non => cases ry; exact PySem.EqNone.eq_bool_none (fin_bl I q (by simp))
    | bl j => cases ry; exact eq_bool (fin_bl I q dec_bl)
    | str j => obtain ⟨t', rfl⟩ := ry; exact PySem.EqMixed.eq_bool_str (fin_bl I q (by simp))
    | _ => exact absurd (show false = true from hs) Bool.false_ne_true
  | int i =>
    obtain ⟨t, rfl⟩ := rx
    cases y with
    | non => cases ry; exact PySem.EqNone.eq_int_none (fin_bl I q (by simp))
    | int j => obtain ⟨t', rfl⟩ := ry; exact eq_int (fin_bl I q dec_int)
    | str j => obtain ⟨t', rfl⟩ := ry; exact PySem.EqMixed.eq_int_str (fin_bl I q (by simp))
    | _ => exact absurd (show false = true from hs) Bool.false_ne_true
  | str i =>
    obtain ⟨t, rfl⟩ := rx
    cases y with
    | non => cases ry; exact PySem.EqNone.eq_str_none (fin_bl I q (by simp))
    | bl j => cases ry; exact PySem.EqMixed.eq_str_bool (fin_bl I q (by simp))
    | int j => obtain ⟨t', rfl⟩ := ry; exact PySem.EqMixed.eq_str_int (fin_bl I q (by simp))
    | str j => obtain ⟨t', rfl⟩ := ry; exact eq_str (fin_bl I q dec_str)
    | _ => exact absurd (show false = true from hs) Bool.false_ne_true
  | byt i =>
    obtain ⟨t, rfl⟩ := rx
    cases y with
    | byt j => obtain ⟨t', rfl⟩ := ry; exact PySem.W.eq_bytes (fin_bl I q dec_byt)
    | _ => exact absurd (show false = true from hs) Bool.false_ne_true
  | _ => cases y <;> exact absurd (show false = true from hs) Bool.false_ne_true
theorem op_ne : OpR X (compareOp .NotEq) rNe := by
  intro pins s σ H x y v u Q I rx ry h
  obtain ⟨hs, q⟩ := h
  cases x with
  | non =>
    cases rx
    cases y with
    | non => cases ry; exact PySem.EqNone.ne_none_none (fin_bl I q (by simp))
    | bl j => cases ry; exact PySem.EqNone.ne_none_bool (fin_bl I q (by simp))
    | int j => obtain ⟨t', rfl⟩ := ry; exact PySem.EqNone.ne_none_int (fin_bl I q (by simp))
    | str j => obtain ⟨t', rfl⟩ := ry; exact PySem.EqNone.ne_none_str (fin_bl I q (by simp))
    | _ => exact absurd (show false = true from hs) Bool.false_ne_true
  | bl i =>
    cases rx
    cases y with
    | non => cases ry; exact PySem.EqNone.ne_bool_none (fin_bl I q (by simp))
    | bl j => cases ry; exact ne_bool (fin_bl I q (congrArg not dec_bl))
    | str j => obtain ⟨t', rfl⟩ := ry; exact PySem.EqMixed.ne_bool_str (fin_bl I q (by simp))
    | _ => exact absurd (show false = true from hs) Bool.false_ne_true
  | int i =>
    obtain ⟨t, rfl⟩ := rx
    cases y with
    | non => cases ry; exact PySem.EqNone.ne_int_none (fin_bl I q (by simp))
    | int j => obtain ⟨t', rfl⟩ := ry; exact ne_int (fin_bl I q (congrArg not dec_int))
    | str j => obtain ⟨t', rfl⟩ := ry; exact PySem.EqMixed.ne_int_str (fin_bl I q (by simp))
    | _ => exact absurd (show false = true from hs) Bool.false_ne_true
  | str i =>
    obtain ⟨t, rfl⟩ := rx
    cases y with
    | non => cases ry; exact PySem.EqNone.ne_str_none (fin_bl I q (by simp))
    | bl j => cases ry; exact PySem.EqMixed.ne_str_bool (fin_bl I q (by simp))
    | int j => obtain ⟨t', rfl⟩ := ry; exact PySem.EqMixed.ne_str_int (fin_bl I q (by simp))
    | str j => obtain ⟨t', rfl⟩ := ry; exact ne_str (fin_bl I q (congrArg not dec_str))
    | _ => exact absurd (show false = true from hs) Bool.false_ne_true
  | byt i =>
    obtain ⟨t, rfl⟩ := rx
    cases y with
    | byt j => obtain ⟨t', rfl⟩ := ry; exact PySem.W.ne_bytes (fin_bl I q (congrArg not dec_byt))
    | _ => exact absurd (show false = true from hs) Bool.false_ne_true
  | _ => cases y <;> exact absurd (show false = true from hs) Bool.false_ne_true

theorem op_lt : OpR X (compareOp .Lt) (rI0 fun i j => .bl (decide (i < j))) := opB0 fun _ _ _ _ _ _ _ q => lt_int q
theorem op_gt : OpR X (compareOp .Gt) (rI0 fun i j => .bl (decide (j < i))) := opB0 fun _ _ _ _ _ _ _ q => gt_int q
theorem op_ge : OpR X (compareOp .GtE) (rI0 fun i j => .bl (decide (j ≤ i))) := opB0 fun _ _ _ _ _ _ _ q => ge_int q

theorem op_notN : OpR X (compareOp .IsNot) (fun x y H Q => y = .non ∧ Q (.bl (!decide (x = .non))) H) := by
  intro pins s σ H x y v u Q I rx ry h
  obtain ⟨rfl, q⟩ := h
  cases ry
  refine isnot_none_gen (fin_bl I q ?_)
  cases x <;> first
    | (cases rx; rfl)
    | (obtain ⟨t, rfl⟩ := rx; rfl)

theorem op_notin_str : OpR X (compareOp .NotIn) (fun x y H Q => ∃ i j, x = .str i ∧ y = .str j ∧ Q (.bl (!(!(Builtin.Str.occurrences j i 0 j.length 1).isEmpty))) H) := by
  intro pins s σ H x y v u Q I rx ry h
  obtain ⟨i, j, rfl, rfl, q⟩ := h
  obtain ⟨t, rfl⟩ := rx
  obtain ⟨t', rfl⟩ := ry
  exact notIn_str (fin_bl I q rfl)

/-- two rules for one operation: by cases -/
theorem OpR.or {f : Value → Value → Sem Value} {r r' : R2} (h : OpR X f r) (h' : OpR X f r') : OpR X f (fun x y H Q => r x y H Q ∨ r' x y H Q) := by
  intro pins s σ H x y v u Q I rx ry q
  rcases q with q | q
  · exact h pins s σ H x y v u Q I rx ry q
  · exact h' pins s σ H x y v u Q I rx ry q

theorem nomark (b : Expr) {op : CmpOp} (h : op ≠ .In := by decide) (h2 : op ≠ .NotIn := by decide) : behindInMarks op b = false := by
  have e1 : (op == CmpOp.In) = false := by cases op <;> first | rfl | exact absurd rfl h
  have e2 : (op == CmpOp.NotIn) = false := by cases op <;> first | rfl | exact absurd rfl h2
  cases b <;> simp [behindInMarks, e1, e2]
/-- a comparison as a value; hm: nomark b, or (for in, not in) by with_unfolding_all rfl -/
theorem pe_cmpR {op : CmpOp} {r : R2} (ho : OpR X (compareOp op) r) (ha : PE X a ta) (hb : PE X b tb) (hm : behindInMarks op b = false) : PE X (.Compare a [op] [b] pos) (tOp r ta tb) := by
  intro pins s σ H Q I h
  exact wpAny_Compare1 (binT ha hb I h fun v u s2 x y H2 I2 rx ry q => ho pins s2 σ H2 x y v u Q I2 rx ry q) hm
/-- a reading of a value as a test -/
inductive TTestI (x : V) (H' : Hp) (Q : Bool → Hp → Prop) : Prop where
  | mk (k : _) (c1 : x = .bl k) (c2 : Q k H')
def tTest (t : TE) : TT := fun σ H Q => t σ H fun x H' => TTestI x H' Q
theorem pt_cmpR {op : CmpOp} {r : R2} (ho : OpR X (compareOp op) r) (ha : PE X a ta) (hb : PE X b tb) (hm : behindInMarks op b = false) : PT X (.Compare a [op] [b] pos) (tTest (tOp r ta tb)) := by
  intro pins s σ H Q I h
  refine wpAny_isTrue_Compare1 (thn (ha pins s σ H _ I h) fun v s1 ⟨x, H1, I1, r1, q1⟩ => thn (hb pins s1 σ H1 _ I1 q1) fun u s2 ⟨y, H2, I2, r2, q2⟩ =>
    thn (ho pins s2 σ H2 x y v u _ I2 r1 r2 q2) fun c s3 ⟨z, H3, I3, r3, k, e, q3⟩ => ?_) hm
  subst e
  cases r3
  exact wpAny_truthy_bool ⟨H3, I3, q3⟩

/-! ### truth -/
/-- a value's truth by the abstract heap -/
def TruV (K : PySem.W.Frag) (x : V) (H : Hp) (k : Bool) : Prop :=
  match x with
  | .non => k = false
  | .bl b => k = b
  | .int i => k = (i != 0)
  | .str y => y.length ≤ sizeLine ∧ k = ((y.length : Int) != 0)
  | .byt y => y.size ≤ sizeLine ∧ k = ((y.size : Int) != 0)
  | .ref p => (∃ xs, SqL K H p xs ∧ k = !xs.isEmpty) ∨ (∃ xs, SqT K H p xs ∧ k = !xs.isEmpty) ∨ ∃ kvs, H p = some (.dK kvs) ∧ k = !kvs.isEmpty
  | _ => False
theorem isEmpty_kv {κ : Type} {kvs : List (κ × V)} {vs : List (κ × Value)} (r : KV kvs vs) : (!vs.isEmpty) = !kvs.isEmpty := by
  cases r <;> rfl
theorem isEmpty_of {xs : List V} {its : List Value} (r : Vals xs its) : (!its.toArray.isEmpty) = !xs.isEmpty := by
  cases r <;> simp
theorem line63 : (sizeLine : Nat) < 2 ^ 63 := by rw [sizeLine_eq]; decide
theorem tru_ok : TruR X (fun x H Q => ∃ k, TruV X.K x H k ∧ Q k H) := by
  intro pins s σ H x v Q I rx h
  obtain ⟨k, e, q⟩ := h
  have hl := line63
  have hs : sizeLine = 16777216 := sizeLine_eq
  cases x with
  | non =>
    cases rx
    have e' : k = false := e
    subst e'
    exact truthy_none ⟨H, I, q⟩
  | bl b =>
    cases rx
    have e' : k = b := e
    subst e'
    exact wpAny_truthy_bool ⟨H, I, q⟩
  | int i =>
    obtain ⟨t, rfl⟩ := rx
    have e' : k = (i != 0) := e
    subst e'
    exact PySem.P.truthy_int ⟨H, I, q⟩
  | str y =>
    obtain ⟨t, rfl⟩ := rx
    obtain ⟨hy, e'⟩ : y.length ≤ sizeLine ∧ k = ((y.length : Int) != 0) := e
    subst e'
    exact PySem.P.truthy_str (by omega) ⟨H, I.tok _, q⟩
  | byt y =>
    obtain ⟨t, rfl⟩ := rx
    obtain ⟨hy, e'⟩ : y.size ≤ sizeLine ∧ k = ((y.size : Int) != 0) := e
    subst e'
    exact PySem.W.truthy_bytes (by omega) ⟨H, I.tok _, q⟩
  | ref p =>
    cases rx
    have e' : (∃ xs, SqL X.K H p xs ∧ k = !xs.isEmpty) ∨ (∃ xs, SqT X.K H p xs ∧ k = !xs.isEmpty) ∨ ∃ kvs, H p = some (.dK kvs) ∧ k = !kvs.isEmpty := e
    rcases e' with ⟨xs, hx, e'⟩ | ⟨xs, hx, e'⟩ | ⟨kvs, hx, e'⟩
    · subst e'
      obtain ⟨its, r, pl, hz⟩ := I.list hx
      have hlen := r.length
      exact wpAny_truthy_list pl.isList (by simp only [List.size_toArray]; omega) ⟨H, I.tok _, by rw [isEmpty_of r]; exact q⟩
    · subst e'
      obtain ⟨its, r, pl, hz⟩ := I.tuple hx
      have hlen := r.length
      exact truthy_tuple pl (by simp only [List.size_toArray]; omega) ⟨H, I.tok _, by rw [isEmpty_of r]; exact q⟩
    · subst e'
      obtain ⟨hz, hS, vs, r, m⟩ : kvs.length ≤ sizeLine ∧ (p == sysModules) = false ∧ ∃ vs, KV kvs vs ∧ s.heap.DictOf (mixKind X.prog X.w) p vs := I.hok p _ hx
      have hlen : kvs.length = vs.length := Paired.length r
      exact wpAny_truthy_dict hS m (by omega) ⟨H, I.tok _, by rw [isEmpty_kv r]; exact q⟩
  | _ => exact (show False from e).elim
/-- any expression whose test is its value's truth (a name, a call, a subscript, a field ..: he by fun _ => rfl) -/
theorem pt_truth (ha : PE X a ta) (he : ∀ whole, isTrue a X.env whole = (do let v ← whole; standAt a.pos; holding [v] (truthy v))) :
    PT X a (fun σ H Q => ta σ H fun x H' => ∃ k, TruV X.K x H' k ∧ Q k H') := by
  intro pins s σ H Q I h
  exact isTrue_plain (thn (ha pins s σ H _ I h) fun v s1 ⟨x, H1, I1, r1, q1⟩ => tru_ok pins s1 σ H1 x v Q I1 r1 q1) (he _)

/-! ### strs and bytes -/
theorem op_add_str : OpR X (binaryOp .Add) (fun x y H Q => ∃ i j, x = .str i ∧ y = .str j ∧ i.length + j.length ≤ sizeLine ∧ Q (.str (i ++ j)) H) := by
  intro pins s σ H x y v u Q I rx ry h
  obtain ⟨i, j, rfl, rfl, hz, q⟩ := h
  obtain ⟨t, rfl⟩ := rx
  obtain ⟨t', rfl⟩ := ry
  exact add_str (fun t' tk => ⟨.str (i ++ j), H, I.tok _, ⟨_, rfl⟩, q⟩) hz


/-! ### scalar builtins, by CallR -/
theorem vals1 {x : V} {us : List Value} (r : Vals [x] us) : ∃ u, us = [u] ∧ RelV x u := by
  cases r with
  | cons r1 r2 => cases r2; exact ⟨_, rfl, r1⟩
theorem vals2 {x y : V} {us : List Value} (r : Vals [x, y] us) : ∃ u w', us = [u, w'] ∧ RelV x u ∧ RelV y w' := by
  cases r with
  | cons r1 r2 =>
    cases r2 with
    | cons r3 r4 => cases r4; exact ⟨_, _, rfl, r1, r3⟩
theorem call_abs : CallR X (.builtin "abs") (fun xs H Q => ∃ i, xs = [.int i] ∧ Q (.int (if i < 0 then -i else i)) H) := by
  intro pins s σ H xs us Q I r h
  obtain ⟨i, rfl, q⟩ := h
  obtain ⟨u, rfl, t, rfl⟩ := vals1 r
  exact call_abs_int fun u tk => ⟨.int (if i < 0 then -i else i), H, I.tok _, ⟨_, rfl⟩, q⟩
theorem call_int1 : CallR X (.type "int") (fun xs H Q => (∃ i, xs = [.int i] ∧ Q (.int i) H) ∨ ∃ k, xs = [.bl k] ∧ Q (.int (if k then 1 else 0)) H) := by
  intro pins s σ H xs us Q I r h
  rcases h with ⟨i, rfl, q⟩ | ⟨k, rfl, q⟩
  · obtain ⟨u, rfl, t, rfl⟩ := vals1 r
    exact call_int_int ⟨.int i, H, I, ⟨_, rfl⟩, q⟩
  · obtain ⟨u, rfl, r1⟩ := vals1 r
    cases r1
    exact call_int_bool ⟨.int (if k then 1 else 0), H, I.tok _, ⟨_, rfl⟩, q⟩
end
end L2

namespace L2
open PySem PySem.Spec PyProof.Rows

/-! ### an instance, its attributes a map -/
structure ObjM (h : Heap) (x dx C : Addr) (mA : Str → Option Value) : Prop where
  obj : h.get? x = some (PySem.W.instObj C dx)
  ns : h.Ns1 dx mA
  ne : dx ≠ x

theorem lookIn_ns {h : Heap} {dx : Addr} {mA : Str → Option Value} (n : h.Ns1 dx mA) : ∃ od, h.get? dx = some od ∧ ∀ name, PySem.W.lookIn name od = some (mA name) := by
  obtain ⟨o, es, ep, ho, hd, hk, _, hm⟩ := n
  refine ⟨o, ho, fun name => ?_⟩
  have e := hm name
  unfold nsFind findBy at e
  rw [← Array.find?_toList] at e
  unfold PySem.W.lookIn
  rw [hd]
  dsimp only
  split
  · rename_i y q
    rw [q] at e
    exact congrArg some e
  · rename_i q
    rw [q] at e
    have a : es.toList.any (·.refKey) = false := by
      rw [List.any_eq_false]
      intro y hy
      obtain ⟨z, t, hkey⟩ := hk y (Array.mem_toList_iff.mp hy)
      simp [DictEntry.refKey, hkey]
    have a' : ¬ es.toList.any (·.refKey) = true := by rw [a]; exact Bool.false_ne_true
    rw [if_neg a']
    exact congrArg some e

theorem ObjM.look {h : Heap} {x dx C : Addr} {mA : Str → Option Value} (I : ObjM h x dx C mA) : ∃ od, PySem.W.InstAt h x (PySem.W.instObj C dx) C (some od) ∧ ∀ name, PySem.W.lookIn name od = some (mA name) :=
  let ⟨od, ho, hl⟩ := lookIn_ns I.ns
  ⟨od, ⟨I.obj, rfl, rfl, ho⟩, hl⟩

section
variable {prog : Program} {w : World} {A : Around} {E : Value → Shared → Prop} {s : Shared} {K : PySem.W.Frag} {x dx C f : Addr} {mA : Str → Option Value} {name : Str} {v : Value}



theorem get_meth {pl : Sem Bool} {Q : Value × List Value → Shared → Prop} (X : K.In s.heap) (I : ObjM s.heap x dx C mA) (hg : PySem.W.plainGet K C name = true)
    (hf : PySem.W.findIn K (.ref C) name = some (some (.ref f))) (ht : PySem.W.isFn K (.ref f) = true) (hv : mA name = none) (h : Q (.ref f, [.ref x]) s) :
    wpAny (model prog w) A (getMethod (.ref x) name pl) Q E s := by
  obtain ⟨od, J, hl⟩ := I.look
  exact PySem.W.method_fn X J (PySem.W.plainGet_of hg).1 (PySem.W.plainGet_of hg).2 hf (beq_iff_eq.mp ht) (by show (PySem.W.lookIn name od).map (·.isSome) = some false; rw [hl, hv]; rfl) h


/-- C(..): the dict at the heap's end, the instance behind it; then its __init__ -/
theorem make_map {R : Result → Shared → Prop} {vs : List Value} {kw : List (Str × Value)} (X : K.In s.heap) (hm : PySem.W.makesIn K C = true)
    (hi : PySem.W.findIn K (.ref C) "__init__" = some (some (.ref f))) (hf : PySem.W.typeIn K (.ref f) = some (.type "function"))
    (h : codeAny (model prog w) (A.under (.builtin "type.__call__" ⟨.ref C :: vs, kw⟩)) (.call (.ref f) ⟨.ref (s.heap.objs.size + 1) :: vs, kw⟩) (PySem.W.InitBack (s.heap.objs.size + 1) R)
      { s with heap := (s.heap.push PySem.W.emptyDict).push (PySem.W.instObj C s.heap.objs.size) }) :
    codeAny (model prog w) A (.call (.ref C) ⟨vs, kw⟩) R s := by
  obtain ⟨hh, g, d, t, os⟩ := s
  exact PySem.W.make_core (PySem.W.makes_of X hm) (PySem.W.looks_findIn X hi) (fun self => PySem.W.bind_fn X self hf) (.inl rfl) h
end

/-! ### the attributes as a list of pairs -/

theorem RelO.none_of {o : Option Value} (r : RelO none o) : o = none := by
  cases o with
  | none => rfl
  | some u => exact (show False from r).elim

section
variable {P : Program} {w : World} {H H' : Hp} {h h' : Heap} {a C dx : Addr} {fs fs' : List (Str × V)}
theorem ins_get (hok : HOk P w H h) (e : H a = some (.ins C dx fs)) : ∃ mA, ObjM h a dx C mA ∧ (∀ f, RelO (fs.lookup f) (mA f)) ∧ PySem.Within mA (fs.map (·.1)) ∧ fs.length ≤ 1000 ∧ H dx = some (.own a) := by
  obtain ⟨d, z, ne, ob, mA, n, r, q⟩ := (show ObjOk P w H h a (.ins C dx fs) from hok a _ e)
  exact ⟨mA, ⟨ob, n, ne⟩, r, q, z, d⟩
end

/-! ### what of the text a class must have -/
structure Cls (K : PySem.W.Frag) (C : Addr) : Prop where
  pg : PySem.W.plainGet K C Str.empty = true
  hd : PySem.W.hasDictIn K C = true
  po : PySem.W.plainOver K C = true
  sa : PySem.W.findIn K (.ref C) "__setattr__" = some (some (.builtin "object.__setattr__"))
theorem Cls.get {K : PySem.W.Frag} {C : Addr} (c : Cls K C) (f : Str) : PySem.W.plainGet K C f = true := c.pg
/-- no class of it has the name -/
def NoAttr (K : PySem.W.Frag) (C : Addr) (f : Str) : Prop := PySem.W.findIn K (.ref C) f = some none
/-- a method: a plain def of the class or of one above it -/
structure Meth (K : PySem.W.Frag) (C : Addr) (m : Str) (f : Addr) : Prop where
  at_ : PySem.W.findIn K (.ref C) m = some (some (.ref f))
  fn : PySem.W.isFn K (.ref f) = true
  kp : PySem.W.keepIn K (.ref f) = true

section
variable {X : Cx} {pins : List (Addr × Obj)} {σ : St} {H : Hp} {s : Shared} {a C dx : Addr} {fs : List (Str × V)} {f : Str} {v : V} {A : Around} {E : Value → Shared → Prop}



theorem getmeth_ok {m : Str} {g : Addr} {pl : Sem Bool} {Q : Value × List Value → Shared → Prop} (I : Inv X pins σ H s) (e : H a = some (.ins C dx fs)) (c : Cls X.K C) (k : Meth X.K C m g) (l : fs.lookup m = none)
    (h : Q (.ref g, [.ref a]) s) : wpAny (model X.prog X.w) A (getMethod (.ref a) m pl) Q E s := by
  obtain ⟨mA, O, r, _, _, _⟩ := ins_get I.hok e
  have hn : mA m = none := RelO.none_of (by rw [← l]; exact r m)
  exact get_meth I.kIn O (c.get m) k.at_ k.fn hn h


/-- a new instance, tracked, without attributes -/
theorem Inv.made (I : Inv X pins σ H s) : Inv X pins σ (upd (upd H s.heap.objs.size (.own (s.heap.objs.size + 1))) (s.heap.objs.size + 1) (.ins C s.heap.objs.size []))
    { s with heap := (s.heap.push PySem.W.emptyDict).push (PySem.W.instObj C s.heap.objs.size) } := by
  have e1 : (s.heap.push PySem.W.emptyDict).get? s.heap.objs.size = some PySem.W.emptyDict := Heap.get?_push_size s.heap rfl
  have e2 : ((s.heap.push PySem.W.emptyDict).push (PySem.W.instObj C s.heap.objs.size)).get? (s.heap.objs.size + 1) = some (PySem.W.instObj C s.heap.objs.size) := by
    have := Heap.get?_push_size (s.heap.push PySem.W.emptyDict) (o := PySem.W.instObj C s.heap.objs.size) rfl
    rwa [Heap.size_push] at this
  have e3 : (s.heap.push PySem.W.emptyDict).Ns s.heap.objs.size (fun _ => none) := ⟨PySem.W.emptyDict, #[], _, e1, rfl, (fun e he => absurd he (by simp)), fun _ => rfl⟩
  have I1 := I.laid (a := s.heap.objs.size) (o := .own (s.heap.objs.size + 1)) (h' := s.heap.push PySem.W.emptyDict) (t' := s.toks) (fun b u q => Heap.get?_push_of_some _ q) (Nat.le_refl _) ⟨_, e1⟩
  refine I1.laid (a := s.heap.objs.size + 1) (o := .ins C s.heap.objs.size []) (t' := s.toks) (fun b u q => Heap.get?_push_of_some _ q) (Nat.le_of_eq (Heap.size_push _ _)) ?_
  have ne : s.heap.objs.size ≠ s.heap.objs.size + 1 := Nat.ne_of_lt (Nat.lt_succ_self _)
  refine ⟨by rw [upd_ne ne, upd_same], Nat.zero_le _, ne, e2, fun _ => none, (Heap.Ns1.of_empty e3).at fun o q => Heap.get?_push_of_some _ q, fun _ => True.intro, fun y hy => absurd rfl hy⟩

end

/-! ### readings and rules -/
/-- e.f, an attribute of the instance -/
inductive TFldI (K : PySem.W.Frag) (f : Str) (x : V) (H1 : Hp) (Q : VK) : Prop where
  | mk (a : _) (C : _) (dx : _) (fs : _) (v : _) (c1 : x = .ref a) (c2 : H1 a = some (.ins C dx fs)) (c3 : Cls K C) (c4 : NoAttr K C f) (c5 : fs.lookup f = some v) (c6 : Q v H1)

section
variable {X : Cx} {o e value : Expr} {f : Str} {pos pos' tpos : Pos} {ta tv : TE}

/-- what is between an instance and its method: the tree of a method call -/
theorem methcall_of {pl : Sem Bool} {m : Str} {apos : Pos} {args : List Expr} {pins : List (Addr × Obj)} {s : Shared} {σ : St} {H : Hp} {Q : Value → Shared → Prop} {te : TE} (he : PE X e te) (I : Inv X pins σ H s)
    (h : te σ H fun x H1 => ∃ a C dx fs g, x = .ref a ∧ H1 a = some (.ins C dx fs) ∧ Cls X.K C ∧ Meth X.K C m g ∧ fs.lookup m = none ∧
      ∀ s1, Inv X pins σ H1 s1 → wpAny (model X.prog X.w) X.A (callWith pos (.ref g) [.ref a] (backTo pos (starEach args X.env)) (backToKw pos (keywordEach [] X.env))) Q X.xe s1)
    (ht : eval (.Call (.Attribute e m apos) args [] pos) X.env = (do
      let ov ← eval e X.env
      standAt apos.atName
      let (f, first) ← holding [ov] (getMethod ov m pl)
      callWith pos f first (backTo pos (starEach args X.env)) (backToKw pos (keywordEach [] X.env)))) :
    wpAny (model X.prog X.w) X.A (eval (.Call (.Attribute e m apos) args [] pos) X.env) Q X.xe s := by
  refine PySem.W.methodCall_KW (pl := pl) (thn (he pins s σ H _ I h) fun u s1 ⟨x, H1, I1, rx, a, C, dx, fs, g, ex, ea, c, k, l, q⟩ => ?_) ht
  subst ex
  obtain rfl : u = Value.ref a := rx
  exact getmeth_ok I1 ea c k l (q s1 I1)
end

/-! ### isinstance -/
section
variable {X : Cx} {pins : List (Addr × Obj)} {σ : St} {H : Hp} {s : Shared} {A : Around} {E : Value → Shared → Prop} {Q : Value → Shared → Prop} {c : Value} {b : Bool}
/-- the type of a value, as the fragment's deciders take it; for an instance its class -/
inductive TyOf (K : PySem.W.Frag) (H : Hp) : V → Value → Prop where
  | non : TyOf K H .non (.type "NoneType")
  | bl (x : Bool) : TyOf K H (.bl x) (.type "bool")
  | int (i : Int) : TyOf K H (.int i) (.type "int")
  | str (x : Str) : TyOf K H (.str x) (.type "str")
  | flt (x : UInt64) : TyOf K H (.flt x) (.type "float")
  | lst {a : Addr} {xs : List V} (e : H a = some (.lst xs)) : TyOf K H (.ref a) (.type "list")
  | frz {a : Addr} {o : Obj} {xs : List V} (e : H a = some (.frz o (.lst xs))) : TyOf K H (.ref a) (.type "list")
  | tup {a : Addr} {xs : List V} (e : H a = some (.tup xs)) : TyOf K H (.ref a) (.type "tuple")
  | dK {a : Addr} {kvs : List (Key × V)} (e : H a = some (.dK kvs)) : TyOf K H (.ref a) (.type "dict")
  | dT {a : Addr} {kvs : List (List Key × V)} (e : H a = some (.dT kvs)) : TyOf K H (.ref a) (.type "dict")
  | ins {a C dx : Addr} {fs : List (Str × V)} (e : H a = some (.ins C dx fs)) (cl : Cls K C) (ha : PySem.W.findIn K (.ref C) "__class__" = some (some (.builtin "object.__class__")))
      (hn : PySem.W.specialIn K (.builtin "object.__class__") "__get__" = some (some (.builtin "getset_descriptor.__get__"))) (htk : PySem.W.takesIn K (.builtin "object.__class__") = some true)
      (hm : PySem.W.mroIn K C (.type "object") = some true) : TyOf K H (.ref a) (.ref C)
/-- isinstance(x, c) for one class c, a built-in or an own one: kitOne's answer -/
theorem isinst_ok {x : V} {u t : Value} (I : Inv X pins σ H s) (rx : RelV x u) (ty : TyOf X.K H x t) (e : PySem.W.kitOne X.K t c = some b) (h : ∀ tk, Q (.bool b) { s with toks := tk }) :
    wpAny (model X.prog X.w) A (call (.builtin "isinstance") [u, c]) Q E s := by
  cases ty with
  | non => cases (show u = Value.none from rx); exact PySem.W.kia_one PySem.W.kitx_none I.kIn True.intro e (fun z => nomatch z) h
  | bl y => cases (show u = Value.bool y from rx); exact PySem.W.kia_one PySem.W.kitx_bool I.kIn True.intro e (fun z => nomatch z) h
  | int i => obtain ⟨t, q⟩ := (show ∃ t, u = Value.int i t from rx); cases q; exact PySem.W.kia_one PySem.W.kitx_int I.kIn True.intro e (fun z => nomatch z) h
  | str y => obtain ⟨t, q⟩ := (show ∃ t, u = Value.str y t from rx); cases q; exact PySem.W.kia_one PySem.W.kitx_str I.kIn True.intro e (fun z => nomatch z) h
  | flt y => obtain ⟨t, q⟩ := (show ∃ t, u = Value.float y t from rx); cases q; exact PySem.W.kia_one PySem.W.kitx_float I.kIn True.intro e (fun z => nomatch z) h
  | @lst a xs ea =>
    cases (show u = Value.ref a from rx)
    obtain ⟨_, _, n, _, h1⟩ := (show ObjOk X.prog X.w H s.heap a (.lst xs) from I.hok a _ ea)
    exact PySem.W.kia_one PySem.W.kitx_list I.kIn ⟨_, h1, rfl⟩ e (fun z => nomatch z) h
  | @frz a ob xs ea =>
    cases (show u = Value.ref a from rx)
    obtain ⟨_, _, _, n, _, h1⟩ := (show ObjOk X.prog X.w H s.heap a (.frz ob (.lst xs)) from I.hok a _ ea)
    exact PySem.W.kia_one PySem.W.kitx_list I.kIn ⟨_, h1, rfl⟩ e (fun z => nomatch z) h
  | @tup a xs ea =>
    cases (show u = Value.ref a from rx)
    obtain ⟨_, _, _, p⟩ := (show ObjOk X.prog X.w H s.heap a (.tup xs) from I.hok a _ ea)
    obtain ⟨o, h1, h2, _⟩ := p
    exact PySem.W.kia_one PySem.W.kitx_tuple I.kIn ⟨o, h1, h2⟩ e (fun z => nomatch z) h
  | @dK a kvs ea =>
    cases (show u = Value.ref a from rx)
    obtain ⟨_, _, vs, _, p⟩ := (show ObjOk X.prog X.w H s.heap a (.dK kvs) from I.hok a _ ea)
    obtain ⟨o, es, ep, h1, h2, _⟩ := p
    exact PySem.W.kia_one PySem.W.kitx_dict I.kIn ⟨o, h1, h2.1⟩ e (fun z => nomatch z) h
  | @dT a kvs ea =>
    cases (show u = Value.ref a from rx)
    obtain ⟨_, _, xs, _, o, es, ep, h1, h2, _⟩ := (show ObjOk X.prog X.w H s.heap a (.dT kvs) from I.hok a _ ea)
    exact PySem.W.kia_one PySem.W.kitx_dict I.kIn ⟨o, h1, h2.1⟩ e (fun z => nomatch z) h
  | @ins a C dx fs ea cl ha hn htk hm =>
    cases (show u = Value.ref a from rx)
    obtain ⟨mA, O, _⟩ := ins_get I.hok ea
    obtain ⟨od, J, _⟩ := O.look
    exact PySem.W.kia_one (PySem.W.kitx_own (cl.get _) cl.hd ha hn htk hm) I.kIn J e (fun z => nomatch z) h
end
end L2

namespace L2
open PySem PySem.Spec PyProof.Rows

/-! ### room -/
structure Room (k : Nat) (A : Around) : Prop where
  hd : A.handled = none
  dp : A.depth + 3 * k + 5 < recursionLimit
  un : A.units + 16 * k + 200 < cLine
theorem Room.mono {j k : Nat} {A : Around} (r : Room k A) (h : j ≤ k) : Room j A := ⟨r.hd, by have := r.dp; omega, by have := r.un; omega⟩
theorem Room.deeper {k : Nat} {A : Around} (r : Room (k + 1) A) (env : Env) : Room k (A.deeper env) :=
  ⟨r.hd, by have := r.dp; show A.depth + 1 + 3 * k + 5 < _; omega, by have := r.un; show A.units + 3 + 16 * k + 200 < _; omega⟩
theorem Room.in1 {k : Nat} {A : Around} (r : Room (k + 1) A) : Room k A.in1 :=
  ⟨r.hd, by have := r.dp; show A.depth + 3 * k + 5 < _; omega, by have := r.un; show A.units + 1 + 16 * k + 200 < _; omega⟩
theorem make_depth {A : Around} {C : Addr} {us : List Value} {kw : List (Str × Value)} : (A.under (.builtin "type.__call__" ⟨.ref C :: us, kw⟩)).depth = A.depth + 1 := by
  first | rfl | simp [Around.under, Code.weight, Code.isCreation, Code.isGuard, Code.isCaller, Code.frames, Code.isFrame, guardIds]
theorem make_units {A : Around} {C : Addr} {us : List Value} {kw : List (Str × Value)} : (A.under (.builtin "type.__call__" ⟨.ref C :: us, kw⟩)).units = A.units + 1 := by
  first | rfl | simp [Around.under, Code.cUnits, Code.frames, Code.isFrame]
theorem Room.make {k : Nat} {A : Around} (r : Room (k + 1) A) (C : Addr) (us : List Value) (kw : List (Str × Value)) : Room k (A.under (.builtin "type.__call__" ⟨.ref C :: us, kw⟩)) :=
  ⟨r.hd, by have := r.dp; rw [make_depth]; omega, by have := r.un; rw [make_units]; omega⟩
theorem Room.depth {k : Nat} {A : Around} (r : Room k A) : A.depth < recursionLimit := by have := r.dp; omega
theorem Room.units {k : Nat} {A : Around} (r : Room k A) : A.units + 64 < cLine := by have := r.un; omega
theorem Room.units0 {k : Nat} {A : Around} (r : Room k A) : A.units < cLine := by have := r.un; omega

/-! ### argument lists and displays -/
def tNil : TA := fun _ H Q => Q [] H
def tCons (ta : TE) (tr : TA) : TA := fun σ H Q => ta σ H fun x H1 => tr σ H1 fun xs H2 => Q (x :: xs) H2
section
variable {X : Cx} {e : Expr} {es : List Expr} {te : TE} {t : TA} {pos : Pos}
theorem pa_nil : PA X [] tNil := fun _ _ _ _ H Q I h => Calls.spliced_nil ⟨[], H, I, .nil, h⟩
theorem pa_cons (ha : PE X e te) (hr : PA X es t) (hs : starEach (e :: es) X.env = (false, eval e X.env) :: starEach es X.env := by rfl) : PA X (e :: es) (tCons te t) := by
  intro pos pins s σ H Q I h
  rw [hs]
  show wpAny _ _ (spliced ((false, eval e X.env) :: backTo pos (starEach es X.env))) _ _ s
  refine Calls.spliced_cons (thn (ha pins s σ H _ I h) fun u s1 ⟨x, H1, I1, r1, q1⟩ => ?_)
  exact thn (hr pos pins s1 σ H1 _ I1 q1) fun us s2 ⟨xs, H2, I2, r2, q2⟩ => ⟨x :: xs, H2, I2, .cons r1 r2, q2⟩

end

/-! ### what a def promises -/
/-- a def's promise: the bound arguments in the parameters' order, the heap, the wanted end, the wanted exception -/
abbrev Sp := List V → Hp → VK → XK → Prop
/-- how an exception lies behind a call (file 08 gives it): the callers' frames, abstract heap and state ahead of the call, the wish, the exception, the state -/
abbrev CXT := List Env → Hp → Shared → XK → Value → Shared → Prop

/-- the state at a call -/
structure Env0 (P : Program) (w : World) (K : PySem.W.Frag) (mg : Str → Option Value) (base : Heap) (A : Around) (outer : List Env) (s : Shared) (H : Hp) : Prop where
  frames : A.frames = some outer
  mod : Mod K mg base
  bs : ∀ b o, base.get? b = some o → s.heap.get? b = some o ∧ H b = none
  bsz : base.objs.size ≤ s.heap.objs.size
  funs : s.heap.FunFrames base outer
  frf : ∀ b ∈ frs outer, H b = none
  hok : HOk P w H s.heap
  bare : AllBare s.gens
/-- a call's end -/
def CE (outer : List Env) (P : Program) (w : World) (H : Hp) (s : Shared) (Q : VK) (u : Value) (s' : Shared) : Prop :=
  ∃ v H', s'.os = s.os ∧ AllBare s'.gens ∧ Un (frs outer) [] H H' s.heap s'.heap ∧ HOk P w H' s'.heap ∧ RelV v u ∧ Q v H'
def CR (CX : CXT) (outer : List Env) (P : Program) (w : World) (H : Hp) (s : Shared) (Q : VK) (E : XK) (r : Result) (s' : Shared) : Prop :=
  match r with
  | .ok (.ret u) => CE outer P w H s Q u s'
  | .ok _ => False
  | .error e => CX outer H s E e s'
structure FnOk (P : Program) (w : World) (K : PySem.W.Frag) (mg : Str → Option Value) (base : Heap) (CX : CXT) (k : Nat) (f : Addr) (fd : FuncData) (ps : List Str) (sp : Sp) : Prop where
  len : ∀ vs H Q E, sp vs H Q E → vs.length = ps.length
  run : ∀ (A : Around) (outer : List Env) (s : Shared) (H : Hp) (args : Args) (us : List Value) (vs : List V) (Q : VK) (E : XK), Room k A → Env0 P w K mg base A outer s H → BindsTo s fd args (ps.zip us) → Vals vs us → sp vs H Q E →
    codeAny (model P w) A (.call (.ref f) args) (CR CX outer P w H s Q E) s
theorem FnOk.mono {P : Program} {w : World} {K : PySem.W.Frag} {mg : Str → Option Value} {base : Heap} {CX : CXT} {j k : Nat} {f : Addr} {fd : FuncData} {ps : List Str} {sp : Sp} (F : FnOk P w K mg base CX j f fd ps sp) (h : j ≤ k) :
    FnOk P w K mg base CX k f fd ps sp := ⟨F.len, fun A outer s H args us vs Q E hr => F.run A outer s H args us vs Q E (hr.mono h)⟩
/-- a weaker promise -/
theorem FnOk.imp {P : Program} {w : World} {K : PySem.W.Frag} {mg : Str → Option Value} {base : Heap} {CX : CXT} {k : Nat} {f : Addr} {fd : FuncData} {ps : List Str} {sp sp' : Sp} (F : FnOk P w K mg base CX k f fd ps sp)
    (h : ∀ vs H Q E, sp' vs H Q E → sp vs H Q E) : FnOk P w K mg base CX k f fd ps sp' :=
  ⟨fun vs H Q E q => F.len vs H Q E (h _ _ _ _ q), fun A outer s H args us vs Q E hr he hb hv hs => F.run A outer s H args us vs Q E hr he hb hv (h _ _ _ _ hs)⟩

theorem Env0.make {P : Program} {w : World} {K : PySem.W.Frag} {mg : Str → Option Value} {base : Heap} {A : Around} {outer : List Env} {s : Shared} {H : Hp} (e : Env0 P w K mg base A outer s H) (C : Addr) (us : List Value) (kw : List (Str × Value)) :
    Env0 P w K mg base (A.under (.builtin "type.__call__" ⟨.ref C :: us, kw⟩)) outer s H := ⟨by first | exact e.frames | (simpa [Around.under, Code.envs, Code.isFrame, pushEnvs] using e.frames), e.mod, e.bs, e.bsz, e.funs, e.frf, e.hok, e.bare⟩
theorem Env0.in1 {P : Program} {w : World} {K : PySem.W.Frag} {mg : Str → Option Value} {base : Heap} {A : Around} {outer : List Env} {s : Shared} {H : Hp} (e : Env0 P w K mg base A outer s H) :
    Env0 P w K mg base A.in1 outer s H := ⟨e.frames, e.mod, e.bs, e.bsz, e.funs, e.frf, e.hok, e.bare⟩

section
variable {X : Cx} {pins : List (Addr × Obj)} {σ : St} {H : Hp} {s s' : Shared}
/-- from a body: what a callee wants -/
theorem Inv.env0 (I : Inv X pins σ H s) : Env0 X.prog X.w X.K X.mg X.base X.A X.stack s H :=
  ⟨I.ok.frames, I.ok.mod, I.bs, Nat.le_trans I.ok.bsz I.sz, I.stack, I.stkFree, I.hok, I.bare⟩
/-- behind a call -/
theorem Inv.after {Q : VK} {u : Value} (I : Inv X pins σ H s) (h : CE X.stack X.prog X.w H s Q u s') : EP X pins σ Q u s' := by
  obtain ⟨v, H', os, bare, un, hok, r, q⟩ := h
  obtain ⟨hh, g, d, t, os'⟩ := s'
  obtain rfl : os' = s.os := os
  exact ⟨v, H', I.call (h' := hh) (g' := g) (d' := d) (t' := t) (ch := []) un hok bare (fun b z => absurd z (by simp)), r, q⟩
end

/-! ### calls -/
/-- f(..): the written arguments, then the defaults dvs; E: what is wanted of an exception -/
def tCall (sp : Sp) (dvs : List V) (E : XK) (t : TA) : TE := fun σ H Q => t σ H fun vs H1 => sp (vs ++ dvs) H1 Q E
/-- o.m(..) of an instance of the class at C -/
inductive TMethI (C : Addr) (m : Str) (sp : Sp) (dvs : List V) (E : XK) (t : TA) (σ : L2.St) (x : V) (H1 : Hp) (Q : VK) : Prop where
  | mk (a : _) (dx : _) (fs : _) (c1 : x = .ref a) (c2 : H1 a = some (.ins C dx fs)) (c3 : fs.lookup m = none) (c4 : t σ H1 fun vs H2 => sp (x :: (vs ++ dvs)) H2 Q E)
/-- C(..): a new instance and its dict, then __init__ -/
def tMake (C : Addr) (sp : Sp) (dvs : List V) (E : XK) (t : TA) : TE := fun σ H Q => t σ H fun vs H1 => ∀ x dx, H1 x = none → H1 dx = none → dx ≠ x →
  sp (.ref x :: (vs ++ dvs)) (upd (upd H1 dx (.own x)) x (.ins C dx [])) (fun v H2 => v = .non ∧ Q (.ref x) H2) E

/-- how the parameters are bound: us the positional arguments, kw the keywords' values by name, ds the defaults that fill up -/
def Binds (K : PySem.W.Frag) (fd : FuncData) (ps : List Str) (ds : List Value) : Prop :=
  ∀ (s : Shared) (us : List Value), K.In s.heap → (us ++ ds).length = ps.length → BindsTo s fd ⟨us, []⟩ (ps.zip (us ++ ds))
/-- every parameter is given -/
theorem Binds.all {K : PySem.W.Frag} {fd : FuncData} {ps : List Str} (h : ∀ us : List Value, us.length = ps.length → bindArgs fd ⟨us, []⟩ = pure (ps.zip us)) : Binds K fd ps [] := fun s us _ hl => by
  rw [List.append_nil] at hl ⊢
  exact .of_eq (h us hl)

/-- an exception of a callee reaches what this body wants of exceptions -/
def Passes (CX : CXT) (X : Cx) (E : XK) : Prop := ∀ (pins : List (Addr × Obj)) (σ : St) (H : Hp) (s : Shared) (e : Value) (s' : Shared), Inv X pins σ H s → CX X.stack H s E e s' → X.xe e s'

section
variable {X : Cx} {CX : CXT} {k : Nat} {f C : Addr} {fd : FuncData} {ps : List Str} {sp : Sp} {dvs : List V} {ds : List Value} {E : XK} {x m : Str} {p pos apos : Pos} {e o : Expr} {es : List Expr} {ta : TE} {t : TA}

/-- the callee runs -/
theorem run_fn {pins : List (Addr × Obj)} {σ : St} {H : Hp} {s : Shared} {Q : VK} {us : List Value} {vs : List V} (F : FnOk X.prog X.w X.K X.mg X.base CX k f fd ps sp) (hr : Room k X.A) (hb : Binds X.K fd ps ds) (hd : Vals dvs ds) (hx : Passes CX X E)
    (I : Inv X pins σ H s) (r : Vals vs us) (h : sp (vs ++ dvs) H Q E) : wpAny (model X.prog X.w) X.A (call (.ref f) us) (EP X pins σ Q) X.xe s := by
  have r2 : Vals (vs ++ dvs) (us ++ ds) := r.append hd
  have hl : (us ++ ds).length = ps.length := by rw [← r2.length]; exact F.len _ _ _ _ h
  refine wpAny_call (codeAny_mono (F.run X.A X.stack s H ⟨us, []⟩ (us ++ ds) (vs ++ dvs) Q E hr I.env0 (hb s us I.kIn hl) r2 h) fun r s' hq => ?_)
  cases r with
  | error e => exact hx pins σ H s e s' I hq
  | ok fl =>
    cases fl with
    | ret u => exact I.after hq
    | next => exact False.elim hq
    | brk => exact False.elim hq
    | cont => exact False.elim hq

theorem pe_call (F : FnOk X.prog X.w X.K X.mg X.base CX k f fd ps sp) (hr : Room k X.A) (hg : Gl X x) (hm : X.mg x = some (.ref f)) (hk : PySem.W.keepIn X.K (.ref f) = true) (hb : Binds X.K fd ps ds) (hd : Vals dvs ds) (hx : Passes CX X E)
    (ha : PA X (e :: es) t) (hdb : (x == ("__debug__" : Str)) = false := by decide) (he : starEach (e :: es) X.env = (false, eval e X.env) :: starEach es X.env := by rfl) (hpl : (backTo pos (starEach es X.env)).any (·.1) = false := by rfl) :
    PE X (.Call (.Name x p) (e :: es) [] pos) (tCall sp dvs E t) := by
  intro pins s σ H Q I h
  refine wpAny_Call_Name_kw (ld_glob I hg hm ?_ hdb)
  refine PySem.W.callWith_K (h₀ := X.base) I.ok.mod.kin hk (thn (ha pos pins s σ H _ I h) fun us s1 ⟨vs, H1, I1, r, q⟩ => ⟨I1.kIn, ?_⟩) he hpl
  exact run_fn F hr hb hd hx I1 r q



end

/-! ### keywords -/
section
variable {X : Cx} {CX : CXT} {k : Nat} {f C : Addr} {fd : FuncData} {ps ks : List Str} {sp : Sp} {E : XK} {x m : Str} {p pos apos kpos : Pos} {e o : Expr} {es : List Expr} {kws : List Keyword} {te ta : TE} {t tk : TA} {nm : Option Str}

variable {g : List Value → List Value → List Value} {gV : List V → List V → List V}
end

/-! ### a def's body keeps its promise -/
/-- names: the parameters first -/
structure FnScope (N P : List Str) (sc : Scope) : Prop where
  kind : sc.kind = .function
  co : sc.isCoroutine = false
  gen : sc.isGenerator = false
  nd : N.Nodup
  pre : N.take P.length = P
  par : ∀ x ∈ P, sc.names.lookup x = some .local ∨ sc.names.lookup x = some .cell
  nofree : ∀ y ∈ sc.names, y.2 ≠ .free

theorem bindL_out {kindOf : Str → Option NameKind} {x : Str} : ∀ {binds : List (Str × Value)} {m : Str → Option Value}, (∀ v, (x, v) ∉ binds) → bindL kindOf binds m x = m x
  | [], _, _ => rfl
  | (n, v) :: r, m, h => by
    unfold bindL
    rw [bindL_out fun w hw => h w (List.mem_cons_of_mem _ hw)]
    split
    · have : x ≠ n := by rintro rfl; exact h v List.mem_cons_self
      simp [this]
    · rfl
theorem bindC_out {kindOf : Str → Option NameKind} {x : Str} : ∀ {binds : List (Str × Value)} {m : Str → Option Value}, (∀ v, (x, v) ∉ binds) → bindC kindOf binds m x = m x
  | [], _, _ => rfl
  | (n, v) :: r, m, h => by
    unfold bindC
    rw [bindC_out fun w hw => h w (List.mem_cons_of_mem _ hw)]
    split
    · rfl
    · have : x ≠ n := by rintro rfl; exact h v List.mem_cons_self
      simp [this]
theorem bindL_get {kindOf : Str → Option NameKind} {x : Str} {v : Value} : ∀ {P : List Str} {vs : List Value} {i : Nat} {m : Str → Option Value}, P.Nodup → P[i]? = some x → vs[i]? = some v → kindOf x = some .local →
    bindL kindOf (P.zip vs) m x = some v
  | [], _, _, _, _, h, _, _ => by simp at h
  | _ :: _, [], _, _, _, _, h, _ => by simp at h
  | p :: P, w :: vs, 0, m, nd, h1, h2, hk => by
    simp at h1 h2; subst h1; subst h2
    show bindL kindOf ((p, w) :: P.zip vs) m p = _
    unfold bindL
    rw [bindL_out fun v hv => (List.nodup_cons.mp nd).1 (List.of_mem_zip hv).1, if_pos hk]
    simp
  | p :: P, w :: vs, i + 1, m, nd, h1, h2, hk => by
    show bindL kindOf ((p, w) :: P.zip vs) m x = _
    unfold bindL
    exact bindL_get (i := i) (List.nodup_cons.mp nd).2 (by simpa using h1) (by simpa using h2) hk
theorem bindC_get {kindOf : Str → Option NameKind} {x : Str} {v : Value} : ∀ {P : List Str} {vs : List Value} {i : Nat} {m : Str → Option Value}, P.Nodup → P[i]? = some x → vs[i]? = some v → kindOf x ≠ some .local →
    bindC kindOf (P.zip vs) m x = some v
  | [], _, _, _, _, h, _, _ => by simp at h
  | _ :: _, [], _, _, _, _, h, _ => by simp at h
  | p :: P, w :: vs, 0, m, nd, h1, h2, hk => by
    simp at h1 h2; subst h1; subst h2
    show bindC kindOf ((p, w) :: P.zip vs) m p = _
    unfold bindC
    rw [bindC_out fun v hv => (List.nodup_cons.mp nd).1 (List.of_mem_zip hv).1, if_neg hk]
    simp
  | p :: P, w :: vs, i + 1, m, nd, h1, h2, hk => by
    show bindC kindOf ((p, w) :: P.zip vs) m x = _
    unfold bindC
    exact bindC_get (i := i) (List.nodup_cons.mp nd).2 (by simpa using h1) (by simpa using h2) hk

/-- the names' values at the entry -/
def start (N : List Str) (vs : List V) : St := vs.map some ++ List.replicate (N.length - vs.length) none

/-- the context of a def's body, at its entry; an exception leaves the frame, then lies as CX says -/
def cxOf (CX : CXT) (P : Program) (w : World) (K : PySem.W.Frag) (mg : Str → Option Value) (base : Heap) (N : List Str) (qual : Str) (scope : Scope) (f : Addr) (cd : Value) (A : Around) (outer : List Env) (s : Shared) (H : Hp) (E : XK) : Cx where
  prog := P
  w := w
  K := K
  mg := mg
  base := base
  A := A.deeper (envOfC qual scope s.heap.objs.size f cd)
  N := N
  s₀ := s
  H₀ := H
  env := envOfC qual scope s.heap.objs.size f cd
  outer := outer
  stack := envOfC qual scope s.heap.objs.size f cd :: outer
  ex := []
  calm := true
  fn := fun _ => true
  pn := []
  xe := fun e s' => wpAny (model P w) (A.deeper (envOfC qual scope s.heap.objs.size f cd)) (leaving (envOfC qual scope s.heap.objs.size f cd) e) (fun _ s'' => CX outer H s E e s'') (fun e' s'' => CX outer H s E e' s'') s'

theorem cell_has {sc : Scope} {n : Nat} {x : Str} (h : sc.names.lookup x = some .cell) : ∃ c, (cellsFrom n sc.names []).lookup x = some c := by
  have q := PySem.W.cellsFrom_some sc.names n [] (.inl h)
  exact Option.isSome_iff_exists.mp q

theorem inv_start {CX : CXT} {P : Program} {w : World} {K : PySem.W.Frag} {mg : Str → Option Value} {base : Heap} {N ps : List Str} {qual : Str} {scope : Scope} {f : Addr} {cd : Value} {A : Around} {outer : List Env} {s s1 : Shared} {H : Hp} {E : XK} {us : List Value} {vs : List V}
    (S : FnScope N ps scope) (hd : A.handled = none) (e0 : Env0 P w K mg base A outer s H) (hl : vs.length = ps.length) (r : Vals vs us)
    (x : InCallC s s.heap.objs.size (bindL (envOfC qual scope s.heap.objs.size f cd).kindOf (ps.zip us) fun _ => none) (cellsFrom (s.heap.objs.size + 1) scope.names []) (bindC (envOfC qual scope s.heap.objs.size f cd).kindOf (ps.zip us) fun _ => none) s1) :
    Inv (cxOf CX P w K mg base N qual scope f cd A outer s H E) [] (start N vs) H s1 := by
  have hpl : ps.length ≤ N.length := by have := congrArg List.length S.pre; rw [List.length_take] at this; omega
  obtain ⟨h1, tk, rfl, hk⟩ := x.done
  have noA : ∀ b : Addr, b ∉ (cxOf CX P w K mg base N qual scope f cd A outer s H E).ex := fun b z => absurd (show b ∈ ([] : List Addr) from z) (by simp)
  refine ⟨⟨e0.mod, S.kind, rfl, rfl, Nat.le_refl _, fun y z c h1 h2 => ?_, fun y hy => ?_, fun y c _ h => ?_, fun _ => hd, Around.frames_deeper e0.frames, .inr ⟨rfl, rfl⟩, fun b z => absurd z (noA b), e0.bs, e0.bsz, fun b _ _ => noA b, fun b z => absurd z (noA b), e0.funs, e0.frf⟩,
    rfl, e0.bare, Un.kept hk, ⟨_, x.toInCall.ns, fun i y v h1 h2 h3 => ?_⟩, fun y c h => ⟨_, x.cell y c h⟩, e0.hok.fresh (Nat.le_refl _), fun y c h => ?_, fun p hp => absurd (show p ∈ ([] : List (Addr × Obj)) from hp) (by simp), e0.hok.kept hk, ?_⟩
  · exact name_of_addr x.apart (PySem.mem_of_lookup h1) (PySem.mem_of_lookup h2)
  · have hy : scope.names.lookup y = some .cell ∨ scope.names.lookup y = some .free := hy
    rcases hy with hy | hy
    · exact cell_has hy
    · exact absurd rfl (S.nofree _ (PySem.mem_of_lookup hy))
  · exact Nat.le_of_lt (x.above y c (PySem.mem_of_lookup h))
  · have hi : i < vs.length := by
      unfold start at h2
      by_cases hi : i < vs.length
      · exact hi
      · rw [List.getElem?_append_right (by simpa using hi)] at h2
        rw [List.getElem?_replicate] at h2
        split at h2 <;> cases h2
    have ha : vs[i]? = some v := by
      unfold start at h2
      rw [List.getElem?_append_left (by simpa using hi), List.getElem?_map] at h2
      cases e : vs[i]? with
      | none => rw [e] at h2; cases h2
      | some a => rw [e] at h2; cases h2; rfl
    obtain ⟨u, hu, rv⟩ := r.get ha
    have hp : ps[i]? = some y := by
      rw [← S.pre, List.getElem?_take_of_lt (by omega)]; exact h1
    have ndP : ps.Nodup := by rw [← S.pre]; exact S.nd.sublist (List.take_sublist _ _)
    refine ⟨u, rv, ?_⟩
    rcases S.par y (List.mem_of_getElem? hp) with k | k
    · exact .inl ⟨k, bindL_get ndP hp hu k⟩
    · obtain ⟨c, e⟩ := cell_has (n := s.heap.objs.size + 1) k
      refine .inr ⟨.inl k, c, e, ?_⟩
      have q := x.cell y c e
      rw [bindC_get ndP hp hu (by show scope.names.lookup y ≠ _; rw [k]; decide)] at q
      exact q
  · exact e0.hok.fresh (Nat.le_of_lt (x.above y c (PySem.mem_of_lookup h)))
  · unfold start
    show _ = N.length
    rw [List.length_append, List.length_map, List.length_replicate]
    omega

/-- THE RULE: a def (or a method) of the text, by its body. The body's reading t is chosen for each entry; it is run at the parameters' values -/
theorem fn_of {CX : CXT} {P : Program} {w : World} {K : PySem.W.Frag} {mg : Str → Option Value} {base : Heap} {k : Nat} {f : Addr} {name qual : Str} {params : Arguments} {body : List Stmt} {scope : Scope} {dV kV doc pm cdv ct oc : Value} {an od : Option Addr}
    {osl : Array (Option Value)} {N ps : List Str} {sp : Sp} (lk : K.lookup f = some ⟨oc, od, .func (PySem.W.fnOf name qual params body scope dV kV doc pm an cdv ct), osl⟩) (hcd : PySem.W.codeIn K cdv qual = true) (S : FnScope N ps scope)
    (len : ∀ vs H Q E, sp vs H Q E → vs.length = ps.length)
    (hbody : ∀ (A : Around) (outer : List Env) (s : Shared) (H : Hp) (vs : List V) (Q : VK) (E : XK), Room k (A.deeper (envOfC qual scope s.heap.objs.size f cdv)) → sp vs H Q E →
      ∃ t, PSs (cxOf CX P w K mg base N qual scope f cdv A outer s H E) body t ∧ t { nx := fun _ H' => Q .non H', rt := Q } (start N vs) H) :
    FnOk P w K mg base CX (k + 1) f (PySem.W.fnOf name qual params body scope dV kV doc pm an cdv ct) ps sp := by
  refine ⟨len, fun A outer s H args us vs Q E hr e0 hb r hsp => ?_⟩
  have hl := len _ _ _ _ hsp
  have KX : K.In s.heap := e0.mod.kin.keeps fun b o e => (e0.bs b o e).1
  have lim : s.heap.NoLimit := e0.mod.nolimit.keeps fun b o e => (e0.bs b o e).1
  have hkind : ∀ y ∈ ps.zip us, scope.names.lookup y.1 = some .local ∨ (scope.names.lookup y.1 = some .cell ∧ ((cellsFrom (s.heap.objs.size + 1) scope.names []).lookup y.1).isSome = true) := fun ⟨n, v⟩ hy => by
    rcases S.par n (List.of_mem_zip hy).1 with q | q
    · exact .inl q
    · exact .inr ⟨q, PySem.W.cellsFrom_some _ _ _ (.inl q)⟩
  refine codeAny_call_function hr.depth (KX _ _ lk) rfl S.co S.gen rfl (PySem.W.codeRec_of KX hcd) (hb _ _ _ _ ?_)
  refine wpAny_newFunctionEnv_cells S.kind hkind fun env he s1 x => ?_
  subst he
  refine ⟨lim.keeps x.toInCall.keep, codeAny_func ?_⟩
  obtain ⟨t, ht, hq⟩ := hbody A outer s H vs Q E (hr.deeper _) hsp
  have I : Inv (cxOf CX P w K mg base N qual scope f cdv A outer s H E) [] (start N vs) H s1 := inv_start S hr.hd e0 hl r x
  refine wpAny_mono (ht [] s1 (start N vs) H _ I hq) (fun fl s' hs => ?_) fun e s' hs => hs
  have fin : ∀ {σ' : St} {H' : Hp} {v : V} {u : Value}, Inv (cxOf CX P w K mg base N qual scope f cdv A outer s H E) [] σ' H' s' → RelV v u → Q v H' → CE outer P w H s Q u s' :=
    fun {σ' H' v u} J rv q => ⟨v, H', J.os, J.bare, J.base, J.hok, rv, q⟩
  cases fl with
  | ret u =>
    obtain ⟨v, σ', H', J, rv, q⟩ := hs
    exact fin J rv q
  | next =>
    obtain ⟨σ', H', J, q⟩ := hs
    exact fin (v := V.non) (u := Value.none) J rfl q
  | brk =>
    obtain ⟨_, _, _, q⟩ := hs
    exact False.elim q
  | cont =>
    obtain ⟨_, _, _, q⟩ := hs
    exact False.elim q
end L2

namespace L2
open PySem PySem.Spec PyProof.Rows
section
variable {X : Cx} {x : Str} {p pos : Pos} {e : Expr} {es : List Expr} {t : TA} {id T : String} {r : List V → Hp → VK → Prop}

def tCB (r : List V → Hp → VK → Prop) (t : TA) : TE := fun σ H Q => t σ H fun vs H1 => r vs H1 Q
/-- f(e, ..), f a built-in function -/
theorem pe_callB (hc : CallR X (.builtin id) r) (hg : Gl X x) (hm : X.mg x = none) (hv : bootBuiltins x = some (.builtin id)) (ha : PA X (e :: es) t) (hn : x ≠ "__name__" := by decide) (hdb : (x == ("__debug__" : Str)) = false := by decide)
    (he : starEach (e :: es) X.env = (false, eval e X.env) :: starEach es X.env := by rfl) (hpl : (backTo pos (starEach es X.env)).any (·.1) = false := by rfl) : PE X (.Call (.Name x p) (e :: es) [] pos) (tCB r t) := by
  intro pins s σ H Q I h
  refine wpAny_Call_Name_kw (ld_blt I hg hm hv ?_ hn hdb)
  exact PyProof.Rows.callWith_builtin1 (thn (ha pos pins s σ H _ I h) fun us s1 ⟨vs, H1, I1, r1, q1⟩ => hc pins s1 σ H1 vs us Q I1 r1 q1) he hpl
/-- T(e, ..), T a built-in type -/
theorem pe_callTy (hc : CallR X (.type T) r) (hg : Gl X x) (hm : X.mg x = none) (hv : bootBuiltins x = some (.type T)) (ha : PA X (e :: es) t) (hn : x ≠ "__name__" := by decide) (hdb : (x == ("__debug__" : Str)) = false := by decide)
    (he : starEach (e :: es) X.env = (false, eval e X.env) :: starEach es X.env := by rfl) (hpl : (backTo pos (starEach es X.env)).any (·.1) = false := by rfl) : PE X (.Call (.Name x p) (e :: es) [] pos) (tCB r t) := by
  intro pins s σ H Q I h
  refine wpAny_Call_Name_kw (ld_blt I hg hm hv ?_ hn hdb)
  exact PyProof.Rows.callWith_type1 (thn (ha pos pins s σ H _ I h) fun us s1 ⟨vs, H1, I1, r1, q1⟩ => hc pins s1 σ H1 vs us Q I1 r1 q1) he hpl
end
end L2

namespace HT
open PySem PyProof.Rows



section
open PySem.SeqAt
open PySem.AutoSeq1 (wpAny_loadPart')
open PySem.MeetsSeq PySem.MeetsSeq2 PySem.MeetsSeq3

end

section
variable {prog : Program} {w : World} {A : Around} {E : Value → Shared → Prop} {s : Shared}



/-! ### t[a:b], not the whole -/
/-- a slice's bound as a place among n (d where it is left out) -/
def sIx (n d : Nat) : Option Int → Nat
  | none => d
  | some v => if v < 0 then (v + (n : Int)).toNat else min v.toNat n
theorem sIx_nat (n d k : Nat) : sIx n d (some (k : Int)) = min k n := by
  show (if (k : Int) < 0 then ((k : Int) + (n : Int)).toNat else min (k : Int).toNat n) = min k n
  rw [if_neg (by omega), Int.toNat_natCast]

end
end HT

namespace L2
open PySem PySem.Spec PyProof.Rows

/-! ### the parts of a slice -/
abbrev TO := St → Hp → (Option Int → Hp → Prop) → Prop
/-- a slice's part (left out, or an int) -/
def PO (X : Cx) (e : Option Expr) (t : TO) : Prop :=
  ∀ (pins : List (Addr × Obj)) (s : Shared) (σ : St) (H : Hp) (Q : Option Int → Hp → Prop), Inv X pins σ H s → t σ H Q →
    wpAny (model X.prog X.w) X.A (evalPart e X.env) (fun u s' => ∃ o H', Inv X pins σ H' s' ∧ IsPart u o ∧ Q o H') X.xe s
def tNoPart : TO := fun _ H Q => Q none H
inductive TPartI (x : V) (H1 : Hp) (Q : Option Int → Hp → Prop) : Prop where
  | mk (i : _) (c1 : x = .int i) (c2 : Q (some i) H1)
def tPart (t : TE) : TO := fun σ H Q => t σ H fun x H1 => TPartI x H1 Q


section
variable {X : Cx} {e : Expr} {te : TE} {lo hi : Option Expr} {tl th : TO} {pos p2 : Pos}

theorem po_none : PO X none tNoPart := by
  intro pins s σ H Q I h
  rw [evalPart_none]
  exact wpAny_pure ⟨none, H, I, .none, h⟩
theorem po_some (h : PE X e te) : PO X (some e) (tPart te) := by
  intro pins s σ H Q I hw
  rw [evalPart_some]
  refine thn (h pins s σ H _ I hw) fun u s1 ⟨x, H1, I1, r1, q1⟩ => ?_
  obtain ⟨i, rfl, q⟩ := q1
  obtain ⟨t, rfl⟩ := r1
  exact ⟨some i, H1, I1, .int i t, q⟩

/-- what a slice of a value is, by values: the slice object stands at sl -/
def SlR (X : Cx) (r : V → Option Int → Option Int → Hp → VK → Prop) : Prop :=
  ∀ (pins : List (Addr × Obj)) (s : Shared) (σ : St) (H : Hp) (x : V) (v vl vu : Value) (lo hi : Option Int) (sl : Addr) (Q : VK), Inv X pins σ H s → RelV x v → s.heap.IsSliceOf sl vl vu .none → IsPart vl lo → IsPart vu hi → r x lo hi H Q →
    ∃ T id, typeLookup (.type T) "__getitem__" = pure (some (.builtin id)) ∧ s.TypeIs v T ∧ wpAny (model X.prog X.w) X.A (getItem v (.ref sl)) (EP X pins σ Q) X.xe s
theorem SlR.or {r r' : V → Option Int → Option Int → Hp → VK → Prop} (h : SlR X r) (h' : SlR X r') : SlR X (fun x lo hi H Q => r x lo hi H Q ∨ r' x lo hi H Q) := by
  intro pins s σ H x v vl vu lo hi sl Q I rx hs pl pu q
  rcases q with q | q
  · exact h pins s σ H x v vl vu lo hi sl Q I rx hs pl pu q
  · exact h' pins s σ H x v vl vu lo hi sl Q I rx hs pl pu q
def tSl (r : V → Option Int → Option Int → Hp → VK → Prop) (te : TE) (tl th : TO) : TE := fun σ H Q => te σ H fun x H1 => tl σ H1 fun l H2 => th σ H2 fun u H3 => r x l u H3 Q
/-- a[lo:hi], any a -/
theorem pe_slice {r : V → Option Int → Option Int → Hp → VK → Prop} (hr : SlR X r) (he : PE X e te) (hl : PO X lo tl) (hu : PO X hi th) : PE X (.Subscript e (.Slice lo hi none p2) pos) (tSl r te tl th) := by
  intro pins s σ H Q I h
  refine Subscript_ (thn (he pins s σ H _ I h) fun v s1 ⟨x, H1, I1, r1, q1⟩ => ?_)
  refine wpAny_Slice (thn (hl pins s1 σ H1 _ I1 q1) fun vl s2 ⟨l, H2, I2, pl, q2⟩ => thn (hu pins s2 σ H2 _ I2 q2) fun vu s3 ⟨u, H3, I3, pu, q3⟩ => ?_)
  rw [evalPart_none]
  refine wpAny_pure ?_
  have I4 : Inv X pins σ H3 { s3 with heap := s3.heap.push { cls := .type "slice", data := .fields #[vl, vu, .none] } } := I3.kept (t' := s3.toks) fun b ob q => Heap.get?_push_of_some _ q
  obtain ⟨T, id, hT, ht, hg⟩ := hr pins { s3 with heap := s3.heap.push { cls := .type "slice", data := .fields #[vl, vu, .none] } } σ H3 x v vl vu l u s3.heap.objs.size Q I4 r1 (Heap.IsSliceOf.new ..) pl pu q3
  show wpAny (model X.prog X.w) X.A (subscriptTail e (.Slice lo hi none p2) v (.ref s3.heap.objs.size)) (EP X pins σ Q) X.xe { s3 with heap := s3.heap.push { cls := .type "slice", data := .fields #[vl, vu, .none] } }
  exact tail_any (ops := [.ref s3.heap.objs.size, v]) ht hT hg (by with_unfolding_all rfl)

/-- the items of xs[lo:hi] -/
def cutV (xs : List V) (lo hi : Option Int) : List V := (xs.drop (HT.sIx xs.length 0 lo)).take (HT.sIx xs.length xs.length hi - HT.sIx xs.length 0 lo)
theorem cutV_length (xs : List V) (lo hi : Option Int) : (cutV xs lo hi).length ≤ xs.length := by
  unfold cutV
  rw [List.length_take, List.length_drop]
  omega

/-! ### t < u, t + u -/
end
end L2

namespace L2
open PySem PySem.Spec PyProof.Rows

/-! ### places -/
/-- the place that an index of any sign means -/
def ixN (n : Nat) (i : Int) : Option Nat := if 0 ≤ i then (if i < n then some i.toNat else none) else if -(n : Int) ≤ i then some (i + n).toNat else none
def atI {α : Type} (xs : List α) (i : Int) : Option α := (ixN xs.length i).bind fun j => xs[j]?
theorem ixN_seq {n : Nat} {i : Int} {j : Nat} (h : ixN n i = some j) : seqIndex? i n = some j ∧ j < n ∧ -(n : Int) ≤ i ∧ i < n := by
  unfold ixN at h
  by_cases h0 : 0 ≤ i
  · rw [if_pos h0] at h
    by_cases h1 : i < n
    · rw [if_pos h1] at h
      have e : i.toNat = j := Option.some.inj h
      exact ⟨by rw [seqIndex_of h0 h1, e], by omega, by omega, h1⟩
    · rw [if_neg h1] at h; cases h
  · rw [if_neg h0] at h
    by_cases h1 : -(n : Int) ≤ i
    · rw [if_pos h1] at h
      have e : (i + n).toNat = j := Option.some.inj h
      exact ⟨by rw [seqIndex_neg (by omega) h1, e], by omega, h1, by omega⟩
    · rw [if_neg h1] at h; cases h
theorem atI_get {α : Type} {xs : List α} {i : Int} {v : α} (h : atI xs i = some v) : ∃ j, seqIndex? i xs.length = some j ∧ xs[j]? = some v ∧ j < xs.length ∧ -(xs.length : Int) ≤ i ∧ i < xs.length := by
  unfold atI at h
  cases e : ixN xs.length i with
  | none => rw [e] at h; cases h
  | some j =>
    rw [e] at h
    obtain ⟨h1, h2, h3, h4⟩ := ixN_seq e
    exact ⟨j, h1, h, h2, h3, h4⟩
theorem atI_nat {α : Type} {xs : List α} {j : Nat} {v : α} (h : xs[j]? = some v) : atI xs (j : Int) = some v := by
  have hj : j < xs.length := (List.getElem?_eq_some_iff.mp h).1
  have e : ixN xs.length (j : Int) = some j := by
    unfold ixN
    rw [if_pos (by omega), if_pos (by omega)]; simp
  unfold atI; rw [e]; exact h

/-! ### what may be subscripted -/
/-- what stands as an index of a plain subscript -/
def PlainIx (b : Expr) : Prop := ∀ o i, subscripted b false o i = operate [o, i] (getItem o i)
/-- a subscript by values -/
def IxR (X : Cx) (r : R2) : Prop :=
  ∀ (value slice : Expr) (pins : List (Addr × Obj)) (s : Shared) (σ : St) (H : Hp) (x y : V) (v u : Value) (Q : VK), Inv X pins σ H s → RelV x v → RelV y u → r x y H Q →
    subscripted slice false v u = operate [v, u] (getItem v u) → wpAny (model X.prog X.w) X.A (subscriptTail value slice v u) (EP X pins σ Q) X.xe s
/-- a call of a builtin's method by values: the receiver, the arguments -/
def MtR (X : Cx) (id : String) (r : V → List V → Hp → VK → Prop) : Prop :=
  ∀ (pins : List (Addr × Obj)) (s : Shared) (σ : St) (H : Hp) (x : V) (xs : List V) (v : Value) (us : List Value) (Q : VK), Inv X pins σ H s → RelV x v → Vals xs us → r x xs H Q →
    wpAny (model X.prog X.w) X.A (call (.builtin id) (v :: us)) (EP X pins σ Q) X.xe s
section
variable {X : Cx} {a b : Expr} {ta tb : TE} {pos : Pos}
theorem IxR.or {r r' : R2} (h : IxR X r) (h' : IxR X r') : IxR X (fun x y H Q => r x y H Q ∨ r' x y H Q) := by
  intro value slice pins s σ H x y v u Q I rx ry q hs
  rcases q with q | q
  · exact h value slice pins s σ H x y v u Q I rx ry q hs
  · exact h' value slice pins s σ H x y v u Q I rx ry q hs
theorem MtR.or {id : String} {r r' : V → List V → Hp → VK → Prop} (h : MtR X id r) (h' : MtR X id r') : MtR X id (fun x xs H Q => r x xs H Q ∨ r' x xs H Q) := by
  intro pins s σ H x xs v us Q I rx rs q
  rcases q with q | q
  · exact h pins s σ H x xs v us Q I rx rs q
  · exact h' pins s σ H x xs v us Q I rx rs q
/-- a[b] -/
theorem pe_ix {r : R2} (hr : IxR X r) (ha : PE X a ta) (hb : PE X b tb) (hs : PlainIx b) : PE X (.Subscript a b pos) (tOp r ta tb) := by
  intro pins s σ H Q I h
  exact Subscript_ (binT ha hb I h fun v u s2 x y H2 I2 rx ry q => hr a b pins s2 σ H2 x y v u Q I2 rx ry q (hs _ _))

inductive RIxLI (K : PySem.W.Frag) (x : V) (y : V) (H : Hp) (Q : VK) : Prop where
  | mk (p : _) (xs : _) (i : _) (v : _) (c1 : x = .ref p) (c2 : y = .int i) (c3 : SqL K H p xs) (c4 : atI xs i = some v) (c5 : Q v H)
def rIxL (K : PySem.W.Frag) : R2 := fun x y H Q => RIxLI K x y H Q
inductive RIxTI (K : PySem.W.Frag) (x : V) (y : V) (H : Hp) (Q : VK) : Prop where
  | mk (p : _) (xs : _) (i : _) (v : _) (c1 : x = .ref p) (c2 : y = .int i) (c3 : SqT K H p xs) (c4 : atI xs i = some v) (c5 : Q v H)
def rIxT (K : PySem.W.Frag) : R2 := fun x y H Q => RIxTI K x y H Q
inductive RIxSI (x : V) (y : V) (H : Hp) (Q : VK) : Prop where
  | mk (z : _) (i : _) (c : _) (c1 : x = .str z) (c2 : y = .int i) (c3 : z.length ≤ sizeLine) (c4 : atI z.cps.toList i = some c) (c5 : Q (.str ⟨#[c]⟩) H)
def rIxS : R2 := fun x y H Q => RIxSI x y H Q
theorem ix_list : IxR X (rIxL X.K) := by
  intro value slice pins s σ H x y v u Q I rx ry h hs
  obtain ⟨p, xs, i, z, rfl, rfl, hq, he, q⟩ := h
  cases rx
  obtain ⟨t, rfl⟩ := ry
  obtain ⟨its, r, pl, hz⟩ := I.list hq
  obtain ⟨j, h1, h2, h3, h4, h5⟩ := atI_get he
  obtain ⟨w, ew, rw'⟩ := r.get h2
  have hl := r.length
  have hn := line63
  have fin : EP X pins σ Q w s := ⟨z, H, I, rw', q⟩
  by_cases h0 : 0 ≤ i
  · have hj : i.toNat = j := by
      rw [seqIndex_of h0 h5] at h1
      exact Option.some.inj h1
    exact item_listR pl.isList h0 (by omega) (by rw [hj]; simpa using ew) fin hs
  · have hj : (i + (its.toArray.size : Int)).toNat = j := by
      rw [seqIndex_neg (by omega) h4] at h1
      rw [List.size_toArray, ← hl]
      exact Option.some.inj h1
    exact subscriptTail_builtinR (x := w) pl.isList.typeIs slot_list_getitem.lookup
      (wpAny_getItem_list_neg (Q := fun r s' => r = w ∧ EP X pins σ Q r s') pl.isList (by omega) (by rw [List.size_toArray] <;> omega) (by omega) (by rw [hj]; simpa using ew) ⟨rfl, fin⟩) hs
theorem ix_tup : IxR X (rIxT X.K) := by
  intro value slice pins s σ H x y v u Q I rx ry h hs
  obtain ⟨p, xs, i, z, rfl, rfl, hq, he, q⟩ := h
  cases rx
  obtain ⟨t, rfl⟩ := ry
  obtain ⟨its, r, pl, hz⟩ := I.tuple hq
  obtain ⟨j, h1, h2, h3, h4, h5⟩ := atI_get he
  obtain ⟨w, ew, rw'⟩ := r.get h2
  have hl := r.length
  have hn := line63
  have fin : EP X pins σ Q w s := ⟨z, H, I, rw', q⟩
  exact subscriptTail_builtinR (x := w) pl.typeIs slot_tuple_getitem.lookup
    (getItem_tuple (j := j) (Q := fun r s' => r = w ∧ EP X pins σ Q r s') pl (by omega) (by omega) (by rw [List.size_toArray, ← hl]; exact h1) (by simpa using ew) ⟨rfl, fin⟩) hs
theorem ix_str : IxR X rIxS := by
  intro value slice pins s σ H x y v u Q I rx ry h hs
  obtain ⟨z, i, c, rfl, rfl, hz, he, q⟩ := h
  obtain ⟨t, rfl⟩ := rx
  obtain ⟨t', rfl⟩ := ry
  obtain ⟨j, h1, h2, h3, h4, h5⟩ := atI_get he
  have hl : z.cps.toList.length = z.length := by simp [Str.length]
  rw [hl] at h1 h4 h5
  have hn := line63
  exact tail_any (typeIs_str s z t) slot_str_getitem.lookup (getItem_str (c := c) (by
    have e1 : decide (i < -(2 ^ 63 : Int)) = false := decide_eq_false (by omega)
    have e2 : decide (i ≥ 2 ^ 63) = false := decide_eq_false (by omega)
    rw [e1, e2, Bool.or_false]) (by rw [h1]; simpa using h2) ⟨.str ⟨#[c]⟩, H, I.tok _, ⟨_, rfl⟩, q⟩) hs

/-! ### xs[i] = v, any sign -/
theorem Inv.lst {pins : List (Addr × Obj)} {σ : St} {H : Hp} {s : Shared} {p : Addr} {xs : List V} (I : Inv X pins σ H s) (h : H p = some (.lst xs)) :
    ∃ (its : List Value) (n : Nat), Vals xs its ∧ s.heap.get? p = some { cls := .type "list", data := .seq its.toArray n } ∧ xs.length ≤ sizeLine := by
  obtain ⟨z, its, n, r, e⟩ := I.hok p _ h
  exact ⟨its, n, r, e, z⟩

/-! ### slices -/
theorem slice_bounds (lo hi : Option Int) (n : Nat) : (sliceBounds lo hi none n).1 = ((HT.sIx n 0 lo : Nat) : Int) ∧ (sliceBounds lo hi none n).2.1 = ((HT.sIx n n hi : Nat) : Int) ∧ (sliceBounds lo hi none n).2.2 = 1 := by
  refine ⟨?_, ?_, rfl⟩
  · cases lo with
    | none => simp [sliceBounds, HT.sIx]
    | some i =>
      simp only [sliceBounds, HT.sIx, Option.getD_none, show (1 : Int) > 0 by decide, if_true]
      by_cases h : i < 0
      · simp only [h, if_true] <;> omega
      · simp only [h, if_false] <;> omega
  · cases hi with
    | none => simp [sliceBounds, HT.sIx]
    | some i =>
      simp only [sliceBounds, HT.sIx, Option.getD_none, show (1 : Int) > 0 by decide, if_true]
      by_cases h : i < 0
      · simp only [h, if_true] <;> omega
      · simp only [h, if_false] <;> omega
theorem slicePick_cut (its : List Value) (lo hi : Option Int) : slicePick its.toArray lo hi none = ((its.drop (HT.sIx its.length 0 lo)).take (HT.sIx its.length its.length hi - HT.sIx its.length 0 lo)).toArray := by
  obtain ⟨h1, h2, h3⟩ := slice_bounds lo hi its.toArray.size
  unfold slicePick
  rw [h1, h2, h3]
  simp only [sliceRange_one, pick_run, List.size_toArray] <;> rfl
/-- xs[lo:hi] of a list: a new list -/
inductive RSlLI (K : PySem.W.Frag) (x : V) (lo : Option Int) (hi : Option Int) (H : Hp) (Q : VK) : Prop where
  | mk (a : _) (xs : _) (c1 : x = .ref a) (c2 : SqL K H a xs) (c3 : ∀ p, H p = none → Q (.ref p) (upd H p (.lst (cutV xs lo hi))))
def rSlL (K : PySem.W.Frag) : V → Option Int → Option Int → Hp → VK → Prop := fun x lo hi H Q => RSlLI K x lo hi H Q
theorem sl_list : SlR X (rSlL X.K) := by
  intro pins s σ H x v vl vu lo hi sl Q I rx hs pl pu h
  obtain ⟨a, xs, rfl, hx, q⟩ := h
  cases rx
  obtain ⟨its, r, ht, hz⟩ := I.list hx
  have hlen := r.length
  refine ⟨"list", _, slot_list_getitem.lookup, ht.isList.typeIs, ?_⟩
  refine wpAny_getItem_list_slice ht.isList hs pl pu .none (by simp) ?_ (by rw [List.size_toArray] <;> omega)
  rw [slicePick_cut, ← hlen]
  refine ⟨.ref s.heap.objs.size, _, I.laid (t' := s.toks) (o := .lst (cutV xs lo hi)) (fun b ob q => Heap.get?_push_of_some _ q) (Nat.le_refl _) ?_, rfl, q _ (I.hok.fresh (Nat.le_refl _))⟩
  exact ⟨Nat.le_trans (cutV_length xs lo hi) hz, _, 0, (r.drop (HT.sIx xs.length 0 lo)).take (HT.sIx xs.length xs.length hi - HT.sIx xs.length 0 lo), Heap.get?_push_size _ rfl⟩

/-! ### in, not in: flat items -/
def flatV : V → Bool
  | .non => true
  | .bl _ => true
  | .int _ => true
  | .str _ => true
  | _ => false
/-- == of flat values -/
def eqV : V → V → Bool
  | .non, .non => true
  | .bl a, .bl b => a == b
  | .bl a, .int b => (if a then 1 else 0) == b
  | .int a, .bl b => a == (if b then 1 else 0)
  | .int a, .int b => a == b
  | .str a, .str b => a == b
  | _, _ => false
theorem eqAt_V {A : Around} {s : Shared} {y x : V} {u v : Value} (ry : RelV y u) (rx : RelV x v) (fy : flatV y = true) (fx : flatV x = true) : SeqAt.EqAt A s u v (eqV y x) := by
  cases y with
  | non =>
    cases ry
    cases x with
    | non => cases rx; exact SeqAt.EqAt.same _
    | bl b => cases rx; exact SeqAt.EqAt.none_bool b
    | int b => obtain ⟨t, rfl⟩ := rx; exact SeqAt.EqAt.none_int b t
    | str b => obtain ⟨t, rfl⟩ := rx; exact SeqAt.EqAt.none_str b t
    | _ => exact absurd (show false = true from fx) Bool.false_ne_true
  | bl a =>
    cases ry
    cases x with
    | non => cases rx; exact SeqAt.EqAt.bool_none a
    | bl b => cases rx; exact SeqAt.EqAt.bool_bool a b
    | int b => obtain ⟨t, rfl⟩ := rx; exact SeqAt.EqAt.bool_int a b t
    | str b => obtain ⟨t, rfl⟩ := rx; exact SeqAt.EqAt.bool_str a b t
    | _ => exact absurd (show false = true from fx) Bool.false_ne_true
  | int a =>
    obtain ⟨t', rfl⟩ := ry
    cases x with
    | non => cases rx; exact SeqAt.EqAt.int_none a t'
    | bl b => cases rx; exact SeqAt.EqAt.int_bool a t' b
    | int b => obtain ⟨t, rfl⟩ := rx; exact SeqAt.EqAt.int_int a t' b t
    | str b => obtain ⟨t, rfl⟩ := rx; exact SeqAt.EqAt.int_str a t' b t
    | _ => exact absurd (show false = true from fx) Bool.false_ne_true
  | str a =>
    obtain ⟨t', rfl⟩ := ry
    cases x with
    | non => cases rx; exact SeqAt.EqAt.str_none a t'
    | bl b => cases rx; exact SeqAt.EqAt.str_bool a t' b
    | int b => obtain ⟨t, rfl⟩ := rx; exact SeqAt.EqAt.str_int a t' b t
    | str b => obtain ⟨t, rfl⟩ := rx; exact SeqAt.EqAt.str_str a t' b t
    | _ => exact absurd (show false = true from fx) Bool.false_ne_true
  | _ => exact absurd (show false = true from fy) Bool.false_ne_true
/-- the items' answers, read off the values (a value's own answer does not lean on its token) -/
def eqU (x : V) (u : Value) : Bool := match u with
  | .none => eqV .non x
  | .bool b => eqV (.bl b) x
  | .int i _ => eqV (.int i) x
  | .str z _ => eqV (.str z) x
  | _ => false
theorem eqU_of {x y : V} {u : Value} (r : RelV y u) (f : flatV y = true) : eqU x u = eqV y x := by
  cases y with
  | non => cases r; rfl
  | bl b => cases r; rfl
  | int i => obtain ⟨t, rfl⟩ := r; rfl
  | str z => obtain ⟨t, rfl⟩ := r; rfl
  | _ => exact absurd (show false = true from f) Bool.false_ne_true
theorem any_eqU {x : V} : ∀ {xs : List V} {us : List Value}, Vals xs us → xs.all flatV = true → us.any (eqU x) = xs.any fun y => eqV y x
  | _, _, .nil, _ => rfl
  | y :: xs, u :: us, .cons r t, f => by
    rw [List.all_cons, Bool.and_eq_true] at f
    rw [List.any_cons, List.any_cons, eqU_of r f.1, any_eqU t f.2]
theorem mem_eqAt {A : Around} {s : Shared} {x : V} {v : Value} (rx : RelV x v) (fx : flatV x = true) : ∀ {xs : List V} {us : List Value}, Vals xs us → xs.all flatV = true → ∀ u ∈ us, SeqAt.EqAt A s u v (eqU x u)
  | _, _, .nil, _ => fun u hu => by cases hu
  | y :: xs, u :: us, .cons r t, f => fun u' hu => by
    rw [List.all_cons, Bool.and_eq_true] at f
    rcases List.mem_cons.mp hu with rfl | hu
    · rw [eqU_of r f.1]; exact eqAt_V r rx f.1 fx
    · exact mem_eqAt rx fx t f.2 u' hu
def inV (x : V) (xs : List V) : Bool := xs.any fun y => eqV y x
/-- x in a list or tuple of flat items -/
inductive RInI (K : PySem.W.Frag) (neg : Bool) (x : V) (y : V) (H : Hp) (Q : VK) : Prop where
  | mk (p : _) (xs : _) (c1 : y = .ref p) (c2 : (SqL K H p xs ∨ SqT K H p xs)) (c3 : flatV x = true) (c4 : xs.all flatV = true) (c5 : Q (.bl (if neg then !inV x xs else inV x xs)) H)
def rIn (K : PySem.W.Frag) (neg : Bool) : R2 := fun x y H Q => RInI K neg x y H Q
theorem op_in_seq : OpR X (compareOp .In) (rIn X.K false) := by
  intro pins s σ H x y v u Q I rx ry h
  obtain ⟨p, xs, rfl, hq, fx, fs, q⟩ := h
  cases ry
  rcases hq with hq | hq
  · obtain ⟨its, r, pl, hz⟩ := I.list hq
    refine SeqAt.in_listAt (eqU x) pl.isList (fun w hw => mem_eqAt rx fx r fs w (by simpa using hw)) ⟨.bl _, H, I, rfl, ?_⟩
    rw [show its.toArray.any (eqU x) = its.any (eqU x) by simp, any_eqU r fs]
    exact q
  · obtain ⟨its, r, pl, hz⟩ := I.tuple hq
    refine SeqAt.in_tupleAt (eqU x) pl (fun w hw => mem_eqAt rx fx r fs w (by simpa using hw)) ⟨.bl _, H, I, rfl, ?_⟩
    rw [show its.toArray.any (eqU x) = its.any (eqU x) by simp, any_eqU r fs]
    exact q

/-! ### len, list(x), tuple(x) of any list or tuple that is read -/
theorem call_len_seq : CallR X (.builtin "len") (fun xs H Q => ∃ p ys, xs = [.ref p] ∧ (SqL X.K H p ys ∨ SqT X.K H p ys) ∧ Q (.int ys.length) H) := by
  intro pins s σ H xs us Q I r h
  obtain ⟨p, ys, rfl, hq, q⟩ := h
  obtain ⟨u, rfl, rx⟩ := vals1 r
  cases rx
  have hn := line63
  rcases hq with hq | hq
  · obtain ⟨its, r', pl, hz⟩ := I.list hq
    have hlen := r'.length
    exact Calls.call_len_list pl.isList (by simp only [List.size_toArray] <;> omega) ⟨.int ys.length, H, I.tok _, ⟨s.toks + 1, by rw [List.size_toArray, hlen]⟩, q⟩
  · obtain ⟨its, r', pl, hz⟩ := I.tuple hq
    have hlen := r'.length
    exact len_tuple pl (by simp only [List.size_toArray] <;> omega) ⟨.int ys.length, H, I.tok _, ⟨s.toks + 1, by rw [List.size_toArray, hlen]⟩, q⟩
theorem CallR.or {f : Value} {r r' : List V → Hp → VK → Prop} (h : CallR X f r) (h' : CallR X f r') : CallR X f (fun xs H Q => r xs H Q ∨ r' xs H Q) := by
  intro pins s σ H xs us Q I rs q
  rcases q with q | q
  · exact h pins s σ H xs us Q I rs q
  · exact h' pins s σ H xs us Q I rs q

/-! ### the call of a builtin's method: o.m(..) -/
/-- the value is of that builtin type -/
def tyV (K : PySem.W.Frag) (T : String) (x : V) (H : Hp) : Prop := match x with
  | .str _ => T = "str"
  | .int _ => T = "int"
  | .ref p => (T = "list" ∧ ∃ xs, SqL K H p xs) ∨ (T = "tuple" ∧ ∃ o, K.lookup p = some o ∧ o.cls = .type "tuple" ∧ o.dict = none) ∨
      (T = "dict" ∧ ((∃ kvs, H p = some (.dK kvs)) ∨ ∃ kvs, H p = some (.dT kvs))) ∨ (T = "set" ∧ ∃ S n, H p = some (.set S n))
  | _ => False
theorem tyV_is {pins : List (Addr × Obj)} {σ : St} {H : Hp} {s : Shared} {T : String} {x : V} {v : Value} (I : Inv X pins σ H s) (r : RelV x v) (ty : tyV X.K T x H) :
    s.TypeIs v T ∧ ∀ a, v = .ref a → ∃ ob, s.heap.get? a = some ob ∧ ob.dict = none := by
  cases x with
  | str z =>
    obtain ⟨t, rfl⟩ := r
    cases (show T = "str" from ty)
    exact ⟨typeIs_str s z t, fun _ e => nomatch e⟩
  | int i =>
    obtain ⟨t, rfl⟩ := r
    cases (show T = "int" from ty)
    exact ⟨typeIs_int s i t, fun _ e => nomatch e⟩
  | ref p =>
    cases r
    rcases ty with ⟨rfl, xs, hq⟩ | ⟨rfl, o, hk, hc, hd⟩ | ⟨rfl, hk⟩ | ⟨rfl, S, n, hk⟩
    · obtain ⟨its, _, pl, _⟩ := I.list hq
      refine ⟨pl.isList.typeIs, fun a e => ?_⟩
      cases e
      obtain ⟨o, n, e, c, hd, _⟩ := pl
      exact ⟨o, e, hd⟩
    · refine ⟨⟨o, I.kIn p o hk, hc⟩, fun a e => ?_⟩
      cases e
      exact ⟨o, I.kIn _ o hk, hd⟩
    · have z : ∃ o, s.heap.get? p = some o ∧ o.ExactDict := by
        rcases hk with ⟨kvs, hk⟩ | ⟨kvs, hk⟩
        · obtain ⟨_, _, _, _, o, _, _, e, ex, _⟩ := I.hok p _ hk
          exact ⟨o, e, ex⟩
        · obtain ⟨_, _, _, _, o, _, _, e, ex, _⟩ := I.hok p _ hk
          exact ⟨o, e, ex⟩
      obtain ⟨o, e, ex⟩ := z
      refine ⟨⟨o, e, ex.1⟩, fun a e2 => ?_⟩
      cases e2
      exact ⟨o, e, ex.2.1⟩
    · obtain ⟨o, _, _, _, e, ex, _⟩ := I.hok p _ hk
      refine ⟨⟨o, e, ex.1⟩, fun a e2 => ?_⟩
      cases e2
      exact ⟨o, e, ex.2.1⟩
  | _ => exact False.elim ty
inductive TBM0I (K : PySem.W.Frag) (T : String) (r : V → List V → Hp → VK → Prop) (x : V) (H1 : Hp) (Q : VK) : Prop where
  | mk (c1 : tyV K T x H1) (c2 : r x [] H1 Q)
def tBM0 (K : PySem.W.Frag) (T : String) (r : V → List V → Hp → VK → Prop) (to : TE) : TE := fun σ H Q => to σ H fun x H1 => TBM0I K T r x H1 Q
inductive TBMI (K : PySem.W.Frag) (T : String) (r : V → List V → Hp → VK → Prop) (t : TA) (σ : L2.St) (x : V) (H1 : Hp) (Q : VK) : Prop where
  | mk (c1 : tyV K T x H1) (c2 : t σ H1 fun xs H2 => r x xs H2 Q)
def tBM (K : PySem.W.Frag) (T : String) (r : V → List V → Hp → VK → Prop) (to : TE) (t : TA) : TE := fun σ H Q => to σ H fun x H1 => TBMI K T r t σ x H1 Q
variable {o e : Expr} {es : List Expr} {to : TE} {t : TA} {name : Str} {apos cpos : Pos} {T id : String} {r : V → List V → Hp → VK → Prop}
theorem pe_bm0 (pa : PlainAttrs T) (slot : Slot T name id) (hty : typeOf (.builtin id) = pure (.type "method_descriptor")) (hm : MtR X id r) (ho : PE X o to)
    (hbase : attributeBase o name X.env (eval o X.env) = eval o X.env := by rfl) (hline : (apos.endLine == cpos.line) = true := by rfl) : PE X (.Call (.Attribute o name apos) [] [] cpos) (tBM0 X.K T r to) := by
  intro pins s σ H Q I h
  refine wpAny_Call_method0_late hbase hline (thn (ho pins s σ H _ I h) fun v s1 ⟨x, H1, I1, r1, ty, q1⟩ => ?_)
  obtain ⟨h1, h2⟩ := tyV_is I1 r1 ty
  exact ⟨T, id, pa, slot, hty, h1, h2, Calls.callWith_builtin rfl (PySem.evalArgs_none (hm pins s1 σ H1 x [] v [] Q I1 r1 .nil q1))⟩
theorem pe_bm (pa : PlainAttrs T) (slot : Slot T name id) (hty : typeOf (.builtin id) = pure (.type "method_descriptor")) (hm : MtR X id r) (ho : PE X o to) (ha : PA X (e :: es) t)
    (hbase : attributeBase o name X.env (eval o X.env) = eval o X.env := by rfl)
    (hfew : ((backTo cpos (starEach (e :: es) X.env)).all (fun x => !x.1) && (backToKw cpos (keywordEach [] X.env)).all (fun x => x.1.isSome)
      && decide ((e :: es).length + ([] : List Keyword).length + (if ([] : List Keyword).isEmpty then 0 else 1) < 30)) = true := by rfl)
    (hline : (apos.endLine == cpos.line) = true := by rfl) (hs : starEach (e :: es) X.env = (false, eval e X.env) :: starEach es X.env := by rfl) (hplain : (backTo cpos (starEach es X.env)).any (·.1) = false := by rfl) :
    PE X (.Call (.Attribute o name apos) (e :: es) [] cpos) (tBM X.K T r to t) := by
  intro pins s σ H Q I h
  refine wpAny_Call_method_late hbase hfew hline rfl (thn (ho pins s σ H _ I h) fun v s1 ⟨x, H1, I1, r1, ty, q1⟩ => ?_)
  obtain ⟨h1, h2⟩ := tyV_is I1 r1 ty
  refine ⟨T, id, pa, slot, hty, h1, h2, ?_⟩
  have hA := ha cpos pins s1 σ H1 _ I1 q1
  rw [hs] at hA ⊢
  refine Calls.callWith_builtin (by show (false || (backTo cpos (starEach es X.env)).any (·.1)) = false; rw [hplain] <;> rfl) (Calls.evalArgs_plain ?_)
  exact thn hA fun us s2 ⟨vs, H2, I2, r2, q2⟩ => hm pins s2 σ H2 x vs v us Q I2 r1 r2 q2
/- xs.append(e), list.index on a module's tuple .. are MtR facts of 06m -/
end
end L2

namespace L2
open PySem PySem.Spec PyProof.Rows

def MtM (X : Cx) (id : String) (r : V → List V → Hp → VK → Prop) : Prop :=
  ∀ (pins : List (Addr × Obj)) (s : Shared) (σ : St) (H : Hp) (x : V) (xs : List V) (v : Value) (us : List Value) (Q : VK), Inv X pins σ H s → RelV x v → Vals xs us → r x xs H Q →
    wpAny (model X.prog X.w) X.A (call (.builtin id) (v :: us)) (EP X pins σ Q) X.xe s

/-! ### lists of values -/
theorem Vals.one : ∀ {x : V} {us : List Value}, Vals [x] us → ∃ u, us = [u] ∧ RelV x u
  | _, _, .cons r .nil => ⟨_, rfl, r⟩
theorem Vals.two : ∀ {x y : V} {us : List Value}, Vals [x, y] us → ∃ u v, us = [u, v] ∧ RelV x u ∧ RelV y v
  | _, _, _, .cons r (.cons q .nil) => ⟨_, _, rfl, r, q⟩
theorem Vals.zero : ∀ {us : List Value}, Vals [] us → us = []
  | _, .nil => rfl
theorem Vals.dropLast {xs : List V} {us : List Value} (h : Vals xs us) : Vals xs.dropLast us.dropLast := by
  induction h with
  | nil => exact .nil
  | cons r t ih =>
    cases t with
    | nil => exact .nil
    | cons q t' => exact .cons r ih
theorem Vals.eraseIdx : ∀ {xs : List V} {us : List Value} (i : Nat), Vals xs us → Vals (xs.eraseIdx i) (us.eraseIdx i)
  | _, _, _, .nil => .nil
  | _, _, 0, .cons _ t => t
  | _, _, i + 1, .cons r t => .cons r (Vals.eraseIdx i t)
theorem Vals.reverse {xs : List V} {us : List Value} (h : Vals xs us) : Vals xs.reverse us.reverse := by
  induction h with
  | nil => exact .nil
  | cons r t ih => rw [List.reverse_cons, List.reverse_cons]; exact Vals.append ih (.cons r .nil)
theorem erase_last {α : Type} (l : List α) : l.eraseIdx (l.length - 1) = l.dropLast := by
  induction l with
  | nil => rfl
  | cons a r ih =>
    cases r with
    | nil => rfl
    | cons b r =>
      have e : (a :: b :: r).length - 1 = ((b :: r).length - 1) + 1 := by
        have h1 : (a :: b :: r).length = r.length + 2 := rfl
        have h2 : (b :: r).length = r.length + 1 := rfl
        omega
      rw [e, List.eraseIdx_cons_succ, ih]
      all_goals rfl

section
variable {X : Cx} {pins : List (Addr × Obj)} {σ : St} {H : Hp} {s : Shared} {l b : Addr} {xs ys zs : List V}

/-! ### the two steps: a tracked list is rewritten, a new list is laid -/
theorem Inv.lset {its its' : List Value} {n : Nat} {f : Array Value → Array Value} {t' : Nat} (I : Inv X pins σ H s) (hH : H l = some (.lst xs))
    (e : s.heap.get? l = some { cls := .type "list", data := .seq its.toArray n }) (hf : f its.toArray = its'.toArray) (hv : Vals ys its') (hz : ys.length ≤ sizeLine) :
    Inv X pins σ (upd H l (.lst ys)) { s with heap := s.heap.update l (Obj.mapSeq f), toks := t' } := by
  have q := PySem.IsL.update e f
  rw [hf] at q
  refine I.write (x := l) (e := l) (by rw [hH]; exact trivial) (.inl rfl) (fun b' u hb hu => (Heap.get?_update_other s.heap (Obj.mapSeq f) (Ne.symm hb)).trans hu) ⟨_, q⟩ ?_
  exact ⟨hz, its', _, hv, q⟩
theorem Inv.lnew {its : List Value} {t' : Nat} (I : Inv X pins σ H s) (hv : Vals ys its) (hz : ys.length ≤ sizeLine) :
    Inv X pins σ (upd H s.heap.objs.size (.lst ys)) { s with heap := s.heap.push { cls := .type "list", data := .seq its.toArray }, toks := t' } :=
  I.laid (fun _ _ q => Heap.get?_push_of_some _ q) (Nat.le_refl _) ⟨hz, its, 0, hv, Heap.get?_push_size _ rfl⟩
theorem Inv.fresh (I : Inv X pins σ H s) : H s.heap.objs.size = none := I.hok.fresh (Nat.le_refl _)
theorem Inv.lstM (I : Inv X pins σ H s) (hH : H l = some (.lst xs)) : xs.length ≤ sizeLine ∧ ∃ (its : List Value) (n : Nat), Vals xs its ∧ xs.length = its.length ∧ s.heap.get? l = some { cls := .type "list", data := .seq its.toArray n } := by
  obtain ⟨z, its, n, r, e⟩ := I.hok l _ hH
  exact ⟨z, its, n, r, r.length, e⟩

theorem notLongL {n : Nat} (h : n ≤ sizeLine) : Builtin.List.listTooLong n = false := by
  unfold Builtin.List.listTooLong
  exact decide_eq_false (by omega)
end

section
variable {X : Cx}

/-! ### methods -/
def rAppend : V → List V → Hp → VK → Prop := fun x vs H Q => ∃ l xs y, x = .ref l ∧ vs = [y] ∧ H l = some (.lst xs) ∧ xs.length < sizeLine ∧ Q .non (upd H l (.lst (xs ++ [y])))
theorem mt_append : MtM X "list.append" rAppend := by
  intro pins s σ H x vs v us Q I rx rv h
  obtain ⟨l, xs, y, rfl, rfl, hH, hz, q⟩ := h
  cases rx
  obtain ⟨u, rfl, ru⟩ := rv.one
  obtain ⟨z, its, n, r, hl, e⟩ := I.lstM hH
  refine call_meets F.slot_list_append ⟨_, e, rfl⟩ F.entry_list_append (F.args_list_append_2 _ _) (PySem.list_append l its.toArray n u (by rw [List.size_toArray]; omega)) ⟨e, ?_⟩
  refine ⟨.non, _, I.lset (its' := its ++ [u]) hH e (by simp) (r.append (.cons ru .nil)) ?_, rfl, q⟩
  rw [List.length_append, List.length_singleton]
  omega

def rExtend : V → List V → Hp → VK → Prop := fun x vs H Q => ∃ l b xs zs, x = .ref l ∧ vs = [.ref b] ∧ H l = some (.lst xs) ∧ H b = some (.lst zs) ∧ xs.length + zs.length ≤ sizeLine ∧ Q .non (upd H l (.lst (xs ++ zs)))
theorem mt_extend : MtM X "list.extend" rExtend := by
  intro pins s σ H x vs v us Q I rx rv h
  obtain ⟨l, b, xs, zs, rfl, rfl, hH, hB, hz, q⟩ := h
  cases rx
  obtain ⟨u, rfl, ru⟩ := rv.one
  cases ru
  obtain ⟨z, its, n, r, hl, e⟩ := I.lstM hH
  obtain ⟨z2, its2, n2, r2, hl2, e2⟩ := I.lstM hB
  have hsz : its.toArray.size + its2.toArray.size ≤ sizeLine := by rw [List.size_toArray, List.size_toArray]; omega
  have hlong : ¬ (!its.toArray.isEmpty && Builtin.List.listTooLong (its.toArray.size + its2.toArray.size)) = true := by
    rw [notLongL hsz, Bool.and_false]
    exact Bool.false_ne_true
  refine call_meets F.slot_list_extend ⟨_, e, rfl⟩ F.entry_list_extend (F.args_list_extend_2 _ _)
    (AutoSeq1.list_extend_list_list_0 l its.toArray n b its2.toArray n2 hlong (by rw [List.size_toArray]; omega) (by omega)) ⟨e, e2, ?_⟩
  refine ⟨.non, _, I.lset (its' := its ++ its2) hH e (by simp) (r.append r2) ?_, rfl, q⟩
  rw [List.length_append]
  omega

def rPop : V → List V → Hp → VK → Prop := fun x vs H Q => ∃ l xs y, x = .ref l ∧ vs = [] ∧ H l = some (.lst xs) ∧ xs[xs.length - 1]? = some y ∧ Q y (upd H l (.lst xs.dropLast))
theorem mt_pop : MtM X "list.pop" rPop := by
  intro pins s σ H x vs v us Q I rx rv h
  obtain ⟨l, xs, y, rfl, rfl, hH, hy, q⟩ := h
  cases rx
  have hus := rv.zero
  subst hus
  obtain ⟨z, its, n, r, hl, e⟩ := I.lstM hH
  obtain ⟨u, hu, ru⟩ := r.get hy
  have hy' : its.toArray[its.toArray.size - 1]? = some u := by
    show its.toArray[its.length - 1]? = some u
    rw [← Array.getElem?_toList, ← hl]
    exact hu
  refine call_meets F.slot_list_pop ⟨_, e, rfl⟩ F.entry_list_pop (F.args_list_pop_1 _) (MeetsSeq.list_pop_last l its.toArray n u hy' (by rw [List.size_toArray]; omega)) ⟨e, ?_⟩
  refine ⟨y, _, I.lset (its' := its.dropLast) hH e ?_ r.dropLast ?_, ru, q⟩
  · show its.toArray.eraseIdxIfInBounds (its.toArray.size - 1) = its.dropLast.toArray
    rw [List.size_toArray, List.eraseIdxIfInBounds_toArray, erase_last]
  · rw [List.length_dropLast]
    omega




/-! ### list + list, list += list, list * int -/
def rCat : R2 := fun x y H Q => ∃ l b xs zs, x = .ref l ∧ y = .ref b ∧ H l = some (.lst xs) ∧ H b = some (.lst zs) ∧ xs.length + zs.length ≤ sizeLine ∧ ∀ p, H p = none → Q (.ref p) (upd H p (.lst (xs ++ zs)))
theorem op_cat : OpR X (binaryOp .Add) rCat := by
  intro pins s σ H x y v u Q I rx ry h
  obtain ⟨l, b, xs, zs, rfl, rfl, hH, hB, hz, q⟩ := h
  cases rx
  cases ry
  obtain ⟨z, its, n, r, hl, e⟩ := I.lstM hH
  obtain ⟨z2, its2, n2, r2, hl2, e2⟩ := I.lstM hB
  refine PySem.P.add_list e e2 ?_ (by rw [List.size_toArray, List.size_toArray]; omega)
  have ea : its.toArray ++ its2.toArray = (its ++ its2).toArray := by simp
  rw [ea]
  exact ⟨.ref _, _, I.lnew (t' := s.toks) (r.append r2) (by rw [List.length_append]; omega), rfl, q _ I.fresh⟩

/-! ### del xs[i] -/
end

/-! ### xs[a:b] = ys -/
section
variable {prog : Program} {w : World} {A : Around} {E : Value → Shared → Prop} {s : Shared}
set_option maxRecDepth 100000 in
end

section
variable {X : Cx}
end
end L2


namespace L2
open PySem PySem.Spec PyProof.Rows

/-! ### lists of pairs as tables -/
section
variable {κ : Type} [DecidableEq κ]
def valV (kvs : List (κ × V)) (k : κ) : Option V := (kvs.find? fun kv => decide (kv.1 = k)).map (·.2)
/-- in its place, or at the end -/
def putK (kvs : List (κ × V)) (k : κ) (v : V) : List (κ × V) :=
  if (kvs.any fun kv => decide (kv.1 = k)) = true then kvs.map (fun kv => if kv.1 = k then (kv.1, v) else kv) else kvs ++ [(k, v)]
def dropK (kvs : List (κ × V)) (k : κ) : List (κ × V) := kvs.filter fun kv => decide (kv.1 ≠ k)

theorem valV_pos {p : κ × V} {r : List (κ × V)} {k : κ} (e : p.1 = k) : valV (p :: r) k = some p.2 := by simp [valV, List.find?_cons, e]
theorem valV_neg {p : κ × V} {r : List (κ × V)} {k : κ} (e : ¬ p.1 = k) : valV (p :: r) k = valV r k := by simp [valV, List.find?_cons, e]
theorem valV_any (k : κ) : ∀ kvs : List (κ × V), (kvs.any fun kv => decide (kv.1 = k)) = (valV kvs k).isSome
  | [] => rfl
  | p :: r => by
    rw [List.any_cons]
    by_cases e : p.1 = k
    · simp only [valV_pos e, decide_eq_true e, Bool.true_or, Option.isSome_some]
    · rw [valV_neg e, decide_eq_false e, Bool.false_or]; exact valV_any k r

theorem RelO.isSome_eq {o : Option V} {u : Option Value} (r : RelO o u) : o.isSome = u.isSome := by
  cases o with
  | none => cases u with
    | none => rfl
    | some _ => exact (show False from r).elim
  | some _ => cases u with
    | none => exact (show False from r).elim
    | some _ => rfl
theorem RelO.getD {o : Option V} {u : Option Value} {d : V} {d' : Value} (r : RelO o u) (rd : RelV d d') : RelV (o.getD d) (u.getD d') := by
  cases o with
  | none => cases u with
    | none => exact rd
    | some _ => exact (show False from r).elim
  | some _ => cases u with
    | none => exact (show False from r).elim
    | some _ => exact r

/-- raw tables of the same keys -/
theorem KV.val {kvs : List (κ × V)} {vs : List (κ × Value)} (r : KV kvs vs) (k : κ) : RelO (valV kvs k) (valueAt vs k) := by
  unfold KV at r
  induction r with
  | nil => exact True.intro
  | @cons p q ps qs h t ih =>
    obtain ⟨h1, h2⟩ := h
    by_cases e : p.1 = k
    · have e' : q.1 = k := h1.symm.trans e
      have b : valueAt (q :: qs) k = some q.2 := by simp [valueAt, List.find?_cons, e']
      rw [valV_pos e, b]; exact h2
    · have e' : ¬ q.1 = k := fun z => e (h1.trans z)
      have b : valueAt (q :: qs) k = valueAt qs k := by simp [valueAt, List.find?_cons, e']
      rw [valV_neg e, b]; exact ih
theorem KV.any {kvs : List (κ × V)} {vs : List (κ × Value)} (r : KV kvs vs) (k : κ) : (kvs.any fun kv => decide (kv.1 = k)) = vs.any fun kv => decide (kv.1 = k) := by
  unfold KV at r
  induction r with
  | nil => rfl
  | cons h t ih => rw [List.any_cons, List.any_cons, ih, h.1]
theorem KV.repl {kvs : List (κ × V)} {vs : List (κ × Value)} (r : KV kvs vs) (k : κ) {y : V} {u : Value} (ry : RelV y u) :
    KV (kvs.map fun kv => if kv.1 = k then (kv.1, y) else kv) (vs.map fun kv => if kv.1 = k then (kv.1, u) else kv) := by
  unfold KV at r ⊢
  induction r with
  | nil => exact .nil
  | @cons p q ps qs h t ih =>
    rw [List.map_cons, List.map_cons]
    refine .cons ?_ ih
    obtain ⟨h1, h2⟩ := h
    by_cases e : p.1 = k
    · rw [if_pos e, if_pos (h1.symm.trans e)]; exact ⟨h1, ry⟩
    · rw [if_neg e, if_neg (fun z => e (h1.trans z))]; exact ⟨h1, h2⟩
theorem KV.put {kvs : List (κ × V)} {vs : List (κ × Value)} (r : KV kvs vs) (k : κ) {y : V} {u : Value} (ry : RelV y u) : KV (putK kvs k y) (stored vs k u) := by
  unfold putK stored
  rw [r.any k]
  by_cases e : (vs.any fun kv => decide (kv.1 = k)) = true
  · rw [if_pos e, if_pos e]; exact r.repl k ry
  · rw [if_neg e, if_neg e]; exact Paired.snoc r ⟨rfl, ry⟩
theorem KV.drop {kvs : List (κ × V)} {vs : List (κ × Value)} (r : KV kvs vs) (k : κ) : KV (dropK kvs k) (without vs k) := by
  unfold KV at r ⊢
  unfold dropK without
  induction r with
  | nil => exact .nil
  | @cons p q ps qs h t ih =>
    obtain ⟨h1, h2⟩ := h
    rw [List.filter_cons, List.filter_cons]
    by_cases e : p.1 = k
    · have a : ¬ decide (p.1 ≠ k) = true := by simp [e]
      have b : ¬ decide (q.1 ≠ k) = true := by simp [h1.symm.trans e]
      rw [if_neg a, if_neg b]; exact ih
    · have e' : ¬ q.1 = k := fun z => e (h1.trans z)
      have a : decide (p.1 ≠ k) = true := by simp [e]
      have b : decide (q.1 ≠ k) = true := by simp [e']
      rw [if_pos a, if_pos b]; exact .cons ⟨h1, h2⟩ ih
theorem KV.keys {kvs : List (κ × V)} {vs : List (κ × Value)} (r : KV kvs vs) : kvs.map (·.1) = vs.map (·.1) := by
  unfold KV at r
  induction r with
  | nil => rfl
  | cons h t ih => rw [List.map_cons, List.map_cons, ih, h.1]
theorem KV.length {kvs : List (κ × V)} {vs : List (κ × Value)} (r : KV kvs vs) : kvs.length = vs.length := Paired.length r
end


/-! ### a tracked dict, its keys ints and texts or tuples of these -/
theorem kV_is {P : Program} {w : World} {k : Key} {u : Value} (r : RelV (kV k) u) : (mixKind P w).is k u = true := by
  cases k with
  | inl i => obtain ⟨t, e⟩ := (show ∃ t, u = Value.int i t from r); subst e; exact mixKind_int P w i t
  | inr x => obtain ⟨t, e⟩ := (show ∃ t, u = Value.str x t from r); subst e; exact mixKind_str P w x t
theorem items_are {P : Program} {w : World} : ∀ {ks : List Key} {us : List Value}, Vals (ks.map kV) us → ItemsAre (mixKind P w) ks us
  | [], _, r => by rw [List.map_nil] at r; cases r; exact .nil
  | k :: ks, _, r => by
    rw [List.map_cons] at r
    cases r with
    | cons h t => exact .cons (kV_is h) (items_are t)

/-- raw entries of a dict with tuple keys -/
abbrev KT (H : Hp) : List (List Key × V) → List (List Key × Addr × Value) → Prop := Paired fun p q => p.1 = q.1 ∧ H q.2.1 = some (.tup (p.1.map kV)) ∧ RelV p.2 q.2.2
theorem KT.val {H : Hp} {kvs : List (List Key × V)} {xs : List (List Key × Addr × Value)} (r : KT H kvs xs) (k : List Key) : RelO (valV kvs k) ((atKey xs k).map (·.2)) := by
  induction r with
  | nil => exact True.intro
  | @cons p q ps qs h t ih =>
    obtain ⟨h1, _, h2⟩ := h
    by_cases e : p.1 = k
    · have e' : q.1 = k := h1.symm.trans e
      have b : atKey (q :: qs) k = some q.2 := by simp [atKey, List.find?_cons, e']
      rw [valV_pos e, b]; exact h2
    · have e' : ¬ q.1 = k := fun z => e (h1.trans z)
      have b : atKey (q :: qs) k = atKey qs k := by simp [atKey, List.find?_cons, e']
      rw [valV_neg e, b]; exact ih
theorem KT.repl {H : Hp} {kvs : List (List Key × V)} {xs : List (List Key × Addr × Value)} (r : KT H kvs xs) (k : List Key) {y : V} {u : Value} (ry : RelV y u) :
    KT H (kvs.map fun kv => if kv.1 = k then (kv.1, y) else kv) (xs.map (putAt k u)) := by
  induction r with
  | nil => exact .nil
  | @cons p q ps qs h t ih =>
    rw [List.map_cons, List.map_cons]
    refine .cons ?_ ih
    obtain ⟨h1, h2, h3⟩ := h
    unfold putAt
    by_cases e : p.1 = k
    · rw [if_pos e, if_pos (h1.symm.trans e)]; exact ⟨h1, h2, ry⟩
    · rw [if_neg e, if_neg (fun z => e (h1.trans z))]; exact ⟨h1, h2, h3⟩
theorem KT.put {H : Hp} {kvs : List (List Key × V)} {xs : List (List Key × Addr × Value)} (r : KT H kvs xs) (k : List Key) {b : Addr} {y : V} {u : Value} (hb : H b = some (.tup (k.map kV))) (ry : RelV y u) :
    KT H (putK kvs k y) (storedH xs k b u) := by
  have e : (kvs.any fun kv => decide (kv.1 = k)) = (atKey xs k).isSome := by
    rw [valV_any, (r.val k).isSome_eq, Option.isSome_map]
  unfold putK storedH
  rw [e]
  by_cases q : (atKey xs k).isSome = true
  · rw [if_pos q, if_pos q]; exact r.repl k ry
  · rw [if_neg q, if_neg q]; exact Paired.snoc r ⟨rfl, hb, ry⟩
theorem KT.keeps {H H' : Hp} {kvs : List (List Key × V)} {xs : List (List Key × Addr × Value)} (r : KT H kvs xs) (ht : ∀ b ys, H b = some (.tup ys) → H' b = some (.tup ys)) : KT H' kvs xs :=
  Paired.mapP r fun _ _ z => ⟨z.1, ht _ _ z.2.1, z.2.2⟩

section
variable {P : Program} {w : World} {H : Hp} {h : Heap} {a : Addr}
theorem rd_of {u : HO} (ok : HOk P w H h) (e : Rd H a u) : ObjOk P w H h a u := e.ok ok
theorem dk_rd {kvs : List (Key × V)} (ok : HOk P w H h) (e : Rd H a (.dK kvs)) : kvs.length ≤ sizeLine ∧ (a == sysModules) = false ∧ ∃ vs, KV kvs vs ∧ h.DictOf (mixKind P w) a vs :=
  show ObjOk P w H h a (.dK kvs) from rd_of ok e
/-- a tracked tuple of ints and texts is a key -/
theorem key_of {ks : List Key} (ok : HOk P w H h) (e : H a = some (.tup (ks.map kV))) : (tupleKind (mixKind P w)).is h ks a := by
  obtain ⟨_, its, r, o, h1, h2, n, h3⟩ := (show ObjOk P w H h a (.tup (ks.map kV)) from ok a _ e)
  exact ⟨o, its.toArray, n, h1, h2, h3, by simpa using items_are r⟩
theorem dt_rd {kvs : List (List Key × V)} (ok : HOk P w H h) (e : Rd H a (.dT kvs)) : kvs.length ≤ sizeLine ∧ (a == sysModules) = false ∧
    ∃ xs, KT H kvs xs ∧ h.DictOfH (tupleKind (mixKind P w)) a xs := by
  obtain ⟨z, y, xs, r, o, es, ep, h1, h2, h3, h4, h5⟩ := (show ObjOk P w H h a (.dT kvs) from rd_of ok e)
  refine ⟨z, y, xs, r, o, es, ep, h1, h2, h3, h4, fun x hx => ?_, h5⟩
  have all : ∀ {l : List (List Key × V)} {m : List (List Key × Addr × Value)}, KT H l m → ∀ x ∈ m, (tupleKind (mixKind P w)).is h x.1 x.2.1 := by
    intro l m q
    induction q with
    | nil => intro x hx; exact nomatch hx
    | @cons p q ps qs hq t ih =>
      intro x hx
      rcases List.mem_cons.mp hx with e | hx
      · subst e
        exact key_of ok (by rw [← hq.1]; exact hq.2.1)
      · exact ih x hx
  exact all r x hx
end

/-- what the dict at a holds at the key y -/
def DGet (H : Hp) (a : Addr) (y : V) (r : Option V) : Prop :=
  (∃ kvs k, Rd H a (.dK kvs) ∧ y = kV k ∧ r = valV kvs k) ∨ ∃ kvs k b, Rd H a (.dT kvs) ∧ y = .ref b ∧ H b = some (.tup (k.map kV)) ∧ r = valV kvs k
/-- the heap behind a[y] = v -/
def DPut (H : Hp) (a : Addr) (y v : V) (H' : Hp) : Prop :=
  (∃ kvs k, H a = some (.dK kvs) ∧ y = kV k ∧ kvs.length < sizeLine ∧ H' = upd H a (.dK (putK kvs k v))) ∨
  ∃ kvs k b, H a = some (.dT kvs) ∧ y = .ref b ∧ H b = some (.tup (k.map kV)) ∧ kvs.length < sizeLine ∧ H' = upd H a (.dT (putK kvs k v))
theorem DGet.k {H : Hp} {a : Addr} {kvs : List (Key × V)} {k : Key} (e : H a = some (.dK kvs)) : DGet H a (kV k) (valV kvs k) := .inl ⟨kvs, k, .inl e, rfl, rfl⟩
theorem DGet.t {H : Hp} {a b : Addr} {kvs : List (List Key × V)} {k : List Key} (e : H a = some (.dT kvs)) (eb : H b = some (.tup (k.map kV))) : DGet H a (.ref b) (valV kvs k) := .inr ⟨kvs, k, b, .inl e, rfl, eb, rfl⟩
theorem DPut.k {H : Hp} {a : Addr} {kvs : List (Key × V)} {k : Key} {v : V} (e : H a = some (.dK kvs)) (hl : kvs.length < sizeLine) : DPut H a (kV k) v (upd H a (.dK (putK kvs k v))) := .inl ⟨kvs, k, e, rfl, hl, rfl⟩
theorem DPut.t {H : Hp} {a b : Addr} {kvs : List (List Key × V)} {k : List Key} {v : V} (e : H a = some (.dT kvs)) (eb : H b = some (.tup (k.map kV))) (hl : kvs.length < sizeLine) :
    DPut H a (.ref b) v (upd H a (.dT (putK kvs k v))) := .inr ⟨kvs, k, b, e, rfl, eb, hl, rfl⟩


section
variable {X : Cx} {pins : List (Addr × Obj)} {σ : St} {H : Hp} {s : Shared} {a : Addr} {y v : V} {u r : Value} {o : Option V} {A : Around} {E : Value → Shared → Prop}

theorem Inv.big (I : Inv X pins σ H s) : sysModules < s.heap.objs.size := by
  have h : mainGlobals < s.heap.objs.size := (I.mod.glob.keeps I.bk).lt
  exact Nat.lt_trans (by decide) h

theorem d_notIn {Q : Value → Shared → Prop} (hu : A.units + 1 < cLine) (I : Inv X pins σ H s) (g : DGet H a y o) (ry : RelV y u) (h : ∀ s', Inv X pins σ H s' → Q (.bool (!o.isSome)) s') :
    wpAny (model X.prog X.w) A (compareOp .NotIn u (.ref a)) Q E s := by
  rcases g with ⟨kvs, k, e, ey, l⟩ | ⟨kvs, k, b, e, ey, eb, l⟩
  · subst ey
    obtain ⟨z, hd, vs, rel, dd⟩ := dk_rd I.hok e
    refine wpAny_notIn_of (kV_is ry) hd dd.mapOf ?_
    rw [← (rel.val k).isSome_eq, ← l]
    exact h _ (I.tok _)
  · subst ey
    cases (show u = Value.ref b from ry)
    obtain ⟨z, hd, xs, rel, dd⟩ := dt_rd I.hok e
    refine wpAny_notIn_heap (tupleKind_room_in1 hu) (key_of I.hok eb) hd dd ?_
    have q := (rel.val k).isSome_eq
    rw [Option.isSome_map] at q
    rw [← q, ← l]
    exact h _ (I.tok _)
end

section
variable {X : Cx} {pins : List (Addr × Obj)} {σ : St} {H : Hp} {s : Shared} {a : Addr} {kvs : List (Key × V)} {k : Key} {u : Value} {A : Around} {E : Value → Shared → Prop}
/-- len(d) -/
theorem d_len {Q : Value → Shared → Prop} (I : Inv X pins σ H s) (e : Rd H a (.dK kvs)) (h : ∀ t s', Inv X pins σ H s' → Q (.int kvs.length t) s') : wpAny (model X.prog X.w) A (call (.builtin "len") [.ref a]) Q E s := by
  obtain ⟨z, hd, vs, rel, dd⟩ := dk_rd I.hok e
  refine call_len_dict hd dd (by rw [← rel.length]; rw [sizeLine_eq] at z; omega) ?_
  rw [← rel.length]
  exact h _ _ (I.tok _)
end


/-! ### readings and rules -/


inductive TDNotInI (x : V) (y : V) (H2 : Hp) (Q : VK) : Prop where
  | mk (a : _) (o : _) (c1 : x = .ref a) (c2 : DGet H2 a y o) (c3 : Q (.bl (!o.isSome)) H2)
def tDNotIn (ty td : TE) : TE := fun σ H Q => ty σ H fun y H1 => td σ H1 fun x H2 => TDNotInI x y H2 Q

section
variable {X : Cx} {o i e value : Expr} {pos pos' tpos : Pos} {td ty tv : TE}
theorem pc_dnotin (hu : X.A.units + 1 < cLine) (hi : PE X i ty) (ho : PE X o td) : PC X .NotIn i o (tDNotIn ty td) := by
  intro pins s σ H Q I h
  refine thn (hi pins s σ H _ I h) fun iv s1 ⟨y, H1, I1, ry, q1⟩ => thn (ho pins s1 σ H1 _ I1 q1) fun u s2 ⟨x, H2, I2, rx, a, ov, ex, g, q2⟩ => ?_
  subst ex
  obtain rfl : u = Value.ref a := rx
  exact d_notIn hu I2 g ry fun s3 I3 => ⟨.bl (!ov.isSome), H2, I3, rfl, q2⟩
end


/-! ### displays -/
section
variable {X : Cx} {pos : Pos}
end




/-! ### methods -/
/-- a method call o.m(e) of a built-in, with one argument: what must be seen of the text -/
structure M1 (X : Cx) (o : Expr) (m : Str) (apos : Pos) (e : Expr) (cpos : Pos) : Prop where
  base : attributeBase o m X.env (eval o X.env) = eval o X.env
  few : ((backTo cpos (starEach [e] X.env)).all (fun x => !x.1) && (backToKw cpos (keywordEach [] X.env)).all (fun x => x.1.isSome)
    && decide (([e] : List Expr).length + ([] : List Keyword).length + (if ([] : List Keyword).isEmpty then 0 else 1) < 30)) = true
  line : (apos.endLine == cpos.line) = true
  trees : backTo cpos (starEach [e] X.env) = [(false, eval e X.env)]
structure M2 (X : Cx) (o : Expr) (m : Str) (apos : Pos) (e f : Expr) (cpos : Pos) : Prop where
  base : attributeBase o m X.env (eval o X.env) = eval o X.env
  few : ((backTo cpos (starEach [e, f] X.env)).all (fun x => !x.1) && (backToKw cpos (keywordEach [] X.env)).all (fun x => x.1.isSome)
    && decide (([e, f] : List Expr).length + ([] : List Keyword).length + (if ([] : List Keyword).isEmpty then 0 else 1) < 30)) = true
  line : (apos.endLine == cpos.line) = true
  trees : backTo cpos (starEach [e, f] X.env) = [(false, eval e X.env), (false, eval f X.env)]


section
variable {X : Cx} {pins : List (Addr × Obj)} {σ : St} {H : Hp} {s : Shared} {a : Addr} {y d : V} {u r : Value} {o : Option V} {A : Around} {E : Value → Shared → Prop}
end

section
variable {X : Cx} {o e f : Expr} {apos cpos : Pos} {td ty tx : TE}
end

/-! ### dict(d): a copy -/
section
variable {X : Cx} {pins : List (Addr × Obj)} {σ : St} {H : Hp} {s : Shared} {a : Addr} {kvs : List (Key × V)} {A : Around} {E : Value → Shared → Prop}
end


section
variable {X : Cx} {pins : List (Addr × Obj)} {σ : St} {H : Hp} {s : Shared} {a : Addr} {y : V} {u : Value} {A : Around} {E : Value → Shared → Prop}
end
end L2

namespace Att
open PySem PySem.W PySem.Calls PyProof.Rows

/-! ### the script -/
theorem ints_of_wellAll {P : Params} {h : Heap} : ∀ (ns : List Int) (vs : List Value), WellAll P h vs (ns.map WData.int) → IntsAre vs ns := by
  intro ns
  induction ns with
  | nil =>
    intro vs w
    rw [List.map_nil] at w
    cases w
    exact .nil
  | cons n ns ih =>
    intro vs w
    rw [List.map_cons] at w
    cases w with
    | cons a b =>
      cases a
      exact .cons _ _ (ih _ b)

theorem script_of {l : OpenLaw} {n : Nat} (hn : l.most = some n) {P : Params} {h : Heap} {args : List WData} {vals : List Value}
    (hpre : l.row.toRowW.claim.pre args = true) (hwl : WellAll P h vals args) :
    ∃ a vs ns, vals = [Value.ref a] ∧ args = [WData.list (ns.map WData.int)] ∧ h.get? a = some { cls := .type "list", data := .seq vs.toArray } ∧ IntsAre vs ns ∧ ns.length ≤ n := by
  have hsh : WShape.hasAll [] args [.list .int] = true := (pre_splitW hpre).1
  have hc : l.pre.holds [] { args := args } = true := (pre_splitW hpre).2
  obtain ⟨d, r, rfl, h1, h2⟩ := hasAllW_cons hsh
  obtain rfl := hasAllW_nil h2
  obtain ⟨xs, rfl, h3⟩ := hasW_list h1
  obtain ⟨ns, rfl⟩ := items_int h3
  have hlen : ns.length ≤ n := by
    unfold OpenLaw.pre at hc
    have h4 : (WTm.not (.lt (.lit (.int (n : Int))) (.len (.arg 0)))).holds [] { args := [.list (ns.map .int)] } = true := by
      have h4 := (holds_andW hc).1
      rw [hn] at h4
      exact h4
    have h5 := condW_of h4 (w_not (w_lt w_lit (w_len_list (w_arg rfl))))
    rw [List.length_map] at h5
    refine Nat.le_of_not_lt fun q => ?_
    have q' : (n : Int) < ((ns.length : Nat) : Int) := by omega
    first
      | (rw [decide_eq_true q'] at h5; exact absurd h5 (by decide))
      | (simp at h5; omega)
  cases hwl with
  | cons w1 w2 =>
    cases w2
    cases w1 with
    | list ho hall => exact ⟨_, _, ns, rfl, rfl, ho, ints_of_wellAll ns _ hall, hlen⟩

theorem post_true (l : OpenLaw) (args : List WData) : l.row.toRowW.claim.post args (.bool true) args = true :=
  postW_of (r := l.row.toRowW) (X := (true == true))
    (show WShape.has [] (.bool true) .bool = true by first | rfl | decide | simp [WShape.has, WShape.arms, WShape.armsAll])
    (show (WTm.eq .res (.lit (.bool true))).value [] { args := args, res := some (.bool true), after := args } = some (.bool (true == true)) from w_eq_bool (w_res rfl) w_lit) rfl

/-! ### the attachment: holds_open's last premise (the goal 'hc' behind k_head) from a wpAny of the law's body -/

/-- the same from a codeAny of the CALL (for a layer whose function contracts speak of calls) -/
theorem attach_call {l : OpenLaw} {n : Nat} {q : Program} {loose : List Str} {XP : (Str → Option Value) → Heap → Prop} {YP : World → Heap → Prop} {d : DefRec}
    (hn : l.most = some n) (hdf : d.params.defaults = [])
    (call : ∀ (w : World) (s₀ s₁ : Shared) (mg mb : Str → Option Value) (fa : Addr) (o : Obj) (pm cd doc : Value) (a : Addr) (vs : List Value) (ns : List Int),
      Ground q loose [] XP w s₀ mg mb s₁.heap → YP w s₁.heap →
      s₁.heap.get? fa = some o → o.data = .func (docDef d.name d.params d.body d.scope pm cd doc) → s₁.heap.CodeRec cd d.name → mg d.name = some (.ref fa) →
      s₁.heap.get? a = some { cls := .type "list", data := .seq vs.toArray } → IntsAre vs ns → ns.length ≤ n → s₁.gens = #[] →
      codeAny (model l.prog w) callerA (.call (.ref fa) ⟨[.ref a], []⟩) (fun r s' => r = .ok (.ret (.bool true)) ∧ OldK s₁.heap s'.heap ∧ s'.os = s₁.os ∧ AllBare s'.gens) s₁) :
    WalkO q loose XP YP l.row.toRowW d [] (fun f vs => PySem.call f vs) := by
  intro w s₀ s₁ mg mb G Y fa o pm cd doc dV kV ho hd hcd hD hmg hg args vals as hpre hlay hrd hwl hlo
  obtain rfl : dV = .none := Dflts.none hD hdf
  obtain rfl : kV = .none := Dflts.noKw hD
  obtain ⟨a, vs, ns, rfl, rfl, hobj, hints, hlen⟩ := script_of hn hpre hwl
  refine enter_call (codeAny_mono (call w s₀ s₁ mg mb fa o pm cd doc a vs ns G Y ho (fd_plain hd) hcd hmg hobj hints hlen hg) fun r s' hq => ?_)
  obtain ⟨rfl, h2, h3, h4⟩ := hq
  exact ⟨.inl ⟨.bool true, .bool true, [], rfl, fun _ => rfl, .bool true, post_true l _, fun _ => ⟨List.Pairwise.nil, fun _ hm => (nomatch hm)⟩⟩, h2, h3, h4⟩


/-! ### rules over ANY heap (no ledger) from facts about the written part K: the library's own take a ledger (News) for what they write -/
section
variable {prog : Program} {w : World} {A : Around} {E : Value → Shared → Prop} {s : Shared} {K : Frag}


/-- C(..): dict at size, instance at size + 1, then __init__ -/
theorem make_obj {R : Result → Shared → Prop} {C fI : Addr} {rest : List Value} {kw : List (Str × Value)}
    (X : K.In s.heap) (hm : makesIn K C = true) (hi : findIn K (.ref C) "__init__" = some (some (.ref fI))) (hf : isFn K (.ref fI) = true)
    (h : codeAny (model prog w) (A.under (.builtin "type.__call__" ⟨.ref C :: rest, kw⟩)) (.call (.ref fI) ⟨.ref (s.heap.objs.size + 1) :: rest, kw⟩) (InitBack (s.heap.objs.size + 1) R)
      { s with heap := (s.heap.push emptyDict).push (instObj C s.heap.objs.size) }) : codeAny (model prog w) A (.call (.ref C) ⟨rest, kw⟩) R s := by
  obtain ⟨hh, g, d, t, os⟩ := s
  exact make_core (makes_of X hm) (looks_findIn X hi) (fun self => bind_fn X self (beq_iff_eq.mp hf)) (.inl rfl) h

/-- x.name where the instance's dict holds the name and the class does not -/
theorem get_field {x C : Addr} {ox : Obj} {es : List DictEntry} {n : Nat} {name : Str} {expr : Bool} {v : Value} {Q : Value → Shared → Prop}
    (X : K.In s.heap) (I : PySem.W.InstAt s.heap x ox C (some (dictOf es n))) (hg : plainGet K C name = true) (hh : hasDictIn K C = true) (ha : findIn K (.ref C) name = some none)
    (hl : getL name es = some (some v)) (hv : handedIn v = true) (h : Q v { s with toks := s.toks + 1 }) : wpAny (model prog w) A (getAttr (.ref x) name expr) Q E s :=
  get_value X I (plainGet_of hg).1 (findObj_own hh ha rfl hl) hv h


/-! the whole heap as the ledger: makes every rule that writes through a ledger a rule over any heap -/
def ledger (h : Heap) (L d : Addr) : List (Addr × Obj) := (List.range h.objs.size).filterMap fun a => if a = L ∨ a = d then none else (h.get? a).map fun o => (a, o)

end
end Att

namespace L2
open PySem PySem.Spec PyProof.Rows

theorem vals_ints : ∀ {vs : List Value} {ns : List Int}, IntsAre vs ns → Vals (ns.map V.int) vs
  | _, _, .nil => .nil
  | _, _, .cons n t h => .cons ⟨t, rfl⟩ (vals_ints h)


end L2

namespace L2
open PySem PySem.Spec PyProof.Rows


end L2



/-! SHORT WORDS over the layer: a def of the text, its body, what a loop and a test want. -/
namespace L2
open PySem PySem.Spec PyProof.Rows

/-! ### the text by places -/
def defArgs (s : Stmt) : Arguments := match s with
  | .FunctionDef _ a _ _ _ _ _ _ _ _ => a
  | _ => { posonlyargs := [], args := [], vararg := none, kwonlyargs := [], kw_defaults := [], kwarg := none, defaults := [] }
def defBody (s : Stmt) : List Stmt := match s with
  | .FunctionDef _ _ b _ _ _ _ _ _ _ => b
  | _ => []
def defScope (s : Stmt) : Scope := match s with
  | .FunctionDef _ _ _ _ _ _ sc _ _ _ => sc
  | _ => { kind := .function, names := [], isGenerator := false, isCoroutine := false }

/-! ### no exception leaves a def -/
abbrev CX0 : CXT := fun _ _ _ _ _ _ => False
abbrev E0 : XK := fun _ _ _ => False
theorem pass0 {X : Cx} : Passes CX0 X E0 := fun _ _ _ _ _ _ _ h => h.elim

/-! ### a def (or method) of the text as it stands behind the top -/
structure Fun (K : PySem.W.Frag) (x qual : Str) (st : Stmt) (f : Addr) (fd : FuncData) : Prop where
  ex : ∃ (oc : Value) (od : Option Addr) (kV doc pm : Value) (an : Option Addr) (cdv ct : Value) (osl : Array (Option Value)),
    fd = PySem.W.fnOf x qual (defArgs st) (defBody st) (defScope st) .none kV doc pm an cdv ct ∧ K.lookup f = some ⟨oc, od, .func fd, osl⟩ ∧ PySem.W.codeIn K cdv qual = true
  kp : PySem.W.keepIn K (.ref f) = true
section
variable {P : Program} {w : World} {K : PySem.W.Frag} {mg : Str → Option Value} {base : Heap}
/-- THE RULE for a def: its body as a term of rules, and the reading of that term -/
theorem Fun.ok {x qual : Str} {st : Stmt} {f : Addr} {fd : FuncData} {N ps : List Str} {k : Nat} {sp : Sp} (F : Fun K x qual st f fd) (S : FnScope N ps (defScope st)) (len : ∀ vs H Q E, sp vs H Q E → vs.length = ps.length)
    (hbody : ∀ (cdv : Value) (A : Around) (outer : List Env) (s : Shared) (H : Hp) (vs : List V) (Q : VK) (E : XK), Room k (A.deeper (envOfC qual (defScope st) s.heap.objs.size f cdv)) → sp vs H Q E →
      ∃ t, PSs (cxOf CX0 P w K mg base N qual (defScope st) f cdv A outer s H E).nox (defBody st) t ∧ t { nx := fun _ H' => Q .non H', rt := Q } (start N vs) H) : FnOk P w K mg base CX0 (k + 1) f fd ps sp := by
  obtain ⟨oc, od, kV, doc, pm, an, cdv, ct, osl, rfl, lk, hcd⟩ := F.ex
  refine fn_of lk hcd S len fun A outer s H vs Q E hr hsp => ?_
  obtain ⟨t, h, q⟩ := hbody cdv A outer s H vs Q E hr hsp
  exact ⟨t, h.nox, q⟩
/-- how its arguments bind (no defaults): h is «fun _ _ _ _ _ _ us hl => match us, hl with | [_, _], _ => rfl», one _ a parameter -/
theorem Fun.binds {x qual : Str} {st : Stmt} {f : Addr} {fd : FuncData} {ps : List Str} (F : Fun K x qual st f fd)
    (h : ∀ (kV doc pm : Value) (an : Option Addr) (cdv ct : Value) (us : List Value), us.length = ps.length → bindArgs (PySem.W.fnOf x qual (defArgs st) (defBody st) (defScope st) .none kV doc pm an cdv ct) ⟨us, []⟩ = pure (ps.zip us)) : Binds K fd ps [] := by
  obtain ⟨oc, od, kV, doc, pm, an, cdv, ct, osl, rfl, lk, hcd⟩ := F.ex
  exact .all (h kV doc pm an cdv ct)
theorem fun_mk {x qual : Str} {st : Stmt} {f : Addr} {oc : Value} {od an : Option Addr} {osl : Array (Option Value)} {kV doc pm cdv ct : Value} (l : K.lookup f = some ⟨oc, od, .func (PySem.W.fnOf x qual (defArgs st) (defBody st) (defScope st) .none kV doc pm an cdv ct), osl⟩)
    (c : PySem.W.codeIn K cdv qual = true) (k : PySem.W.keepIn K (.ref f) = true) : Fun K x qual st f (PySem.W.fnOf x qual (defArgs st) (defBody st) (defScope st) .none kV doc pm an cdv ct) := ⟨⟨oc, od, kV, doc, pm, an, cdv, ct, osl, rfl, l, c⟩, k⟩
end
theorem hu_of {A : Around} {k : Nat} (hr : Room k A) : A.units + 1 < cLine := Nat.lt_of_le_of_lt (Nat.add_le_add_left (by decide : 1 ≤ 64) _) hr.units

/-! ### expressions in short: the name that stands in the i-th slot -/
section
variable {X : Cx}
theorem pv (i : Nat) {x : Str} {pos : Pos} (hN : X.N[i]? = some x := by rfl) (hv : Vis X.env.scope x := by first | exact Or.inl rfl | exact Or.inr (Or.inl rfl) | exact Or.inr (Or.inr rfl)) (hd : (x == ("__debug__" : Str)) = false := by decide)
    (hcd : (x == ("__classdict__" : Str)) = false := by decide) : PE X (.Name x pos) (tVar i) := pe_var hN hv hd hcd
/-- len of a dict -/
theorem call_lenD : CallR X (.builtin "len") (fun xs H Q => ∃ a kvs, xs = [V.ref a] ∧ H a = some (.dK kvs) ∧ Q (.int kvs.length) H) := by
  intro pins s σ H xs us Q I r h
  obtain ⟨a, kvs, rfl, ha, q⟩ := h
  obtain ⟨u, rfl, ru⟩ := vals1 r
  cases ru
  exact d_len I (.inl ha) fun t s' I' => ⟨.int kvs.length, H, I', ⟨t, rfl⟩, q⟩
end

/-! ### tests -/
theorem iteF {A B : Prop} (h : B) : if false = true then A else B := by
  rw [if_neg Bool.false_ne_true]
  exact h
theorem iteT {A B : Prop} (h : A) : if true = true then A else B := by
  rw [if_pos rfl]
  exact h

/-! ### heaps -/
/-- all that was tracked is as it was -/
def Same (H H' : Hp) : Prop := ∀ b o, H b = some o → H' b = some o
theorem Same.refl (H : Hp) : Same H H := fun _ _ h => h
theorem Same.trans {H H1 H2 : Hp} (a : Same H H1) (b : Same H1 H2) : Same H H2 := fun c o h => b c o (a c o h)
theorem Same.free {H H' : Hp} (e : Same H H') {l : Addr} (h : H' l = Option.none) : H l = Option.none := by
  cases q : H l with
  | none => rfl
  | some o =>
    rw [e l o q] at h
    cases h
theorem Same.seq {K : PySem.W.Frag} {H H' : Hp} {a : Addr} {xs : List V} (e : Same H H') (h : SqL K H a xs) : SqL K H' a xs := by
  rcases h with (h | ⟨o, h⟩) | h
  · exact .inl (.inl (e _ _ h))
  · exact .inl (.inr ⟨o, e _ _ h⟩)
  · exact .inr h

/-! ### a dict's pairs: keys that differ -/
section
variable {κ : Type} [DecidableEq κ]
end
end L2

set_option maxHeartbeats 4000000
/-! terms, their size, the paths of their steps: plain mathematics -/
namespace NC

/-- a term, over any kind of words -/
inductive T (W : Type) where
  | name (w : W)
  | place (n : Nat)
  | form (b : T W)
  | call (a b : T W)

variable {W : Type}

/-- how many parts -/
def T.size : T W → Nat
  | .name _ => 1
  | .place _ => 1
  | .form b => b.size + 1
  | .call a b => a.size + b.size + 1
/-- how deep -/
def T.deep : T W → Nat
  | .name _ => 1
  | .place _ => 1
  | .form b => b.deep + 1
  | .call a b => max a.deep b.deep + 1
theorem T.deep_le : ∀ t : T W, t.deep ≤ t.size
  | .name _ => Nat.le_refl _
  | .place _ => Nat.le_refl _
  | .form b => Nat.succ_le_succ b.deep_le
  | .call a b => by
    have h1 := a.deep_le
    have h2 := b.deep_le
    simp only [T.deep, T.size]
    omega
theorem T.size_pos : ∀ t : T W, 1 ≤ t.size
  | .name _ => Nat.le_refl _
  | .place _ => Nat.le_refl _
  | .form b => by simp only [T.size]; omega
  | .call a b => by simp only [T.size]; omega

def T.isForm : T W → Bool
  | .form _ => true
  | _ => false
/-- the paths of the calls of forms, a call ahead of those in it -/
def T.spots : T W → List (List Int)
  | .name _ => []
  | .place _ => []
  | .form b => b.spots.map (0 :: ·)
  | .call a b => (if a.isForm then [[]] else []) ++ (a.spots.map (0 :: ·) ++ b.spots.map (1 :: ·))

/-- behind a path -/
def under (p : List Int) (t : T W) : List (List Int) := t.spots.map (p ++ ·)


/-! ### the order of paths -/
/-- Python's order of two lists of whole numbers -/
def lex : List Int → List Int → Bool
  | [], [] => false
  | [], _ :: _ => true
  | _ :: _, [] => false
  | x :: xs, y :: ys => if x = y then lex xs ys else decide (x < y)




end NC
/-! raising, filling: over the parts of a term, and as the program does it with a pile -/
namespace NC
variable {W : Type}
/-- each part with the forms round it -/
def T.parts : Nat → T W → List (T W × Nat)
  | k, .name w => [(.name w, k)]
  | k, .place n => [(.place n, k)]
  | k, .form b => (.form b, k) :: b.parts (k + 1)
  | k, .call a b => (.call a b, k) :: (a.parts k ++ b.parts k)
/-- the same, the other one first -/
def T.lparts : Nat → T W → List (T W × Nat)
  | k, .name w => [(.name w, k)]
  | k, .place n => [(.place n, k)]
  | k, .form b => (.form b, k) :: b.lparts (k + 1)
  | k, .call a b => (.call a b, k) :: (b.lparts k ++ a.lparts k)
theorem parts_len : ∀ (t : T W) (k : Nat), (t.parts k).length = t.size
  | .name _, _ => rfl
  | .place _, _ => rfl
  | .form b, k => by show (b.parts (k + 1)).length + 1 = _; rw [parts_len b]; rfl
  | .call a b, k => by show (a.parts k ++ b.parts k).length + 1 = _; rw [List.length_append, parts_len a, parts_len b]; rfl
theorem lparts_len : ∀ (t : T W) (k : Nat), (t.lparts k).length = t.size
  | .name _, _ => rfl
  | .place _, _ => rfl
  | .form b, k => by show (b.lparts (k + 1)).length + 1 = _; rw [lparts_len b]; rfl
  | .call a b, k => by show (b.lparts k ++ a.lparts k).length + 1 = _; rw [List.length_append, lparts_len a, lparts_len b, Nat.add_comm b.size]; rfl
theorem parts_le : ∀ (t : T W) (k : Nat), ∀ q ∈ t.parts k, q.2 ≤ k + t.size
  | .name _, k, q, h => by rw [List.mem_singleton.mp h]; exact Nat.le_add_right _ _
  | .place _, k, q, h => by rw [List.mem_singleton.mp h]; exact Nat.le_add_right _ _
  | .form b, k, q, h => by
    rcases List.mem_cons.mp h with e | h
    · rw [e]; exact Nat.le_add_right _ _
    · have := parts_le b (k + 1) q h
      show q.2 ≤ k + (b.size + 1)
      omega
  | .call a b, k, q, h => by
    show q.2 ≤ k + (a.size + b.size + 1)
    rcases List.mem_cons.mp h with e | h
    · rw [e]; exact Nat.le_add_right _ _
    · rcases List.mem_append.mp h with h | h
      · have := parts_le a k q h
        omega
      · have := parts_le b k q h
        omega
def T.rebuild (g : T W → Nat → T W) : Nat → T W → T W
  | k, .name w => g (.name w) k
  | k, .place n => g (.place n) k
  | k, .form b => .form (b.rebuild g (k + 1))
  | k, .call a b => .call (a.rebuild g k) (b.rebuild g k)
section
variable {g : T W → Nat → T W}
end
/-- a leaf raised; a leaf filled -/
def liftG (by_ : Nat) : T W → Nat → T W
  | .place n, k => if k ≤ n then .place (n + by_) else .place n
  | t, _ => t
def T.lift (by_ : Nat) (t : T W) : T W := t.rebuild (liftG by_) 0
def fillG (u : T W) : T W → Nat → T W
  | .place n, k => if n < k then .place n else if n = k then u.lift k else .place (n - 1)
  | t, _ => t
def T.fill (t u : T W) : T W := t.rebuild (fillG u) 0
end NC
/-! ### list < list, of whole numbers -/
namespace NC
open PySem PyProof.Rows PySem.SeqAt
open PySem.AutoSeq1 (wpAny_loadPart')
open PySem.MeetsSeq PySem.MeetsSeq2 PySem.MeetsSeq3
end NC
/-! ### the library's sort, by questions: it puts in order (paths, by lex) -/
namespace NC
open PySem PySem.W PyProof.Rows
section
variable {α β : Type} {n : Nat} {lt : Nat → Nat → Bool}
/-- the tree asks places below n alone, and with these answers comes to R -/
def KOk (n : Nat) (lt : Nat → Nat → Bool) {α : Type} : KasT α → (α → Prop) → Prop
  | .ret a, R => R a
  | .ask i j k, R => i < n ∧ j < n ∧ KOk n lt (k (lt i j)) R
theorem KOk.mono {R R' : α → Prop} (m : ∀ a, R a → R' a) : ∀ {t : KasT α}, KOk n lt t R → KOk n lt t R'
  | .ret a, h => m a h
  | .ask _ _ k, h => ⟨h.1, h.2.1, KOk.mono m (t := k _) h.2.2⟩
theorem KOk.bind {f : α → KasT β} {R : β → Prop} : ∀ {t : KasT α}, KOk n lt t (fun a => KOk n lt (f a) R) → KOk n lt (t.bind f) R
  | .ret _, h => h
  | .ask _ _ k, h => ⟨h.1, h.2.1, KOk.bind (t := k _) h.2.2⟩
end
section
variable (key : Nat → List Int)
variable {key}
variable {n : Nat} {p : Array Nat}
/-- a turning about of 0 .. n - 1 -/
structure Pm (n : Nat) (p : Array Nat) : Prop where
  perm : p.Perm (List.toArray (List.range n))
theorem Pm.size (h : Pm n p) : p.size = n := by rw [h.perm.size_eq]; simp
theorem Pm.lt (h : Pm n p) {i : Nat} (hi : i < n) : p.getD i 0 < n := by
  have hi' : i < p.size := by rw [h.size]; exact hi
  have e : p.getD i 0 = p[i] := by simp [Array.getD, hi']
  rw [e]
  have m : p[i] ∈ (List.range n) := (Array.perm_iff_toList_perm.mp h.perm).mem_iff.mp (by simp)
  exact List.mem_range.mp m

end
end NC
/-! ### rules of our own over the hand layer: heaps that keep, deep ==, sorted lists of paths, isinstance -/
namespace NC
open PySem PySem.Spec PyProof.Rows L2

/-! #### what a step keeps -/
/-- all that is tracked stays, but at L -/
def Keep (L : List Addr) (H H' : Hp) : Prop := ∀ b o, b ∉ L → H b = some o → H' b = some o
def Tups (H H' : Hp) : Prop := ∀ b xs, H b = some (.tup xs) → H' b = some (.tup xs)
section
variable {L L' : List Addr} {H H1 H2 H' : Hp} {p l : Addr} {o : HO} {xs ys : List V}
theorem Keep.refl (L : List Addr) (H : Hp) : Keep L H H := fun _ _ _ h => h
theorem Keep.trans (a : Keep L H H1) (b : Keep L H1 H2) : Keep L H H2 := fun c o n h => b c o n (a c o n h)
theorem Keep.mono (a : Keep L H H1) (h : ∀ x ∈ L, x ∈ L') : Keep L' H H1 := fun c o n q => a c o (fun z => n (h c z)) q
theorem Keep.of_same (a : Same H H1) : Keep L H H1 := fun c o _ q => a c o q
theorem same_new (hp : H p = none) : Same H (upd H p o) := fun b u h => by rw [upd_ne (ne_of_none h hp)]; exact h
theorem keep_set (h : l ∈ L) : Keep L H (upd H l o) := fun b u n q => by
  rw [upd_ne (fun z => n (by rw [z]; exact h))]; exact q
theorem Tups.refl (H : Hp) : Tups H H := fun _ _ h => h
theorem Tups.trans (a : Tups H H1) (b : Tups H1 H2) : Tups H H2 := fun c o h => b c o (a c o h)
theorem Tups.of_same (a : Same H H1) : Tups H H1 := fun c _ h => a c _ h
theorem Keep.tups (a : Keep L H H1) (h : ∀ x ∈ L, ∃ ys, H x = some (.lst ys)) : Tups H H1 := fun c ys q => a c _ (fun z => by
  obtain ⟨zs, e⟩ := h c z
  rw [e] at q; cases q) q
theorem Keep.tup1 (a : Keep [l] H H1) (h : H l = some (.lst xs)) : Tups H H1 := a.tups fun x hx => ⟨xs, by rw [List.mem_singleton.mp hx]; exact h⟩
theorem Keep.at (a : Keep [l] H H1) {b : Addr} {u : HO} (h : H b = some u) (n : b ≠ l) : H1 b = some u := a b u (by simpa using n) h
theorem Keep.sub (a : Keep [l] H H1) (h : l ∈ L) : Keep L H H1 := a.mono fun x hx => by rw [List.mem_singleton.mp hx]; exact h
theorem same_keep {H0 : Hp} (s : Same H0 H) (k : Keep L H H1) (n : ∀ x ∈ L, H0 x = none) : Same H0 H1 := fun b o h => k b o (fun z => by rw [n b z] at h; cases h) (s b o h)
theorem same_keep1 {H0 : Hp} (s : Same H0 H) (k : Keep [l] H H1) (n : H0 l = none) : Same H0 H1 := same_keep s k fun x hx => by rw [List.mem_singleton.mp hx]; exact n
end

/-! #### tests -/
theorem ifT {c A B : Prop} [Decidable c] (hc : c) (h : A) : if decide c = true then A else B := by rw [decide_eq_true hc, if_pos rfl]; exact h
theorem ifF {c A B : Prop} [Decidable c] (hc : ¬ c) (h : B) : if decide c = true then A else B := by rw [decide_eq_false hc, if_neg Bool.false_ne_true]; exact h
theorem ifNT {c A B : Prop} [Decidable c] (hc : ¬ c) (h : A) : if (!decide c) = true then A else B := by rw [decide_eq_false hc]; exact h
theorem ifNF {c A B : Prop} [Decidable c] (hc : c) (h : B) : if (!decide c) = true then A else B := by rw [decide_eq_true hc]; exact h
theorem ifD {c A B : Prop} [Decidable c] (h1 : c → A) (h2 : ¬ c → B) : if decide c = true then A else B := by
  by_cases h : c
  · exact ifT h (h1 h)
  · exact ifF h (h2 h)
theorem ifB {b : Bool} {A B : Prop} (h1 : b = true → A) (h2 : b = false → B) : if b = true then A else B := by
  cases b with
  | true => exact h1 rfl
  | false => exact h2 rfl
theorem at0 {α : Type} {a : α} {r : List α} : atI (a :: r) 0 = some a := atI_nat (j := 0) rfl
theorem at1 {α : Type} {a b : α} {r : List α} : atI (a :: b :: r) 1 = some b := atI_nat (j := 1) rfl
theorem at2 {α : Type} {a b c : α} {r : List α} : atI (a :: b :: c :: r) 2 = some c := atI_nat (j := 2) rfl
theorem atL {α : Type} {xs : List α} {i : Int} (h0 : 0 ≤ i) (h1 : i < xs.length) : ∃ v, atI xs i = some v ∧ v ∈ xs := by
  have hj : i.toNat < xs.length := by omega
  refine ⟨xs[i.toNat], ?_, List.getElem_mem hj⟩
  have e : ((i.toNat : Nat) : Int) = i := by omega
  have q := atI_nat (xs := xs) (j := i.toNat) (v := xs[i.toNat]) (by simp [hj])
  rw [e] at q
  exact q
theorem small {n : Nat} (h : n ≤ 1000000) : n < sizeLine := by rw [sizeLine_eq]; omega
theorem small' {n : Nat} (h : n ≤ 1000000) : n ≤ sizeLine := Nat.le_of_lt (small h)

/-! #### terms in the heap -/
abbrev Tm := T Str
inductive TermAt (H : Hp) : V → Tm → Prop where
  | name {a : Addr} {w : Str} (h : H a = some (.tup [.str "name", .str w])) : TermAt H (.ref a) (.name w)
  | place {a : Addr} {n : Nat} (h : H a = some (.tup [.str "place", .int n])) : TermAt H (.ref a) (.place n)
  | form {a : Addr} {v : V} {b : Tm} (h : H a = some (.tup [.str "form", v])) (hb : TermAt H v b) : TermAt H (.ref a) (.form b)
  | call {a : Addr} {v u : V} {x y : Tm} (h : H a = some (.tup [.str "call", v, u])) (hx : TermAt H v x) (hy : TermAt H u y) : TermAt H (.ref a) (.call x y)
theorem TermAt.mono {H H' : Hp} {v : V} {t : Tm} (h : TermAt H v t) (k : Tups H H') : TermAt H' v t := by
  induction h with
  | name h => exact .name (k _ _ h)
  | place h => exact .place (k _ _ h)
  | form h _ ih => exact .form (k _ _ h) ih
  | call h _ _ i1 i2 => exact .call (k _ _ h) i1 i2
theorem TermAt.same {H H' : Hp} {v : V} {t : Tm} (h : TermAt H v t) (k : Same H H') : TermAt H' v t := h.mono (.of_same k)
/-- a term's tag -/
def tag : Tm → Str
  | .name _ => "name"
  | .place _ => "place"
  | .form _ => "form"
  | .call _ _ => "call"
theorem TermAt.tup {H : Hp} {v : V} {t : Tm} (h : TermAt H v t) : ∃ a x r, v = .ref a ∧ H a = some (.tup (.str (tag t) :: x :: r)) := by
  cases h with
  | name h => exact ⟨_, _, _, rfl, h⟩
  | place h => exact ⟨_, _, _, rfl, h⟩
  | form h _ => exact ⟨_, _, _, rfl, h⟩
  | call h _ _ => exact ⟨_, _, _, rfl, h⟩
theorem n_nf : ¬ (V.str "name" = V.str "form") := by decide +kernel
theorem n_nc : ¬ (V.str "name" = V.str "call") := by decide +kernel
theorem n_np : ¬ (V.str "name" = V.str "place") := by decide +kernel
theorem n_pf : ¬ (V.str "place" = V.str "form") := by decide +kernel
theorem n_pc : ¬ (V.str "place" = V.str "call") := by decide +kernel
theorem n_pn : ¬ (V.str "place" = V.str "name") := by decide +kernel
theorem n_fc : ¬ (V.str "form" = V.str "call") := by decide +kernel
theorem n_fn : ¬ (V.str "form" = V.str "name") := by decide +kernel
theorem n_fp : ¬ (V.str "form" = V.str "place") := by decide +kernel
theorem n_cf : ¬ (V.str "call" = V.str "form") := by decide +kernel
theorem n_cn : ¬ (V.str "call" = V.str "name") := by decide +kernel
theorem n_cp : ¬ (V.str "call" = V.str "place") := by decide +kernel

/-! #### lists of things -/
theorem paired_snoc_inv {α β : Type} {F : α → β → Prop} : ∀ {xs : List α} {ys : List β} {y : β}, Paired F xs (ys ++ [y]) → ∃ xs' x, xs = xs' ++ [x] ∧ Paired F xs' ys ∧ F x y
  | [], [], _, h => nomatch h
  | [], _ :: _, _, h => nomatch h
  | x :: xs, [], y, .cons r t => by
    cases t
    exact ⟨[], x, rfl, .nil, r⟩
  | x :: xs, z :: ys, y, .cons r t => by
    obtain ⟨xs', x', e, p, q⟩ := paired_snoc_inv (xs := xs) (ys := ys) t
    exact ⟨x :: xs', x', by rw [e]; rfl, .cons r p, q⟩
theorem paired_snoc {α β : Type} {F : α → β → Prop} {x : α} {y : β} (q : F x y) : ∀ {xs : List α} {ys : List β}, Paired F xs ys → Paired F (xs ++ [x]) (ys ++ [y])
  | _, _, .nil => .cons q .nil
  | _, _, .cons r t => .cons r (paired_snoc q t)
theorem snoc_of {α : Type} {xs : List α} (h : xs ≠ []) : ∃ ys y, xs = ys ++ [y] := ⟨xs.dropLast, xs.getLast h, (List.dropLast_concat_getLast h).symm⟩
theorem paired_nil {α β : Type} {F : α → β → Prop} {xs : List α} (p : Paired F xs ([] : List β)) : xs = [] := by cases p; rfl
theorem paired_get {α β : Type} {F : α → β → Prop} : ∀ {xs : List α} {ys : List β} {i : Nat} {x : α}, Paired F xs ys → xs[i]? = some x → ∃ y, ys[i]? = some y ∧ F x y
  | _, _, _, _, .nil, e => by simp at e
  | _, _, 0, _, .cons r _, e => by simp at e; subst e; exact ⟨_, rfl, r⟩
  | _, _, i + 1, x, .cons _ t, e => by
    obtain ⟨u, h1, h2⟩ := paired_get (i := i) (x := x) t (by simpa using e)
    exact ⟨u, by simpa using h1, h2⟩
theorem paired_imp {α β : Type} {F G : α → β → Prop} (f : ∀ a b, F a b → G a b) : ∀ {xs : List α} {ys : List β}, Paired F xs ys → Paired G xs ys
  | _, _, .nil => .nil
  | _, _, .cons r t => .cons (f _ _ r) (paired_imp f t)

/-! #### argument lists without a star: the side conditions by the expressions' heads alone -/
def plainE : Expr → Bool
  | .Starred .. => false
  | _ => true
theorem star_plain {e : Expr} {es : List Expr} {env : Env} (h : plainE e = true) : starEach (e :: es) env = (false, eval e env) :: starEach es env := by
  cases e <;> first | rfl | exact (Bool.false_ne_true h).elim
theorem star_any {pos : Pos} {env : Env} : ∀ {es : List Expr}, es.all plainE = true → (backTo pos (starEach es env)).any (·.1) = false
  | [], _ => rfl
  | e :: es, h => by
    rw [List.all_cons, Bool.and_eq_true] at h
    rw [star_plain h.1]
    show (false || (backTo pos (starEach es env)).any (·.1)) = false
    rw [star_any h.2]
    rfl
theorem star_all {pos : Pos} {env : Env} : ∀ {es : List Expr}, es.all plainE = true → (backTo pos (starEach es env)).all (fun x => !x.1) = true
  | [], _ => rfl
  | e :: es, h => by
    rw [List.all_cons, Bool.and_eq_true] at h
    rw [star_plain h.1]
    show (true && (backTo pos (starEach es env)).all (fun x => !x.1)) = true
    rw [star_all h.2]
    rfl
theorem pa_c {X : Cx} {e : Expr} {es : List Expr} {te : TE} {t : TA} (ha : PE X e te) (hr : PA X es t) (h : plainE e = true := by rfl) : PA X (e :: es) (tCons te t) := pa_cons ha hr (star_plain h)
section
variable {X : Cx} {x : Str} {p pos : Pos} {e : Expr} {es : List Expr} {t : TA} {id T : String} {r : List V → Hp → VK → Prop}
theorem pCB (hc : CallR X (.builtin id) r) (hg : Gl X x) (hm : X.mg x = none) (hv : bootBuiltins x = some (.builtin id)) (ha : PA X (e :: es) t) (h : (e :: es).all plainE = true := by rfl) (hn : x ≠ "__name__" := by decide) (hdb : (x == ("__debug__" : Str)) = false := by decide) :
    PE X (.Call (.Name x p) (e :: es) [] pos) (tCB r t) := by
  rw [List.all_cons, Bool.and_eq_true] at h
  exact pe_callB hc hg hm hv ha hn hdb (star_plain h.1) (star_any h.2)
theorem pCT (hc : CallR X (.type T) r) (hg : Gl X x) (hm : X.mg x = none) (hv : bootBuiltins x = some (.type T)) (ha : PA X (e :: es) t) (h : (e :: es).all plainE = true := by rfl) (hn : x ≠ "__name__" := by decide) (hdb : (x == ("__debug__" : Str)) = false := by decide) :
    PE X (.Call (.Name x p) (e :: es) [] pos) (tCB r t) := by
  rw [List.all_cons, Bool.and_eq_true] at h
  exact pe_callTy hc hg hm hv ha hn hdb (star_plain h.1) (star_any h.2)
end

/-! #### calls, methods, displays: the heap behind them is a letter -/
/-- a def of the text, ready to be called by its name -/
def GF (P : Program) (w : World) (K : PySem.W.Frag) (mg : Str → Option Value) (base : Heap) (CX : CXT) (k : Nat) (x : Str) (ps : List Str) (sp : Sp) : Prop :=
  ∃ f fd, FnOk P w K mg base CX k f fd ps sp ∧ mg x = some (.ref f) ∧ PySem.W.keepIn K (.ref f) = true ∧ Binds K fd ps []
section
variable {X : Cx} {CX : CXT} {k : Nat} {ps : List Str} {sp : Sp} {E : XK} {x : Str} {p pos : Pos} {e : Expr} {es : List Expr} {t : TA}
theorem pe_gf (G : GF X.prog X.w X.K X.mg X.base CX k x ps sp) (hr : Room k X.A) (hg : Gl X x) (hx : Passes CX X E) (ha : PA X (e :: es) t) (h : (e :: es).all plainE = true := by rfl) (hdb : (x == ("__debug__" : Str)) = false := by decide) :
    PE X (.Call (.Name x p) (e :: es) [] pos) (tCall sp [] E t) := by
  obtain ⟨f, fd, F, hm, hk, hb⟩ := G
  rw [List.all_cons, Bool.and_eq_true] at h
  exact pe_call F hr hg hm hk hb .nil hx ha hdb (star_plain h.1) (star_any h.2)
end
section
variable {X : Cx}
theorem OpR.imp {f : Value → Value → Sem Value} {r r' : R2} (h : OpR X f r) (m : ∀ x y H Q, r' x y H Q → r x y H Q) : OpR X f r' := fun pins s σ H x y v u Q I rx ry q => h pins s σ H x y v u Q I rx ry (m _ _ _ _ q)
theorem CallR.imp {f : Value} {r r' : List V → Hp → VK → Prop} (h : CallR X f r) (m : ∀ xs H Q, r' xs H Q → r xs H Q) : CallR X f r' := fun pins s σ H xs us Q I rx q => h pins s σ H xs us Q I rx (m _ _ _ q)
theorem MtM.imp {id : String} {r r' : V → List V → Hp → VK → Prop} (h : MtM X id r) (m : ∀ x xs H Q, r' x xs H Q → r x xs H Q) : MtM X id r' := fun pins s σ H x xs v us Q I rx rs q => h pins s σ H x xs v us Q I rx rs (m _ _ _ _ q)
inductive RAppI (x : V) (vs : List V) (H : Hp) (Q : VK) : Prop where
  | mk (l : _) (xs : _) (y : _) (c1 : x = .ref l) (c2 : vs = [y]) (c3 : H l = some (.lst xs)) (c4 : xs.length < sizeLine) (c5 : ∀ H', Keep [l] H H' → H' l = some (.lst (xs ++ [y])) → Q .non H')
def rApp : V → List V → Hp → VK → Prop := fun x vs H Q => RAppI x vs H Q
theorem mt_app : MtM X "list.append" rApp := MtM.imp mt_append fun _ _ _ _ ⟨l, xs, y, e1, e2, h1, h2, q⟩ => ⟨l, xs, y, e1, e2, h1, h2, q _ (keep_set (by simp)) upd_same⟩
inductive RPpI (x : V) (vs : List V) (H : Hp) (Q : VK) : Prop where
  | mk (l : _) (xs : _) (y : _) (c1 : x = .ref l) (c2 : vs = []) (c3 : H l = some (.lst (xs ++ [y]))) (c4 : ∀ H', Keep [l] H H' → H' l = some (.lst xs) → Q y H')
def rPp : V → List V → Hp → VK → Prop := fun x vs H Q => RPpI x vs H Q
theorem mt_pp : MtM X "list.pop" rPp := MtM.imp mt_pop fun _ _ _ _ ⟨l, xs, y, e1, e2, h1, q⟩ => ⟨l, _, y, e1, e2, h1, by simp, by
  have e : (xs ++ [y]).dropLast = xs := by simp
  rw [e]
  exact q _ (keep_set (by simp)) upd_same⟩
variable {o e : Expr} {to te : TE} {apos cpos : Pos}
/-- xs.append(e) -/
def tApp (K : PySem.W.Frag) (to te : TE) : TE := tBM K "list" rApp to (tCons te tNil)
theorem pApp (ho : PE X o to) (he : PE X e te) (h : plainE e = true := by rfl) (hbase : attributeBase o "append" X.env (eval o X.env) = eval o X.env := by rfl) (hline : (apos.endLine == cpos.line) = true := by rfl) :
    PE X (.Call (.Attribute o "append" apos) [e] [] cpos) (tApp X.K to te) :=
  pe_bm PySem.F.plainAttrs_list PySem.F.slot_list_append PySem.F.type_list_append mt_app ho (pa_c he pa_nil h) hbase (by
    rw [star_all (es := [e]) (by simp [h])]
    rfl) hline (star_plain h) rfl
/-- xs.pop() -/
def tPp (K : PySem.W.Frag) (to : TE) : TE := tBM0 K "list" rPp to
theorem pPop (ho : PE X o to) (hbase : attributeBase o "pop" X.env (eval o X.env) = eval o X.env := by rfl) (hline : (apos.endLine == cpos.line) = true := by rfl) : PE X (.Call (.Attribute o "pop" apos) [] [] cpos) (tPp X.K to) :=
  pe_bm0 PySem.F.plainAttrs_list PySem.F.slot_list_pop PySem.F.type_list_pop mt_pp ho hbase hline
variable {es : List Expr} {t : TA} {pos : Pos}
inductive TTpI (xs : List V) (H1 : Hp) (Q : VK) : Prop where
  | mk (c1 : xs.length ≤ sizeLine) (c2 : ∀ p H', H1 p = none → Same H1 H' → H' p = some (.tup xs) → Q (.ref p) H')
def tTp (t : TA) : TE := fun σ H Q => t σ H fun xs H1 => TTpI xs H1 Q
inductive TLsI (xs : List V) (H1 : Hp) (Q : VK) : Prop where
  | mk (c1 : xs.length ≤ sizeLine) (c2 : ∀ p H', H1 p = none → Same H1 H' → H' p = some (.lst xs) → Q (.ref p) H')
def tLs (t : TA) : TE := fun σ H Q => t σ H fun xs H1 => TLsI xs H1 Q
theorem pTup {x1} (h : PA X es t) : PE X (.Tuple es x1 pos) (tTp t) := by
  intro pins s σ H Q I hq
  refine wpAny_Tuple_spliced (thn (h pos pins s σ H _ I hq) fun us s1 ⟨xs, H1, I1, r, z, q⟩ => ⟨by rw [← r.length]; exact z, ?_⟩)
  have hf : H1 s1.heap.objs.size = none := I1.hok.fresh (Nat.le_refl _)
  exact ⟨.ref s1.heap.objs.size, upd H1 s1.heap.objs.size (.tup xs), I1.laid (t' := s1.toks) (fun b u e => Heap.get?_push_of_some _ e) (Nat.le_refl _) ⟨z, us, r, ⟨_, Heap.get?_push_size _ rfl, rfl, _, rfl⟩⟩, rfl, q _ _ hf (same_new hf) upd_same⟩
theorem pLst (h : PA X es t) : PE X (.List es pos) (tLs t) := by
  intro pins s σ H Q I hq
  refine wpAny_List_spliced (thn (h pos pins s σ H _ I hq) fun us s1 ⟨xs, H1, I1, r, z, q⟩ => ⟨by rw [← r.length]; exact z, ?_⟩)
  have hf : H1 s1.heap.objs.size = none := I1.hok.fresh (Nat.le_refl _)
  exact ⟨.ref s1.heap.objs.size, upd H1 s1.heap.objs.size (.lst xs), I1.laid (t' := s1.toks) (fun b u e => Heap.get?_push_of_some _ e) (Nat.le_refl _) ⟨z, us, 0, r, Heap.get?_push_size _ rfl⟩, rfl, q _ _ hf (same_new hf) upd_same⟩
/-- xs + ys -/
inductive RCtI (x : V) (y : V) (H : Hp) (Q : VK) : Prop where
  | mk (l : _) (b : _) (xs : _) (zs : _) (c1 : x = .ref l) (c2 : y = .ref b) (c3 : H l = some (.lst xs)) (c4 : H b = some (.lst zs)) (c5 : xs.length + zs.length ≤ sizeLine) (c6 : ∀ p H', H p = none → Same H H' → H' p = some (.lst (xs ++ zs)) → Q (.ref p) H')
def rCt : R2 := fun x y H Q => RCtI x y H Q
theorem op_ct : OpR X (binaryOp .Add) rCt := OpR.imp op_cat fun _ _ _ _ ⟨l, b, xs, zs, e1, e2, h1, h2, h3, q⟩ => ⟨l, b, xs, zs, e1, e2, h1, h2, h3, fun p hp => q p _ hp (same_new hp) upd_same⟩
/-- xs[lo:hi], a list -/
inductive RSlI (K : PySem.W.Frag) (x : V) (lo : Option Int) (hi : Option Int) (H : Hp) (Q : VK) : Prop where
  | mk (a : _) (xs : _) (c1 : x = .ref a) (c2 : SqL K H a xs) (c3 : ∀ p H', H p = none → Same H H' → H' p = some (.lst (cutV xs lo hi)) → Q (.ref p) H')
def rSl (K : PySem.W.Frag) : V → Option Int → Option Int → Hp → VK → Prop := fun x lo hi H Q => RSlI K x lo hi H Q
theorem sl_ls : SlR X (rSl X.K) := fun pins s σ H x v vl vu lo hi sl Q I rx h1 h2 h3 ⟨a, xs, e, hx, q⟩ => sl_list pins s σ H x v vl vu lo hi sl Q I rx h1 h2 h3 ⟨a, xs, e, hx, fun p hp => q p _ hp (same_new hp) upd_same⟩
end

/-! #### xs == [], xs != [] -/
section
variable {X : Cx}
inductive RNilI (K : PySem.W.Frag) (ne : Bool) (x : V) (y : V) (H : Hp) (Q : VK) : Prop where
  | mk (a : _) (b : _) (xs : _) (c1 : x = .ref a) (c2 : y = .ref b) (c3 : SqL K H a xs) (c4 : SqL K H b []) (c5 : Q (.bl (if ne then !xs.isEmpty else xs.isEmpty)) H)
def rNil (K : PySem.W.Frag) (ne : Bool) : R2 := fun x y H Q => RNilI K ne x y H Q
theorem op_eqNil (hu : X.A.units < cLine) : OpR X (compareOp .Eq) (rNil X.K false) := by
  intro pins s σ H x y v u Q I rx ry h
  obtain ⟨a, b, xs, rfl, rfl, h1, h2, q⟩ := h
  cases rx; cases ry
  obtain ⟨its, r, pl, hz⟩ := I.list h1
  obtain ⟨its2, r2, pl2, _⟩ := I.list h2
  cases r2
  cases r with
  | nil => exact SeqAt.eq_listAt (e := fun _ => true) pl.isList pl2.isList rfl hu (fun j j1 => absurd j1 (by simp)) ⟨.bl true, H, I, rfl, q⟩
  | cons r1 rt => exact SeqAt.eq_list_lengthsAt pl.isList pl2.isList (by simp) hu ⟨.bl false, H, I, rfl, q⟩
theorem op_neNil (hu : X.A.units < cLine) : OpR X (compareOp .NotEq) (rNil X.K true) := by
  intro pins s σ H x y v u Q I rx ry h
  obtain ⟨a, b, xs, rfl, rfl, h1, h2, q⟩ := h
  cases rx; cases ry
  obtain ⟨its, r, pl, hz⟩ := I.list h1
  obtain ⟨its2, r2, pl2, _⟩ := I.list h2
  cases r2
  cases r with
  | nil => exact SeqAt.RcNeAt.lists (e := fun _ => true) pl.isList pl2.isList rfl hu (fun j j1 => absurd j1 (by simp)) X.prog X.w _ _ ⟨.bl false, H, I, rfl, q⟩
  | cons r1 rt => exact SeqAt.RcNeAt.lists_lengths pl.isList pl2.isList (by simp) hu X.prog X.w _ _ ⟨.bl true, H, I, rfl, q⟩
end

/-! #### data of ints, texts, tuples and lists, compared as a whole -/
inductive Dt where
  | int (i : Int)
  | str (x : Str)
  | tup (ds : List Dt)
  | lst (ds : List Dt)
mutual
def DAt (K : PySem.W.Frag) (H : Hp) : Dt → V → Prop
  | .int i, v => v = .int i
  | .str x, v => v = .str x
  | .tup ds, v => ∃ a xs, v = .ref a ∧ SqT K H a xs ∧ DsAt K H ds xs
  | .lst ds, v => ∃ a xs, v = .ref a ∧ SqL K H a xs ∧ DsAt K H ds xs
def DsAt (K : PySem.W.Frag) (H : Hp) : List Dt → List V → Prop
  | [], xs => xs = []
  | d :: ds, xs => ∃ x r, xs = x :: r ∧ DAt K H d x ∧ DsAt K H ds r
end
mutual
/-- deeper than n it is not -/
def Dt.Lim : Nat → Dt → Prop
  | _, .int _ => True
  | _, .str _ => True
  | 0, .tup _ => False
  | 0, .lst _ => False
  | n + 1, .tup ds => Dt.Lims n ds
  | n + 1, .lst ds => Dt.Lims n ds
def Dt.Lims : Nat → List Dt → Prop
  | _, [] => True
  | n, d :: ds => Dt.Lim n d ∧ Dt.Lims n ds
end
theorem DsAt.len {K : PySem.W.Frag} {H : Hp} : ∀ {ds : List Dt} {xs : List V}, DsAt K H ds xs → xs.length = ds.length
  | [], _, h => by
    have e : _ = [] := h
    rw [e]; rfl
  | d :: ds, _, h => by
    obtain ⟨x, r, e, _, h2⟩ := h
    rw [e, List.length_cons, List.length_cons, DsAt.len h2]
theorem DsAt.get {K : PySem.W.Frag} {H : Hp} : ∀ {ds : List Dt} {xs : List V} {j : Nat} {d : Dt}, DsAt K H ds xs → ds[j]? = some d → ∃ x, xs[j]? = some x ∧ DAt K H d x
  | [], _, _, _, _, e => by simp at e
  | d :: ds, _, 0, d', h, e => by
    obtain ⟨x, r, e1, h1, _⟩ := h
    simp at e
    subst e
    exact ⟨x, by rw [e1]; rfl, h1⟩
  | d :: ds, _, j + 1, d', h, e => by
    obtain ⟨x, r, e1, _, h2⟩ := h
    obtain ⟨y, e2, h3⟩ := DsAt.get (j := j) h2 (by simpa using e)
    exact ⟨y, by rw [e1]; simpa using e2, h3⟩
theorem Lims.get : ∀ {n : Nat} {ds : List Dt} {j : Nat} {d : Dt}, Dt.Lims n ds → ds[j]? = some d → Dt.Lim n d
  | _, [], _, _, _, e => by simp at e
  | _, d :: ds, 0, d', h, e => by
    simp at e
    subst e
    exact h.1
  | _, d :: ds, j + 1, d', h, e => Lims.get (j := j) h.2 (by simpa using e)
section
variable {X : Cx} {pins : List (Addr × Obj)} {σ : L2.St} {H : Hp} {s : Shared}
theorem not_both (I : Inv X pins σ H s) {a : Addr} {b c : List V} (q1 : SqL X.K H a b) (q2 : SqT X.K H a c) : False := by
  obtain ⟨_, _, pl, _⟩ := I.list q1
  obtain ⟨_, _, pt, _⟩ := I.tuple q2
  obtain ⟨o, n, h1, c, _⟩ := pl
  obtain ⟨o', h1', c', _⟩ := pt
  rw [h1] at h1'
  cases h1'
  rw [c] at c'
  injection c' with z
  exact absurd z (by decide)
theorem ds_inj {n : Nat} (h : ∀ {d e : Dt} {x : V}, Dt.Lim n d → DAt X.K H d x → DAt X.K H e x → d = e) : ∀ {ds es : List Dt} {xs : List V}, Dt.Lims n ds → DsAt X.K H ds xs → DsAt X.K H es xs → ds = es
  | [], [], _, _, _, _ => rfl
  | [], e :: es, _, _, h1, h2 => by
    have e1 : _ = [] := h1
    obtain ⟨x, r, e2, _⟩ := h2
    rw [e1] at e2; cases e2
  | d :: ds, [], _, _, h1, h2 => by
    have e1 : _ = [] := h2
    obtain ⟨x, r, e2, _⟩ := h1
    rw [e1] at e2; cases e2
  | d :: ds, e :: es, _, l, h1, h2 => by
    obtain ⟨x, r, e1, a1, b1⟩ := h1
    obtain ⟨x', r', e2, a2, b2⟩ := h2
    rw [e1] at e2
    cases e2
    rw [h l.1 a1 a2, ds_inj h l.2 b1 b2]
theorem d_inj (I : Inv X pins σ H s) : ∀ (n : Nat) {d e : Dt} {x : V}, Dt.Lim n d → DAt X.K H d x → DAt X.K H e x → d = e := by
  intro n
  induction n with
  | zero =>
    intro d e x l h1 h2
    cases d with
    | tup ds => exact l.elim
    | lst ds => exact l.elim
    | int i =>
      have e1 : x = _ := h1
      subst e1
      cases e with
      | int j => have e2 : V.int i = V.int j := h2; cases e2; rfl
      | str j => have e2 : V.int i = V.str j := h2; cases e2
      | tup es => obtain ⟨a, xs, e2, _⟩ := h2; cases e2
      | lst es => obtain ⟨a, xs, e2, _⟩ := h2; cases e2
    | str i =>
      have e1 : x = _ := h1
      subst e1
      cases e with
      | int j => have e2 : V.str i = V.int j := h2; cases e2
      | str j => have e2 : V.str i = V.str j := h2; cases e2; rfl
      | tup es => obtain ⟨a, xs, e2, _⟩ := h2; cases e2
      | lst es => obtain ⟨a, xs, e2, _⟩ := h2; cases e2
  | succ n ih =>
    intro d e x l h1 h2
    cases d with
    | int i =>
      have e1 : x = _ := h1
      subst e1
      cases e with
      | int j => have e2 : V.int i = V.int j := h2; cases e2; rfl
      | str j => have e2 : V.int i = V.str j := h2; cases e2
      | tup es => obtain ⟨a, xs, e2, _⟩ := h2; cases e2
      | lst es => obtain ⟨a, xs, e2, _⟩ := h2; cases e2
    | str i =>
      have e1 : x = _ := h1
      subst e1
      cases e with
      | int j => have e2 : V.str i = V.int j := h2; cases e2
      | str j => have e2 : V.str i = V.str j := h2; cases e2; rfl
      | tup es => obtain ⟨a, xs, e2, _⟩ := h2; cases e2
      | lst es => obtain ⟨a, xs, e2, _⟩ := h2; cases e2
    | tup ds =>
      obtain ⟨a, xs, rfl, q1, r1⟩ := h1
      cases e with
      | int j => have e2 : V.ref a = V.int j := h2; cases e2
      | str j => have e2 : V.ref a = V.str j := h2; cases e2
      | tup es =>
        obtain ⟨a', ys, e2, q2, r2⟩ := h2
        cases e2
        cases I.tuple_inj q1 q2
        rw [ds_inj (n := n) (fun l a b => ih l a b) l r1 r2]
      | lst es =>
        obtain ⟨a', ys, e2, q2, r2⟩ := h2
        cases e2
        exact (not_both I q2 q1).elim
    | lst ds =>
      obtain ⟨a, xs, rfl, q1, r1⟩ := h1
      cases e with
      | int j => have e2 : V.ref a = V.int j := h2; cases e2
      | str j => have e2 : V.ref a = V.str j := h2; cases e2
      | lst es =>
        obtain ⟨a', ys, e2, q2, r2⟩ := h2
        cases e2
        cases I.list_inj q1 q2
        rw [ds_inj (n := n) (fun l a b => ih l a b) l r1 r2]
      | tup es =>
        obtain ⟨a', ys, e2, q2, r2⟩ := h2
        cases e2
        exact (not_both I q1 q2).elim

theorem tupAt (I : Inv X pins σ H s) {a : Addr} {xs : List V} (q : SqT X.K H a xs) : ∃ its : List Value, Vals xs its ∧ s.heap.IsTuple a its.toArray := let ⟨its, r, pt, _⟩ := I.tuple q; ⟨its, r, pt⟩
theorem lstAt (I : Inv X pins σ H s) {a : Addr} {xs : List V} (q : SqL X.K H a xs) : ∃ its : List Value, Vals xs its ∧ s.heap.IsList a its.toArray := let ⟨its, r, pt, _⟩ := I.list q; ⟨its, r, pt.isList⟩
open PySem.SeqAt in
theorem d_eq_int (I : Inv X pins σ H s) {i : Int} {t : Tok} {e : Dt} {y : V} {u : Value} {A : Around} (hu : A.units < cLine) (h2 : DAt X.K H e y) (ry : RelV y u) : ∃ b : Bool, (b = true ↔ Dt.int i = e) ∧ EqAt A s (.int i t) u b := by
  cases e with
  | int j =>
    have e2 : y = _ := h2
    subst e2
    obtain ⟨t', rfl⟩ := ry
    exact ⟨i == j, by simp, .int_int i t j t'⟩
  | str j =>
    have e2 : y = _ := h2
    subst e2
    obtain ⟨t', rfl⟩ := ry
    exact ⟨false, by simp, .int_str i t j t'⟩
  | tup es =>
    obtain ⟨a, xs, rfl, q, _⟩ := h2
    cases ry
    obtain ⟨_, _, pt⟩ := tupAt I q
    exact ⟨false, by simp, .int_tuple i t pt hu⟩
  | lst es =>
    obtain ⟨a, xs, rfl, q, _⟩ := h2
    cases ry
    obtain ⟨_, _, pt⟩ := lstAt I q
    exact ⟨false, by simp, .int_list i t pt hu⟩
open PySem.SeqAt in
theorem d_eq_str (I : Inv X pins σ H s) {i : Str} {t : Tok} {e : Dt} {y : V} {u : Value} {A : Around} (hu : A.units < cLine) (h2 : DAt X.K H e y) (ry : RelV y u) : ∃ b : Bool, (b = true ↔ Dt.str i = e) ∧ EqAt A s (.str i t) u b := by
  cases e with
  | int j =>
    have e2 : y = _ := h2
    subst e2
    obtain ⟨t', rfl⟩ := ry
    exact ⟨false, by simp, .str_int i t j t'⟩
  | str j =>
    have e2 : y = _ := h2
    subst e2
    obtain ⟨t', rfl⟩ := ry
    exact ⟨i == j, by simp, .str_str i t j t'⟩
  | tup es =>
    obtain ⟨a, xs, rfl, q, _⟩ := h2
    cases ry
    obtain ⟨_, _, pt⟩ := tupAt I q
    exact ⟨false, by simp, .str_tuple i t pt hu⟩
  | lst es =>
    obtain ⟨a, xs, rfl, q, _⟩ := h2
    cases ry
    obtain ⟨_, _, pt⟩ := lstAt I q
    exact ⟨false, by simp, .str_list i t pt hu⟩
open Classical in
/-- whether two lists of data agree at a place -/
noncomputable def agree (ds es : List Dt) (j : Nat) : Bool := decide (ds[j]? = es[j]?)
open Classical in
theorem agree_all {ds es : List Dt} (h : ds.length = es.length) : ((List.range ds.length).all (agree ds es) = true) ↔ ds = es := by
  rw [List.all_eq_true]
  constructor
  · intro q
    refine List.ext_getElem? fun j => ?_
    by_cases hj : j < ds.length
    · exact of_decide_eq_true (q j (List.mem_range.mpr hj))
    · rw [List.getElem?_eq_none (by omega), List.getElem?_eq_none (by omega)]
  · intro e j _
    rw [e]
    exact decide_eq_true rfl
open Classical in
/-- the places' answers, by an answer for two data -/
theorem d_each {n : Nat} {A : Around} (ih : ∀ {d e : Dt} {x y : V} {v u : Value}, Dt.Lim n d → DAt X.K H d x → DAt X.K H e y → RelV x v → RelV y u → ∃ b : Bool, (b = true ↔ d = e) ∧ PySem.SeqAt.EqAt A s v u b)
    {ds es : List Dt} {xs ys : List V} {its its2 : List Value} (l : Dt.Lims n ds) (h1 : DsAt X.K H ds xs) (h2 : DsAt X.K H es ys) (r1 : Vals xs its) (r2 : Vals ys its2) :
    ∀ j (j1 : j < its.toArray.size) (j2 : j < its2.toArray.size), PySem.SeqAt.EqAt A s its.toArray[j] its2.toArray[j] (agree ds es j) := by
  intro j j1 j2
  have a1 : j < its.length := by simpa using j1
  have a2 : j < its2.length := by simpa using j2
  have b1 : j < ds.length := by rw [← h1.len, r1.length]; exact a1
  have b2 : j < es.length := by rw [← h2.len, r2.length]; exact a2
  have c1 : ds[j]? = some ds[j] := by simp [b1]
  have c2 : es[j]? = some es[j] := by simp [b2]
  obtain ⟨x, ex, hx⟩ := h1.get c1
  obtain ⟨y, ey, hy⟩ := h2.get c2
  obtain ⟨v, ev, rv⟩ := r1.get ex
  obtain ⟨u, eu, ru⟩ := r2.get ey
  obtain ⟨b, hb, q⟩ := ih (Lims.get l c1) hx hy rv ru
  have ev' : its.toArray[j] = v := by
    have := (List.getElem?_eq_some_iff.mp ev).2
    simpa using this
  have eu' : its2.toArray[j] = u := by
    have := (List.getElem?_eq_some_iff.mp eu).2
    simpa using this
  rw [ev', eu']
  have e : agree ds es j = b := by
    unfold agree
    rw [c1, c2]
    cases b with
    | true => exact decide_eq_true (by rw [hb.mp rfl])
    | false => exact decide_eq_false fun z => Bool.false_ne_true (hb.mpr (Option.some.inj z))
  rw [e]
  exact q
theorem in1_units (A : Around) : A.in1.units = A.units + 1 := rfl
open PySem.SeqAt in
/-- == and != of two tuples or lists, by == of what they hold -/
theorem d_rc (I : Inv X pins σ H s) {n : Nat} {A : Around} (hu0 : A.units < cLine)
    (ih : ∀ {d e : Dt} {x y : V} {v u : Value}, Dt.Lim n d → DAt X.K H d x → DAt X.K H e y → RelV x v → RelV y u → ∃ b : Bool, (b = true ↔ d = e) ∧ EqAt A.in1 s v u b)
    {d e : Dt} {a b : Addr} (l : Dt.Lim (n + 1) d) (h1 : DAt X.K H d (.ref a)) (h2 : DAt X.K H e (.ref b)) : ∃ k : Bool, (k = true ↔ d = e) ∧ RcAt A s (.ref a) (.ref b) k ∧ RcNeAt A s (.ref a) (.ref b) (!k) := by
  cases d with
  | int i => have e1 : V.ref a = V.int i := h1; cases e1
  | str i => have e1 : V.ref a = V.str i := h1; cases e1
  | tup ds =>
    obtain ⟨a', xs, e1, q1, r1⟩ := h1
    cases e1
    obtain ⟨its, v1, p1⟩ := tupAt I q1
    cases e with
    | int i => have e1 : V.ref b = V.int i := h2; cases e1
    | str i => have e1 : V.ref b = V.str i := h2; cases e1
    | lst es =>
      obtain ⟨b', ys, e2, q2, r2⟩ := h2
      cases e2
      obtain ⟨its2, v2, p2⟩ := lstAt I q2
      exact ⟨false, by simp, .tuple_list p1 p2 hu0, .tuple_list p1 p2 hu0⟩
    | tup es =>
      obtain ⟨b', ys, e2, q2, r2⟩ := h2
      cases e2
      obtain ⟨its2, v2, p2⟩ := tupAt I q2
      have he := d_each ih l r1 r2 v1 v2
      refine ⟨_, ?_, RcAt.tuples p1 p2 hu0 he, RcNeAt.tuples p1 p2 hu0 he⟩
      have z1 : its.toArray.size = ds.length := by rw [List.size_toArray, ← v1.length, r1.len]
      have z2 : its2.toArray.size = es.length := by rw [List.size_toArray, ← v2.length, r2.len]
      rw [z1, z2]
      by_cases hl : ds.length = es.length
      · rw [← hl, Nat.min_self, show (ds.length == ds.length) = true by simp, Bool.and_true, agree_all hl]
        exact ⟨fun z => by rw [z], fun z => by injection z⟩
      · rw [show (ds.length == es.length) = false by simpa using hl, Bool.and_false]
        exact ⟨fun z => by (cases z), fun z => by injection z with z; rw [z] at hl; exact absurd rfl hl⟩
  | lst ds =>
    obtain ⟨a', xs, e1, q1, r1⟩ := h1
    cases e1
    obtain ⟨its, v1, p1⟩ := lstAt I q1
    cases e with
    | int i => have e1 : V.ref b = V.int i := h2; cases e1
    | str i => have e1 : V.ref b = V.str i := h2; cases e1
    | tup es =>
      obtain ⟨b', ys, e2, q2, r2⟩ := h2
      cases e2
      obtain ⟨its2, v2, p2⟩ := tupAt I q2
      exact ⟨false, by simp, .list_tuple p1 p2 hu0, .list_tuple p1 p2 hu0⟩
    | lst es =>
      obtain ⟨b', ys, e2, q2, r2⟩ := h2
      cases e2
      obtain ⟨its2, v2, p2⟩ := lstAt I q2
      have z1 : its.toArray.size = ds.length := by rw [List.size_toArray, ← v1.length, r1.len]
      have z2 : its2.toArray.size = es.length := by rw [List.size_toArray, ← v2.length, r2.len]
      by_cases hl : ds.length = es.length
      · have he := d_each ih l r1 r2 v1 v2
        refine ⟨_, ?_, RcAt.lists p1 p2 (by rw [z1, z2, hl]) hu0 he, RcNeAt.lists p1 p2 (by rw [z1, z2, hl]) hu0 he⟩
        rw [z1, agree_all hl]
        exact ⟨fun z => by rw [z], fun z => by injection z⟩
      · refine ⟨false, ?_, RcAt.lists_lengths p1 p2 (by rw [z1, z2]; simpa using hl) hu0, RcNeAt.lists_lengths p1 p2 (by rw [z1, z2]; simpa using hl) hu0⟩
        exact ⟨fun z => by (cases z), fun z => by injection z with z; rw [z] at hl; exact absurd rfl hl⟩
open PySem.SeqAt in
/-- == of two data -/
theorem d_eq (I : Inv X pins σ H s) : ∀ (n : Nat) {d e : Dt} {x y : V} {v u : Value} {A : Around}, Dt.Lim n d → A.units + n < cLine → DAt X.K H d x → DAt X.K H e y → RelV x v → RelV y u → ∃ b : Bool, (b = true ↔ d = e) ∧ EqAt A s v u b := by
  have atom : ∀ (n : Nat) {d e : Dt} {x y : V} {v u : Value} {A : Around}, (∀ a, x ≠ .ref a) → A.units < cLine → DAt X.K H d x → DAt X.K H e y → RelV x v → RelV y u → ∃ b : Bool, (b = true ↔ d = e) ∧ EqAt A s v u b := by
    intro n d e x y v u A hx hu h1 h2 rx ry
    cases d with
    | int i =>
      have e1 : x = _ := h1
      subst e1
      obtain ⟨t, rfl⟩ := rx
      exact d_eq_int I hu h2 ry
    | str i =>
      have e1 : x = _ := h1
      subst e1
      obtain ⟨t, rfl⟩ := rx
      exact d_eq_str I hu h2 ry
    | tup ds => obtain ⟨a, xs, e1, _⟩ := h1; exact absurd e1 (hx a)
    | lst ds => obtain ⟨a, xs, e1, _⟩ := h1; exact absurd e1 (hx a)
  intro n
  induction n with
  | zero =>
    intro d e x y v u A l hu h1 h2 rx ry
    refine atom 0 (fun a => ?_) (by omega) h1 h2 rx ry
    rintro rfl
    cases d with
    | int i => have e1 : V.ref a = V.int i := h1; cases e1
    | str i => have e1 : V.ref a = V.str i := h1; cases e1
    | tup ds => exact l.elim
    | lst ds => exact l.elim
  | succ n ih =>
    intro d e x y v u A l hu h1 h2 rx ry
    have hu0 : A.units < cLine := by omega
    by_cases hx : ∃ a, x = .ref a
    · obtain ⟨a, rfl⟩ := hx
      cases rx
      by_cases hy : ∃ b, y = .ref b
      · obtain ⟨b, rfl⟩ := hy
        cases ry
        by_cases hab : a = b
        · subst hab
          have e' := d_inj I (n + 1) l h1 h2
          exact ⟨true, by simp [e'], .same _⟩
        · obtain ⟨k, h3, h4, _⟩ := d_rc I hu0 (fun {d e x y v u} l a b c d' => ih (d := d) (e := e) (x := x) (y := y) (v := v) (u := u) l (by rw [in1_units]; omega) a b c d') l h1 h2
          exact ⟨k, h3, .of_refs hab h4⟩
      · have q : ∀ k : Bool, k = false → (k = true ↔ d = e) := by
          intro k hk
          subst hk
          refine ⟨fun z => by (cases z), fun z => ?_⟩
          subst z
          cases d with
          | int i => have e1 : V.ref a = V.int i := h1; cases e1
          | str i => have e1 : V.ref a = V.str i := h1; cases e1
          | tup ds => obtain ⟨b, xs, e1, _⟩ := h2; exact absurd ⟨b, e1⟩ hy
          | lst ds => obtain ⟨b, xs, e1, _⟩ := h2; exact absurd ⟨b, e1⟩ hy
        cases e with
        | tup es => obtain ⟨b, xs, e1, _⟩ := h2; exact absurd ⟨b, e1⟩ hy
        | lst es => obtain ⟨b, xs, e1, _⟩ := h2; exact absurd ⟨b, e1⟩ hy
        | int j =>
          have e2 : y = _ := h2
          subst e2
          obtain ⟨t', rfl⟩ := ry
          cases d with
          | int i => have e1 : V.ref a = V.int i := h1; cases e1
          | str i => have e1 : V.ref a = V.str i := h1; cases e1
          | tup ds =>
            obtain ⟨a', xs, e1, q1, r1⟩ := h1
            cases e1
            obtain ⟨its, v1, p1⟩ := tupAt I q1
            exact ⟨false, q _ rfl, .tuple_int j t' p1 hu0⟩
          | lst ds =>
            obtain ⟨a', xs, e1, q1, r1⟩ := h1
            cases e1
            obtain ⟨its, v1, p1⟩ := lstAt I q1
            exact ⟨false, q _ rfl, .list_int j t' p1 hu0⟩
        | str j =>
          have e2 : y = _ := h2
          subst e2
          obtain ⟨t', rfl⟩ := ry
          cases d with
          | int i => have e1 : V.ref a = V.int i := h1; cases e1
          | str i => have e1 : V.ref a = V.str i := h1; cases e1
          | tup ds =>
            obtain ⟨a', xs, e1, q1, r1⟩ := h1
            cases e1
            obtain ⟨its, v1, p1⟩ := tupAt I q1
            exact ⟨false, q _ rfl, .tuple_str j t' p1 hu0⟩
          | lst ds =>
            obtain ⟨a', xs, e1, q1, r1⟩ := h1
            cases e1
            obtain ⟨its, v1, p1⟩ := lstAt I q1
            exact ⟨false, q _ rfl, .list_str j t' p1 hu0⟩
    · exact atom n (fun a z => hx ⟨a, z⟩) hu0 h1 h2 rx ry
end
section
variable {X : Cx}
/-- the two data are told: of what == says, it is known what it means -/
inductive RDI (K : PySem.W.Frag) (A : Around) (ne : Bool) (x : V) (y : V) (H : Hp) (Q : VK) : Prop where
  | mk (n : _) (d : _) (e : _) (a : _) (b : _) (c1 : x = .ref a) (c2 : y = .ref b) (c3 : Dt.Lim (n + 1) d) (c4 : A.units + n + 1 < cLine) (c5 : DAt K H d x) (c6 : DAt K H e y) (c7 : ∀ k : Bool, (k = true ↔ d = e) → Q (.bl (if ne then !k else k)) H)
def rD (K : PySem.W.Frag) (A : Around) (ne : Bool) : R2 := fun x y H Q => RDI K A ne x y H Q
theorem op_eqD : OpR X (compareOp .Eq) (rD X.K X.A false) := by
  intro pins s σ H x y v u Q I rx ry h
  obtain ⟨n, d, e, a, b, rfl, rfl, hl, hu, h1, h2, q⟩ := h
  cases rx; cases ry
  obtain ⟨k, h3, h4, _⟩ := d_rc I (A := X.A) (by omega) (fun {d e x y v u} l a b c d' => d_eq I n l (by rw [in1_units]; omega) a b c d') hl h1 h2
  exact h4 X.prog X.w _ _ ⟨.bl k, H, I, rfl, q k h3⟩
theorem op_neD : OpR X (compareOp .NotEq) (rD X.K X.A true) := by
  intro pins s σ H x y v u Q I rx ry h
  obtain ⟨n, d, e, a, b, rfl, rfl, hl, hu, h1, h2, q⟩ := h
  cases rx; cases ry
  obtain ⟨k, h3, _, h4⟩ := d_rc I (A := X.A) (by omega) (fun {d e x y v u} l a b c d' => d_eq I n l (by rw [in1_units]; omega) a b c d') hl h1 h2
  exact h4 X.prog X.w _ _ ⟨.bl (!k), H, I, rfl, q k h3⟩

/-! #### isinstance of one built-in class -/
theorem call_isi : CallR X (.builtin "isinstance") (fun xs H Q => ∃ x n t b, xs = [x, .ty n] ∧ TyOf X.K H x t ∧ PySem.W.kitOne X.K t (.type n) = some b ∧ Q (.bl b) H) := by
  intro pins s σ H xs us Q I r h
  obtain ⟨x, n, t, b, rfl, h1, h2, q⟩ := h
  obtain ⟨u, w', rfl, r1, r2⟩ := vals2 r
  cases (show w' = Value.type n from r2)
  exact isinst_ok I r1 h1 h2 fun tk => ⟨.bl b, H, I.tok tk, rfl, q⟩
end
/-- a list of whole numbers stands there -/
def PathV (H : Hp) (v : V) (p : List Int) : Prop := ∃ l, v = .ref l ∧ H l = some (.lst (p.map V.int))
theorem PathV.same {H H' : Hp} {v : V} {p : List Int} (h : PathV H v p) (s : Same H H') : PathV H' v p := let ⟨l, e, q⟩ := h; ⟨l, e, s _ _ q⟩
theorem kit_ii (K : PySem.W.Frag) : PySem.W.kitOne K (.type "int") (.type "int") = some true := by rfl
theorem kit_ib (K : PySem.W.Frag) : PySem.W.kitOne K (.type "int") (.type "bool") = some false := by first | rfl | kernel_rfl
theorem kit_tt (K : PySem.W.Frag) : PySem.W.kitOne K (.type "tuple") (.type "tuple") = some true := by rfl
theorem kit_ss (K : PySem.W.Frag) : PySem.W.kitOne K (.type "str") (.type "str") = some true := by rfl
end NC
/-! ### sorted(found), found a list of lists of whole numbers -/
namespace NC
open PySem PySem.Spec PyProof.Rows L2
section
open PySem.W
variable {α : Type} {n : Nat} {lt : Nat → Nat → Bool} {cmp : Nat → Nat → (Bool → Shared → Prop) → Shared → Prop} {s : Shared}
end
section
variable {prog : Program} {w : World} {A : Around} {E : Value → Shared → Prop} {s : Shared}
end
section
variable {P : Program} {w : World} {H : Hp} {h : Heap} {a : Addr} {o : HO}
/-- what is described stands there -/
theorem objok_there (x : ObjOk P w H h a o) : ∃ ob, h.get? a = some ob := by
  cases o with
  | lst xs => obtain ⟨_, _, _, _, e⟩ := x; exact ⟨_, e⟩
  | tup xs => obtain ⟨_, _, _, ob, e, _⟩ := x; exact ⟨_, e⟩
  | dK kvs => obtain ⟨_, _, _, _, ob, _, _, e, _⟩ := x; exact ⟨_, e⟩
  | dT kvs => obtain ⟨_, _, _, _, ob, _, _, e, _⟩ := x; exact ⟨_, e⟩
  | set S n => obtain ⟨ob, _, _, _, e, _⟩ := x; exact ⟨_, e⟩
  | ins C dx fs => obtain ⟨_, _, _, e, _⟩ := x; exact ⟨_, e⟩
  | own y => exact x
  | xd fs => obtain ⟨_, ⟨_, _, _, e, _⟩, _⟩ := x; exact ⟨_, e⟩
  | rng lo hi => obtain ⟨_, _, _, e⟩ := x; exact ⟨_, e⟩
  | frz ob u => obtain ⟨e, _⟩ := x; exact ⟨_, e⟩
  | tbl ps => exact ⟨_, show h.get? a = some _ from x⟩
  | met f y => exact ⟨_, show h.get? a = some _ from x⟩
  | ext φ => obtain ⟨_, e, _⟩ := x; exact e
end
section
variable {X : Cx} {pins : List (Addr × Obj)} {σ : L2.St} {H : Hp} {s : Shared}
end
section
variable {X : Cx}
end
end NC
/-! ### common readings, said short -/
namespace NC
open PySem PySem.Spec PyProof.Rows L2
theorem len1 {us : List Value} (h : us.length = 1) : ∃ a, us = [a] := by
  rcases us with _ | ⟨a, _ | ⟨_, _⟩⟩
  · cases h
  · exact ⟨a, rfl⟩
  · cases h
theorem len2 {us : List Value} (h : us.length = 2) : ∃ a b, us = [a, b] := by
  rcases us with _ | ⟨a, us⟩
  · cases h
  · obtain ⟨b, rfl⟩ := len1 (Nat.succ.inj h)
    exact ⟨a, b, rfl⟩
theorem len3 {us : List Value} (h : us.length = 3) : ∃ a b c, us = [a, b, c] := by
  rcases us with _ | ⟨a, us⟩
  · cases h
  · obtain ⟨b, c, rfl⟩ := len2 (Nat.succ.inj h)
    exact ⟨a, b, c, rfl⟩
end NC
/-! ### defs within defs: the code's table, the made function, its cells, and a call under a larger base -/
namespace NC
open PySem PySem.Spec PyProof.Rows L2

/-- the built-ins' module, as a def within a def asks it -/
def BltAt (base : Heap) (mg : Str → Option Value) : Prop := ∃ bm ob, mg "__builtins__" = some (.ref bm) ∧ bm ≠ builtinsNs ∧ base.get? bm = some ob ∧ ob.cls = .type "module" ∧ ob.dict = some builtinsNs ∧ ob.data = .plain
theorem BltAt.mono {b b' : Heap} {mg : Str → Option Value} (x : BltAt b mg) (k : ∀ a o, b.get? a = some o → b'.get? a = some o) : BltAt b' mg := let ⟨bm, ob, h1, h2, h3, h4⟩ := x; ⟨bm, ob, h1, h2, k _ _ h3, h4⟩
/-- the code that a def within a def has got -/
def CodeX (c : Addr) (qual : Str) : HO := .ext fun h => h.CodeRec (.ref c) qual
abbrev fnObjX (name qual : Str) (params : Arguments) (body : List Stmt) (scope : Scope) (clos : List (Str × Addr)) (doc pm : Value) (c : Addr) (ctv : Value) : Obj :=
  { cls := .type "function", data := .func (PySem.W.fnX name qual params body scope clos .none .none doc pm none (.ref c) ctv) }
def FnObj (f c : Addr) (name qual : Str) (params : Arguments) (body : List Stmt) (scope : Scope) (clos : List (Str × Addr)) : HO := .ext fun h => ∃ doc pm ctv, h.get? f = some (fnObjX name qual params body scope clos doc pm c ctv)
/-- the table: empty, or it holds the one def's code -/
def TabOk (H : Hp) (P : Addr) (pos : Pos) (qual : Str) : Prop := H P = some (.tbl #[]) ∨ ∃ c, H P = some (.tbl #[rawInt pos.line, rawInt pos.col, .ref c]) ∧ H c = some (CodeX c qual)
/-- all is kept but tables -/
def SameX (H H' : Hp) : Prop := ∀ b o, (∀ ps, o ≠ .tbl ps) → H b = some o → H' b = some o
section
variable {H H1 H2 H' : Hp} {b : Addr}
theorem SameX.of (s : Same H H') : SameX H H' := fun b o _ h => s b o h
theorem SameX.refl (H : Hp) : SameX H H := fun _ _ _ h => h
theorem SameX.trans (a : SameX H H1) (c : SameX H1 H2) : SameX H H2 := fun b o n h => c b o n (a b o n h)
theorem SameX.tups (s : SameX H H') : Tups H H' := fun b xs h => s b _ (fun _ z => by cases z) h
theorem SameX.lst {xs : List V} (s : SameX H H') (h : H b = some (.lst xs)) : H' b = some (.lst xs) := s b _ (fun _ z => by cases z) h
theorem SameX.tup {xs : List V} (s : SameX H H') (h : H b = some (.tup xs)) : H' b = some (.tup xs) := s b _ (fun _ z => by cases z) h
theorem SameX.free (s : SameX H H') (n : H' b = none) : H b = none ∨ ∃ ps, H b = some (.tbl ps) := by
  cases q : H b with
  | none => exact .inl rfl
  | some o =>
    cases o with
    | tbl ps => exact .inr ⟨ps, rfl⟩
    | _ => exact absurd (s b _ (fun _ z => by cases z) q) (by rw [n]; intro z; cases z)
end
theorem TabOk.same {H H' : Hp} {P : Addr} {pos : Pos} {qual : Str} (t : TabOk H P pos qual) (s : Same H H') : TabOk H' P pos qual := by
  rcases t with t | ⟨c, t1, t2⟩
  · exact .inl (s _ _ t)
  · exact .inr ⟨c, s _ _ t1, s _ _ t2⟩
/-- all but lists stays -/
def NL (H H' : Hp) : Prop := ∀ b o, (∀ xs, o ≠ .lst xs) → H b = some o → H' b = some o
theorem NL.of_same {H H' : Hp} (s : Same H H') : NL H H' := fun b o _ h => s b o h
theorem TabOk.nl {H H' : Hp} {P : Addr} {pos : Pos} {qual : Str} (t : TabOk H P pos qual) (s : NL H H') : TabOk H' P pos qual := by
  rcases t with t | ⟨c, t1, t2⟩
  · exact .inl (s _ _ (fun _ z => by cases z) t)
  · exact .inr ⟨c, s _ _ (fun _ z => by cases z) t1, s _ _ (fun _ z => by cases z) t2⟩

section
variable {X : Cx} {pins : List (Addr × Obj)} {σ : L2.St} {H : Hp} {s : Shared}
theorem tbl_at (I : Inv X pins σ H s) {P : Addr} {ps : Array Value} (h : H P = some (.tbl ps)) : s.heap.get? P = some (PySem.W.tabObj ps) := I.hok P _ h
theorem codeX_ok {P : Program} {w : World} {H : Hp} {h : Heap} {c : Addr} {qual : Str} (x : h.CodeRec (.ref c) qual) : ObjOk P w H h c (CodeX c qual) := by
  obtain ⟨c', o, vs, t, e, g, r⟩ := id x
  cases e
  refine ⟨x, ⟨o, g⟩, fun h1 h2 x1 k => ?_⟩
  obtain ⟨c', o, vs, t, e, g, r⟩ := x1
  cases e
  exact ⟨_, o, vs, t, rfl, k _ g, r⟩
theorem fnObj_ok {P : Program} {w : World} {H : Hp} {h : Heap} {f c : Addr} {name qual : Str} {params : Arguments} {body : List Stmt} {scope : Scope} {clos : List (Str × Addr)} {doc pm ctv : Value}
    (x : h.get? f = some (fnObjX name qual params body scope clos doc pm c ctv)) : ObjOk P w H h f (FnObj f c name qual params body scope clos) :=
  ⟨⟨doc, pm, ctv, x⟩, ⟨_, x⟩, fun _ _ ⟨d, p, t, e⟩ k => ⟨d, p, t, k _ e⟩⟩
theorem among_hit (pos : Pos) (v : Value) : codeAmong pos [rawInt pos.line, rawInt pos.col, v] = some v := by
  show (if ((pos.line : Int) == pos.line && (pos.col : Int) == pos.col) = true then some v else _) = some v
  rw [if_pos (by simp)]
end
end NC
/-! ### a made function as a def: its promise over a base that holds it and its cells; a call under a larger base -/
namespace NC
open PySem PySem.Spec PyProof.Rows L2

/-- the names of a made function without names of its own: its parameters, then the free names -/
structure CloScope (ps fs : List Str) (sc : Scope) : Prop where
  kind : sc.kind = .function
  co : sc.isCoroutine = false
  gen : sc.isGenerator = false
  nd : (ps ++ fs).Nodup
  par : ∀ x ∈ ps, sc.names.lookup x = some .local
  fre : ∀ x ∈ fs, sc.names.lookup x = some .free
  nocell : ∀ y ∈ sc.names, y.2 ≠ .cell
  all : ∀ y ∈ sc.names, y.2 = .free → y.1 ∈ fs
/-- the context of its body -/
def cxClo (CX : CXT) (P : Program) (w : World) (K : PySem.W.Frag) (mg : Str → Option Value) (base : Heap) (N : List Str) (qual : Str) (scope : Scope) (f : Addr) (cd : Value) (clos : List (Str × Addr)) (A : Around) (outer : List Env) (s : Shared) (H : Hp) (E : XK) : Cx where
  prog := P
  w := w
  K := K
  mg := mg
  base := base
  A := A.deeper (PySem.W.envX qual scope s.heap.objs.size f cd clos)
  N := N
  s₀ := s
  H₀ := H
  env := PySem.W.envX qual scope s.heap.objs.size f cd clos
  outer := outer
  stack := PySem.W.envX qual scope s.heap.objs.size f cd clos :: outer
  ex := []
  calm := true
  fn := fun _ => false
  pn := []
  xe := fun e s' => wpAny (model P w) (A.deeper (PySem.W.envX qual scope s.heap.objs.size f cd clos)) (leaving (PySem.W.envX qual scope s.heap.objs.size f cd clos) e) (fun _ s'' => CX outer H s E e s'') (fun e' s'' => CX outer H s E e' s'') s'
/-- a free name's cell in the base -/
def CellsAt (base : Heap) (clos : List (Str × Addr)) (fs : List Str) (fvs : List V) : Prop := Paired (fun (x : Str) (v : V) => ∃ c u, clos.lookup x = some c ∧ base.IsCell c (some u) ∧ RelV v u) fs fvs
theorem zip_rev_get : ∀ {ps : List Str} {us : List Value} {i : Nat} {x : Str} {u : Value}, ps.Nodup → ps[i]? = some x → us[i]? = some u → (ps.zip us).reverse.lookup x = some u := by
  intro ps us i x u nd h1 h2
  have hm : (x, u) ∈ (ps.zip us).reverse := by
    rw [List.mem_reverse]
    have : (ps.zip us)[i]? = some (x, u) := by
      rw [List.getElem?_zip_eq_some]
      exact ⟨h1, h2⟩
    exact List.mem_of_getElem? this
  have nd2 : ((ps.zip us).reverse.map (·.1)).Nodup := by
    rw [List.map_reverse]
    have hs : List.Sublist ((ps.zip us).map (·.1)) ps := by
      clear h1 h2 hm nd
      induction ps generalizing us with
      | nil => simp
      | cons a r ih =>
        cases us with
        | nil => simp
        | cons b t => simpa using ih
    exact (List.reverse_perm _).nodup_iff.mpr (nd.sublist hs)
  generalize hl : (ps.zip us).reverse = l at hm nd2
  clear hl h1 h2 nd
  induction l with
  | nil => simp at hm
  | cons q r ih =>
    obtain ⟨y, w⟩ := q
    rw [List.map_cons, List.nodup_cons] at nd2
    rcases List.mem_cons.mp hm with e | hm'
    · cases e
      simp [List.lookup]
    · have hne : x ≠ y := fun z => nd2.1 (by rw [← z]; exact List.mem_map.mpr ⟨(x, u), hm', rfl⟩)
      rw [List.lookup_cons]
      rw [show (x == y) = false by simpa using hne]
      exact ih hm' nd2.2
section
variable {CX : CXT} {P : Program} {w : World} {K : PySem.W.Frag} {mg : Str → Option Value} {base : Heap} {k : Nat} {f c : Addr} {name qual : Str} {params : Arguments} {body : List Stmt} {scope : Scope} {clos : List (Str × Addr)} {doc pm ctv : Value} {ps fs : List Str} {fvs : List V} {sp : Sp}
end

/-! #### the larger base -/
def keepL (base : Heap) (L : List Addr) (a : Addr) : Bool := (base.get? a).isSome || L.contains a
def extB (h base : Heap) (L : List Addr) : Heap := PySem.W.hideAll h ((List.range h.objs.size).filter fun a => !keepL base L a)
theorem extB_get {h base : Heap} {L : List Addr} {b : Addr} {o : Obj} (e : h.get? b = some o) (k : keepL base L b = true) : (extB h base L).get? b = some o :=
  PySem.W.hideAll_get _ e fun z => by
    have := (List.mem_filter.mp z).2
    rw [k] at this
    exact absurd this (by decide)
theorem of_extB {h base : Heap} {L : List Addr} {b : Addr} {o : Obj} (e : (extB h base L).get? b = some o) : h.get? b = some o ∧ keepL base L b = true := by
  have e1 := PySem.W.of_hideAll _ e
  refine ⟨e1, ?_⟩
  cases q : keepL base L b with
  | true => rfl
  | false =>
    have hm : b ∈ (List.range h.objs.size).filter fun a => !keepL base L a := List.mem_filter.mpr ⟨List.mem_range.mpr (Heap.lt_size e1), by rw [q]; rfl⟩
    rw [show (extB h base L).get? b = none from PySem.W.hideAll_none _ hm] at e
    cases e
/-- without what the larger base holds, and with it again -/
def delH (H : Hp) (L : List Addr) : Hp := fun b => if b ∈ L then none else H b
def addH (H' H : Hp) (L : List Addr) : Hp := fun b => if b ∈ L then H b else H' b
theorem delH_ne {H : Hp} {L : List Addr} {b : Addr} (h : b ∉ L) : delH H L b = H b := if_neg h
theorem delH_in {H : Hp} {L : List Addr} {b : Addr} (h : b ∈ L) : delH H L b = none := if_pos h
theorem addH_ne {H' H : Hp} {L : List Addr} {b : Addr} (h : b ∉ L) : addH H' H L b = H' b := if_neg h
theorem addH_in {H' H : Hp} {L : List Addr} {b : Addr} (h : b ∈ L) : addH H' H L b = H b := if_pos h
/-- what may go into the larger base: made functions and codes, or cells of this frame's own -/
def Goes (X : Cx) (H : Hp) (b : Addr) : Prop := (∃ φ, H b = some (.ext φ)) ∨ ∃ x, X.env.cells.lookup x = some b ∧ X.fn x = true
section
variable {X : Cx} {pins : List (Addr × Obj)} {σ : L2.St} {H : Hp} {s : Shared} {L : List Addr}
theorem Goes.there (I : Inv X pins σ H s) {b : Addr} (g : Goes X H b) : ∃ o, s.heap.get? b = some o := by
  rcases g with ⟨φ, e⟩ | ⟨x, e, _⟩
  · exact objok_there (I.hok b _ e)
  · obtain ⟨v, o, h, _⟩ := I.cell x b e
    exact ⟨o, h⟩
theorem Goes.noframe (I : Inv X pins σ H s) {b : Addr} (g : Goes X H b) : b ∉ frs X.stack := fun z => by
  have hn := I.stkFree b z
  rcases g with ⟨φ, e⟩ | ⟨x, e, hf⟩
  · rw [hn] at e; cases e
  · rcases List.mem_cons.mp (I.stkSub b z) with q | q
    · exact I.cne x b e q
    · obtain ⟨_, o, ho, _⟩ := I.ok.funs.mem q
      exact absurd (Nat.lt_of_lt_of_le (Heap.lt_size ho) (I.ok.cab x b hf e)) (Nat.lt_irrefl _)
theorem Goes.notup (g : ∀ b ∈ L, Goes X H b) (I : Inv X pins σ H s) {b : Addr} {u : HO} (e : H b = some u) (n : ∀ φ, u ≠ .ext φ) : b ∉ L := fun z => by
  rcases g b z with ⟨φ, q⟩ | ⟨x, q, _⟩
  · rw [e] at q; cases q; exact n φ rfl
  · rw [I.freeC x b q] at e; cases e
/-- the state at a call, over the larger base -/
theorem env0_ext (I : Inv X pins σ H s) (g : ∀ b ∈ L, Goes X H b) : Env0 X.prog X.w X.K X.mg (extB s.heap X.base L) X.A X.stack s (delH H L) := by
  have kb : ∀ b o, X.base.get? b = some o → (extB s.heap X.base L).get? b = some o := fun b o e => extB_get (I.bk b o e) (by unfold keepL; rw [e]; rfl)
  have nb : ∀ b, (extB s.heap X.base L).get? b = none ∨ (X.base.get? b).isSome = true ∨ b ∈ L := fun b => by
    cases q : (extB s.heap X.base L).get? b with
    | none => exact .inl rfl
    | some o =>
      have := (of_extB q).2
      unfold keepL at this
      rw [Bool.or_eq_true] at this
      rcases this with z | z
      · exact .inr (.inl z)
      · exact .inr (.inr (by simpa using z))
  refine ⟨I.ok.frames, ⟨I.mod.kin.keeps kb, I.mod.glob.keeps kb, let ⟨mb, h1, h2⟩ := I.mod.blt; ⟨mb, h1.keeps kb, h2⟩, I.mod.nolimit.keeps kb⟩, fun b o e => ?_, Nat.le_of_eq (PySem.W.hideAll_size _ _), ?_, fun b hb => ?_, fun b u e => ?_, I.bare⟩
  · obtain ⟨e1, e2⟩ := of_extB e
    refine ⟨e1, ?_⟩
    by_cases hb : b ∈ L
    · exact delH_in hb
    · rw [delH_ne hb]
      unfold keepL at e2
      rw [Bool.or_eq_true] at e2
      rcases e2 with z | z
      · obtain ⟨o', q⟩ := Option.isSome_iff_exists.mp z
        exact (I.bs b o' q).2
      · exact absurd (by simpa using z) hb
  · have all : ∀ l : List Env, (∀ b ∈ frs l, b ∈ frs X.stack) → s.heap.FunFrames X.base l → s.heap.FunFrames (extB s.heap X.base L) l := by
      intro l
      induction l with
      | nil => intro _ _; trivial
      | cons env r ih =>
        intro hs hl
        obtain ⟨hk, ⟨L', o, hf, hn, ho, hd⟩, hr⟩ := hl
        have hm : L' ∈ frs X.stack := hs L' (by unfold frs; rw [List.filterMap_cons, hf]; exact List.mem_cons_self)
        refine ⟨hk, ⟨L', o, hf, ?_, ho, hd⟩, ih (fun b hb => hs b (by unfold frs; rw [List.filterMap_cons, hf]; exact List.mem_cons_of_mem _ hb)) hr⟩
        rcases nb L' with z | z | z
        · exact z
        · rw [hn] at z; cases z
        · exact absurd hm ((g L' z).noframe I)
    exact all X.stack (fun _ h => h) I.stack
  · unfold delH
    split
    · rfl
    · exact I.stkFree b hb
  · have hb : b ∉ L := fun z => by rw [delH_in z] at e; cases e
    rw [delH_ne hb] at e
    refine (I.hok b u e).stay (fun _ _ _ q => q) (fun c q => ?_) fun c xs q => ?_
    · rw [delH_ne (Goes.notup g I q fun _ z => by cases z)]; exact q
    · rw [delH_ne (Goes.notup g I q fun _ z => by cases z)]; exact q
/-- behind it -/
theorem after_ext {Q : VK} {u : Value} {s' : Shared} (I : Inv X pins σ H s) (g : ∀ b ∈ L, Goes X H b) (h : CE X.stack X.prog X.w (delH H L) s (fun v H' => (∀ b ∈ L, H' b = none) → Q v (addH H' H L)) u s') : EP X pins σ Q u s' := by
  obtain ⟨v, H', os, bare, un, hok, r, q⟩ := h
  have gone : ∀ b ∈ L, H' b = none := fun b hb => by
    obtain ⟨o, e⟩ := (g b hb).there I
    exact un.free b o e (delH_in hb) (by simp)
  have unt : ∀ b, H b = none → delH H L b = none := fun b n => by
    unfold delH
    split
    · rfl
    · exact n
  refine ⟨v, addH H' H L, I.call' (ch := []) os ⟨fun b o e n hb hx => un.keep b o e (unt b n) hb hx, fun b o e n hb hx => un.slot b o e (unt b n) hb hx, fun b o e n hx => ?_, un.there, fun b xs e => ?_, fun b o xs e => ?_, fun b qs e => ?_⟩ (fun b w e => ?_) bare fun b z => absurd z (by simp), r, q gone⟩
  · by_cases hb : b ∈ L
    · rw [addH_in hb]; exact n
    · rw [addH_ne hb]; exact un.free b o e (unt b n) hx
  · have hb := Goes.notup g I e fun _ z => by cases z
    rw [addH_ne hb]
    exact un.tups b xs (by rw [delH_ne hb]; exact e)
  · have hb := Goes.notup g I e fun _ z => by cases z
    rw [addH_ne hb]
    exact un.frzs b o xs (by rw [delH_ne hb]; exact e)
  · have hb := Goes.notup g I e fun _ z => by cases z
    rw [addH_ne hb]
    exact un.tbls b qs (by rw [delH_ne hb]; exact e)
  · by_cases hb : b ∈ L
    · rw [addH_in hb] at e
      rcases g b hb with ⟨φ, e'⟩ | ⟨x, e', _⟩
      · rw [e] at e'
        cases e'
        obtain ⟨p, ⟨o, eo⟩, st⟩ := I.hok b _ e
        have k := un.keep b o eo (delH_in hb) ((g b hb).noframe I) (by simp)
        exact ⟨st _ _ p fun o' q' => by rw [eo] at q'; cases q'; exact k, ⟨o, k⟩, st⟩
      · rw [I.freeC x b e'] at e; cases e
    · rw [addH_ne hb] at e
      have nl : ∀ c y, H' c = some y → c ∉ L := fun c y e z => by rw [gone c z] at e; cases e
      exact (hok b w e).stay (fun _ _ _ q => q) (fun c q => by rw [addH_ne (nl c _ q)]; exact q) fun c xs q => by rw [addH_ne (nl c _ q)]; exact q
end
/-- a function that is handed about, over the base: ready to be called -/
def FV (P : Program) (w : World) (K : PySem.W.Frag) (mg : Str → Option Value) (base : Heap) (CX : CXT) (k : Nat) (f : Addr) (ps : List Str) (sp : Sp) : Prop :=
  ∃ fd oc od sl, FnOk P w K mg base CX k f fd ps sp ∧ base.get? f = some ⟨oc, od, .func fd, sl⟩ ∧ Binds K fd ps []
section
variable {X : Cx} {CX : CXT} {k : Nat} {ps : List Str} {E : XK} {x : Str} {p pos : Pos} {e : Expr} {es : List Expr} {t : TA}
/-- change(..), change a name that holds a made function -/
inductive TFvI (X : Cx) (CX : CXT) (k : Nat) (ps : List Str) (E : XK) (i : Nat) (t : TA) (σ : L2.St) (H : Hp) (Q : VK) : Prop where
  | mk (f : _) (sp : _) (c1 : σ[i]? = some (some (.ref f))) (c2 : FV X.prog X.w X.K X.mg X.base CX k f ps sp) (c3 : t σ H fun vs H1 => sp vs H1 Q E)
def tFv (X : Cx) (CX : CXT) (k : Nat) (ps : List Str) (E : XK) (i : Nat) (t : TA) : TE := fun σ H Q => TFvI X CX k ps E i t σ H Q
theorem pe_fv (i : Nat) (hr : Room k X.A) (hx : Passes CX X E) (ha : PA X (e :: es) t) (hN : X.N[i]? = some x := by rfl) (hv : Vis X.env.scope x := by first | exact Or.inl rfl | exact Or.inr (Or.inl rfl) | exact Or.inr (Or.inr rfl))
    (h : (e :: es).all plainE = true := by rfl) (hd : (x == ("__debug__" : Str)) = false := by decide) (hcd : (x == ("__classdict__" : Str)) = false := by decide) : PE X (.Call (.Name x p) (e :: es) [] pos) (tFv X CX k ps E i t) := by
  intro pins s σ H Q I hw
  obtain ⟨f, sp, hi, ⟨fd, oc, od, sl, F, ho, hb⟩, hw⟩ := hw
  rw [List.all_cons, Bool.and_eq_true] at h
  have hname : PE X (.Name x p) (tVar i) := pe_var hN hv hd hcd
  refine wpAny_Call_Name_kw (thn (hname pins s σ H (fun v H1 => v = .ref f ∧ H1 = H) I ⟨_, hi, rfl, rfl⟩) fun u s1 ⟨v, H1, I1, rv, e1, e2⟩ => ?_)
  subst e1 e2
  cases (show u = Value.ref f from rv)
  refine PySem.W.callWith_F (first := []) ⟨_, _, _, _, I1.bk _ _ ho⟩ (thn (ha pos pins s1 σ H1 _ I1 hw) fun us s2 ⟨vs, H2, I2, r, q⟩ => ⟨⟨_, _, _, _, I2.bk _ _ ho⟩, ?_⟩) (star_plain h.1) (star_any h.2)
  exact run_fn F hr hb (dvs := []) (ds := []) .nil hx I2 r (by rw [List.append_nil]; exact q)
end
section
variable {X : Cx} {CX : CXT} {k : Nat} {ps : List Str} {E : XK} {x : Str} {p pos : Pos} {e : Expr} {es : List Expr} {t : TA}
/-- a def of the text whose promise is told over every base -/
def GB (P : Program) (w : World) (K : PySem.W.Frag) (mg : Str → Option Value) (base : Heap) (CX : CXT) (k : Nat) (x : Str) (ps : List Str) (sp : Heap → Sp) : Prop :=
  ∀ base', (∀ b o, base.get? b = some o → base'.get? b = some o) → GF P w K mg base' CX k x ps (sp base')
end
end NC
/-! ### reversed: a loop over it, and list(reversed(xs)) -/
namespace NC
open PySem PySem.Spec PyProof.Rows L2
/-- the list at a, n long, from behind -/
def Itv (K : PySem.W.Frag) (a : Addr) (n : Nat) : It :=
  ⟨fun i H => i < n ∧ ∃ xs, SqL K H a xs ∧ xs.length = n, fun i H x H' => H' = H ∧ ∀ xs, SqL K H a xs → xs.reverse[i]? = some x, fun i H => n ≤ i⟩
theorem turn_rev {P : Program} {w : World} {K : PySem.W.Frag} {tg : Expr} (a it : Addr) (n : Nat) : Turn P w K tg (Itv K a n) [it] it (fun i h => i ≤ n ∧ h.IsRevIter it a ((n : Int) - 1 - (i : Int))) where
  mem := by simp
  obj := fun i h st b hb => by
    have e : b = it := by simpa using hb
    subst e
    obtain ⟨_, o, e, c, d⟩ := st
    exact ⟨o, e, fun v z => by rw [d] at z; cases z⟩
  keep := fun i h h' st k => ⟨st.1, st.2.at fun o e => k it (by simp) o e⟩
  item := by
    intro X hP hw hK hc i pins s σ H E I hf st hg
    subst hP hw hK
    obtain ⟨hi, xs, hq, hn⟩ := hg
    obtain ⟨its, rv, p, hz⟩ := I.list hq
    have hx : xs.reverse[i]? = some (xs.reverse[i]'(by rw [List.length_reverse]; omega)) := by simp [hi, hn]
    have hx2 : xs[n - 1 - i]? = some (xs.reverse[i]'(by rw [List.length_reverse]; omega)) := by
      rw [← hx, List.getElem?_reverse (by omega), hn]
    obtain ⟨u, hu, ru⟩ := rv.get hx2
    obtain ⟨f0, f1, f2, f3, f4, f5⟩ := hf it (by simp)
    have e : (n : Int) - 1 - (i : Int) = ((n - 1 - i : Nat) : Int) := by omega
    have st2 := st.2
    rw [e] at st2
    refine wpAny_pyNext_rev_item st2 p.isList (x := u) (by simpa using hu) fun h' st' sb => ?_
    have I1 : Inv X pins σ H { s with heap := h' } := I.turned (t' := s.toks) (fun b o hb e => (sb.2 b hb).trans e) f0 f1 f3 f4 f5
    have e2 : ((n - 1 - i : Nat) : Int) - 1 = (n : Int) - 1 - ((i + 1 : Nat) : Int) := by omega
    rw [e2] at st'
    obtain ⟨o, eo, c, d⟩ := id st'
    exact ⟨u, rfl, go_of (s := { s with heap := h' }) eo c d (by decide) ⟨_, H, I1, ru, ⟨rfl, fun ys hy => by rw [I.list_inj hy hq]; exact hx⟩, ⟨by omega, st'⟩, fun b hb => (hf b hb).1⟩⟩
  done := by
    intro X hP hw hK hc i pins s σ H E I hf st hg
    subst hP hw hK
    have hni : n ≤ i := hg
    obtain ⟨f0, f1, f2, f3, f4, f5⟩ := hf it (by simp)
    have e : (n : Int) - 1 - (i : Int) = -1 := by have := st.1; omega
    have st2 := st.2
    rw [e] at st2
    exact wpAny_pyNext_rev_end (I.ok.hd hc) st2 fun h' eb => ⟨rfl, I.turned (t' := s.toks) (fun b o hb e => eb b o hb e) f0 f1 f3 f4 f5⟩
  self := fun _ _ _ _ _ st h => wpAny_pyIter_revIter st.2 h
section
variable {X : Cx} {tg : Expr}
inductive IRevI (K : PySem.W.Frag) (R : It → Hp → Prop) (vs : List V) (H1 : Hp) : Prop where
  | mk (a : _) (xs : _) (c1 : vs = [.ref a]) (c2 : SqL K H1 a xs) (c3 : R (Itv K a xs.length) H1)
def iRev (K : PySem.W.Frag) (tl : TE) : TI := fun σ H R => tCons tl tNil σ H fun vs H1 => IRevI K R vs H1
theorem pi_rev {l : Expr} {tl : TE} {p pos : Pos} (hg : Gl X "reversed") (hm : X.mg "reversed" = none) (hl : PE X l tl) (h : plainE l = true := by rfl) : PI X tg (.Call (.Name "reversed" p) [l] [] pos) (iRev X.K tl) := by
  intro pins s σ H R I hw
  have ha : PA X [l] (tCons tl tNil) := pa_c hl pa_nil h
  refine wpAny_Call_Name_kw (ld_blt I hg hm boot_reversed ?_)
  refine PyProof.Rows.callWith_type1 (thn (ha pos pins s σ H _ I hw) fun us s1 ⟨vs, H1, I1, r1, a, xs, e, hq, q1⟩ => ?_) (star_plain h) rfl
  subst e
  obtain ⟨u, rfl, ru⟩ := vals1 r1
  cases (show u = Value.ref a from ru)
  obtain ⟨its, rv, pl, hz⟩ := I1.list hq
  have hn : its.toArray.size = xs.length := by rw [List.size_toArray, rv.length]
  refine call_reversed_list pl.isList ?_
  have hit : (s1.heap.push (revObj a ((its.toArray.size : Int) - 1))).IsRevIter s1.heap.objs.size a ((xs.length : Int) - 1 - ((0 : Nat) : Int)) := by
    refine ⟨_, Heap.get?_push_size _ rfl, rfl, ?_⟩
    rw [hn]
    show Data.fields #[Value.ref a, rawInt ((xs.length : Int) - 1)] = _
    rw [show (xs.length : Int) - 1 - ((0 : Nat) : Int) = (xs.length : Int) - 1 by omega]
  refine wpAny_pyIter_revIter (s := { s1 with heap := s1.heap.push (revObj a ((its.toArray.size : Int) - 1)) }) hit ?_
  refine ⟨s1.heap.objs.size, [s1.heap.objs.size], _, _, H1, rfl, I1.kept (t' := s1.toks) fun b o e => Heap.get?_push_of_some _ e, turn_rev a _ xs.length, ⟨Nat.zero_le _, hit⟩, fun b hb => ?_, q1⟩
  have e : b = s1.heap.objs.size := by simpa using hb
  subst e
  exact I1.fpOk (Nat.le_refl _) (I1.hok.fresh (Nat.le_refl _))
end
/-- over a list from behind, that the body leaves as it is -/
theorem for_rev {K : PySem.W.Frag} {a : Addr} {xs : List V} {g : TG} {tb : TS} {D : Ends} {σ : L2.St} {H : Hp} (Pv : Nat → L2.St → Hp → Prop) (h0 : Pv 0 σ H) (hl : ∀ i σ H, i ≤ xs.length → Pv i σ H → SqL K H a xs)
    (hs : ∀ i x σ H, xs.reverse[i]? = some x → Pv i σ H → g x σ H fun σ2 H2 => tb { D with nx := Pv (i + 1), ct := Pv (i + 1), bk := D.nx } σ2 H2) (hd : ∀ σ H, Pv xs.length σ H → D.nx σ H) :
    ∃ W : Nat → Nat → L2.St → Hp → Prop, (∃ m, W 0 m σ H) ∧ ∀ i m σ H, W i m σ H →
      ((Itv K a xs.length).stop i H ∧ D.nx σ H) ∨ ((Itv K a xs.length).go i H ∧ ∃ N : L2.St → Hp → Prop, (∀ σ' H', N σ' H' → ∃ m', m' < m ∧ W (i + 1) m' σ' H') ∧ ∀ x H', (Itv K a xs.length).yld i H x H' → g x σ H' fun σ2 H2 => tb { D with nx := N, ct := N, bk := D.nx } σ2 H2) := by
  refine ⟨fun i m σ H => m = xs.length - i ∧ i ≤ xs.length ∧ Pv i σ H, ⟨xs.length, by simp, Nat.zero_le _, h0⟩, ?_⟩
  rintro i m σ H ⟨rfl, hi, p⟩
  have q := hl i σ H hi p
  by_cases hlt : i < xs.length
  · refine .inr ⟨⟨hlt, xs, q, rfl⟩, Pv (i + 1), fun σ' H' p' => ⟨xs.length - (i + 1), by omega, rfl, hlt, p'⟩, fun x H' y => ?_⟩
    obtain ⟨e, y⟩ := y
    subst e
    exact hs i x σ _ (y xs q) p
  · have e : i = xs.length := by omega
    subst e
    exact .inl ⟨Nat.le_refl _, hd σ H p⟩

/-! #### list(reversed(xs)) -/
theorem paired_rev {α β : Type} {F : α → β → Prop} : ∀ {xs : List α} {ys : List β}, Paired F xs ys → Paired F xs.reverse ys.reverse
  | _, _, .nil => .nil
  | _, _, .cons r p => by rw [List.reverse_cons, List.reverse_cons]; exact paired_snoc r (paired_rev p)
theorem lri_no_len : typeLookup (.type "list_reverseiterator") "__len__" = pure none := by rw [typeLookup_type, builtinLookup_eq_fast]; kernel_rfl
theorem lri_hint : typeLookup (.type "list_reverseiterator") "__length_hint__" = pure (some (.builtin "list_reverseiterator.__length_hint__")) := by rw [typeLookup_type, builtinLookup_eq_fast]; kernel_rfl
section
variable {prog : Program} {w : World} {A : Around} {E : Value → Shared → Prop} {s : Shared}
theorem sub_lri : isSubtype (.type "list_reverseiterator") (.type "list_reverseiterator") = pure true := by rw [isSubtype_type]; kernel_rfl
theorem hint_lri {it l : Addr} {i : Int} {Q : Bool → Shared → Prop} (hit : s.heap.IsRevIter it l i) (h : Q false s) : wpAny (model prog w) A (Builtin.List.listLengthHint (.ref it)) Q E s := by
  unfold Builtin.List.listLengthHint
  refine wpAny_bind (wpAny_specialOf hit.typeIs lri_no_len ?_)
  show wpAny _ _ (specialOf (Value.ref it) (Str.ofString "__length_hint__") >>= _) _ _ _
  refine wpAny_bind (wpAny_specialOf hit.typeIs lri_hint ?_)
  generalize hid : ("list_reverseiterator.__length_hint__" : String) = id0
  wp_delta
  rw [show splitId id0 = some ("list_reverseiterator", "__length_hint__") from by subst hid; decide +kernel]
  subst hid
  refine wpAny_bind (wpAny_isInstance (b := true) hit.typeIs sub_lri ?_)
  exact wpAny_pure h
theorem lri_nl : (Value.type "list_reverseiterator" == Value.type "list") = false := by decide
theorem lri_nt : (Value.type "list_reverseiterator" == Value.type "tuple") = false := by decide
end
section
variable {prog : Program} {w : World} {A : Around} {s : Shared} {R : Result → Shared → Prop} {I l : Addr} {items : Array Value}
theorem ext_lri (hh : A.handled = none) (hne : l ≠ I) (S : Addr) (res : Value) (c₀ : Nat) (hit : s.heap.IsRevIter I l ((items.size : Int) - 1)) (hl : s.heap.IsList l items) (hSI : S ≠ I) (hSl : S ≠ l)
    (hS : s.heap.get? S = some { cls := .type "list", data := .seq #[] c₀ })
    (hR : ∀ s' acc' c', Moved (S :: [I]) (fun a b => b = a) s s' → s'.heap.get? S = some { cls := .type "list", dict := none, data := .seq acc' c', slots := #[] } → ItemsOf (fun i v => items[items.size - 1 - i]? = some v) acc' items.size → R (.ok (.ret res)) s') (hn : items.size ≤ sizeLine) :
    wpAny (model prog w) A.in1 (Builtin.List.listExtendWith (.ref S) (.ref I) res)
      (fun fin s' => match fin with | .done f => R (.ok f) s' | .again c' => c'.quiet = true ∧ codeAny (model prog w) A c' R s') (fun e s' => R (.error e) s') s := by
  have W := (Walks.listRev (prog := prog) (w := w) (A := A.in1) hh I l hne items).toS
  unfold Builtin.List.listExtendWith
  refine wpAny_bind (wpAny_typeOf hit.typeIs ?_)
  have h1 : Builtin.List.listSameRef (.ref S) (.ref I) = false := by simp [Builtin.List.listSameRef, hSI]
  simp only [h1, lri_nl, lri_nt, Bool.or_false, Bool.false_eq_true, if_false]
  refine wpAny_bind (wpAny_pyIter_revIter hit ?_)
  refine wpAny_bind (wpAny_holding (hint_lri hit ?_))
  rw [if_neg (by decide)]
  have hSf : S ∉ [I, l] := by simp [hSI, hSl]
  refine wpAny_pure ⟨plainId_quiet F.plain_extend_loop _, codeAny_extend_loopS W hn _ hSf _ items.size 0 _ _ _ rfl (Nat.zero_le _) ⟨Nat.zero_le _, by simpa using hit, hl⟩ hS (ItemsOf.nil _) fun s' acc' c' hm hS' hacc => ?_⟩
  exact hR s' acc' c' hm hS' hacc
theorem init_lri (hh : A.handled = none) (hne : l ≠ I) (S : Addr) (hit : s.heap.IsRevIter I l ((items.size : Int) - 1)) (hl : s.heap.IsList l items) (hSI : S ≠ I) (hSl : S ≠ l)
    (hS : s.heap.get? S = some { cls := .type "list", data := .seq #[] })
    (hR : ∀ s' acc' c', Moved (S :: [I]) (fun a b => b = a) s s' → s'.heap.get? S = some { cls := .type "list", dict := none, data := .seq acc' c', slots := #[] } → ItemsOf (fun i v => items[items.size - 1 - i]? = some v) acc' items.size → R (.ok (.ret .none)) s') (hn : items.size ≤ sizeLine) :
    wpAny (model prog w) A.in1 (Builtin.«list.__init__» ⟨[.ref S, .ref I], []⟩)
      (fun fin s' => match fin with | .done f => R (.ok f) s' | .again c' => c'.quiet = true ∧ codeAny (model prog w) A c' R s') (fun e s' => R (.error e) s') s := by
  show wpAny _ A.in1 (do let old ← Builtin.List.listItems (.ref S); Builtin.List.listUpdate (.ref S) (fun _ => #[]); letGo old.toList.reverse; Builtin.List.listExtendWith (.ref S) (.ref I) .none) _ _ s
  refine wpAny_bind ?_
  unfold Builtin.List.listItems
  refine wpAny_bind (wpAny_seqItems hS rfl (wpAny_pure ?_))
  show wpAny _ A.in1 (updateSeq S (fun _ => #[]) >>= fun _ => letGo (#[] : Array Value).toList.reverse >>= fun _ => Builtin.List.listExtendWith (.ref S) (.ref I) .none) _ _ s
  refine wpAny_bind (wpAny_updateSeq hS rfl ?_)
  have hS₂ := Heap.get?_update_self (Obj.mapSeq (fun _ => (#[] : Array Value))) hS rfl
  have oth : ∀ b o, b ≠ S → s.heap.get? b = some o → (s.heap.update S (Obj.mapSeq (fun _ => (#[] : Array Value)))).get? b = some o :=
    fun b o hb e => (Heap.get?_update_other _ _ (Ne.symm hb)).trans e
  refine wpAny_bind (wpAny_letGo ?_)
  refine ext_lri hh hne S .none _ (hit.at fun o e => oth I o hSI.symm e) (hl.at fun o e => oth l o hSl.symm e) hSI hSl hS₂ (fun s' acc' c' hm hS' hacc => ?_) hn
  exact hR s' acc' c' (Moved.trans (fun _ _ _ h1 h2 => h2.trans h1) ((Moved.refl (wr := S :: [I]) (G := fun a b => b = a) (fun _ => rfl)).then_heap (Nat.le_refl _) fun b o hb e => oth b o (fun h => hb (by rw [h]; exact List.mem_cons_self)) e) hm) hS' hacc
end
section
variable {prog : Program} {w : World} {A : Around} {E : Value → Shared → Prop} {s : Shared} {I l : Addr} {items : Array Value}
theorem list_lri {Q : Value → Shared → Prop} (hh : A.handled = none) (hne : l ≠ I) (hit : s.heap.IsRevIter I l ((items.size : Int) - 1)) (hl : s.heap.IsList l items)
    (hQ : ∀ h' tk c', (∀ b o, b ≠ I → s.heap.get? b = some o → h'.get? b = some o) → h'.get? s.heap.objs.size = some { cls := .type "list", dict := none, data := .seq items.reverse c', slots := #[] } → Q (.ref s.heap.objs.size) { s with heap := h', toks := tk }) (hn : items.size ≤ sizeLine) :
    wpAny (model prog w) A (call (.type "list") [.ref I]) Q E s := by
  have lI : I < s.heap.objs.size := by obtain ⟨o, ho, _⟩ := hit; exact Heap.lt_size ho
  have ll : l < s.heap.objs.size := by obtain ⟨o, ho, _⟩ := hl; exact Heap.lt_size ho
  refine callType_codes (Q₁ := fun obj s₁ => obj = .ref s.heap.objs.size ∧ s₁ = { s with heap := s.heap.push { cls := .type "list", data := .seq #[] } }) F.called_list (F.typeCall_list_1 _) F.entry_list_init
    (code_list_new _ ⟨rfl, rfl⟩) fun obj s₁ h₁ => ?_
  obtain ⟨rfl, rfl⟩ := h₁
  have hS : (s.heap.push { cls := .type "list", data := .seq #[] }).get? s.heap.objs.size = some { cls := .type "list", data := .seq #[] } := Heap.get?_push_size _ rfl
  refine ⟨⟨_, hS, rfl⟩, F.args_list_init_2 _ _, init_lri (A := A.in1) hh hne _ (hit.at fun o e => Heap.get?_push_of_some _ e) (hl.at fun o e => Heap.get?_push_of_some _ e) (Nat.ne_of_gt lI) (Nat.ne_of_gt ll) hS (fun s' acc' c' hm hS' hacc => ?_) hn⟩
  refine ⟨rfl, ?_⟩
  rw [Moved.eq_with hm]
  have ea : acc' = items.reverse := by
    apply Array.ext
    · rw [hacc.1, Array.size_reverse]
    · intro j h1 h2
      have := hacc.2 j (acc'[j]) (by simp)
      rw [Array.getElem_reverse]
      rw [Array.size_reverse] at h2
      rw [Array.getElem?_eq_getElem (by omega)] at this
      exact (Option.some.inj this).symm
  refine hQ s'.heap s'.toks c' (fun b o hb e => hm.heap b o ?_ (Heap.get?_push_of_some _ e)) (ea ▸ hS')
  intro hmem
  rcases List.mem_cons.mp hmem with e' | hmem
  · exact absurd (Heap.lt_size e) (by rw [e']; exact Nat.lt_irrefl _)
  · exact hb (by simpa using hmem)
end
section
variable {X : Cx}
/-- list(reversed(l)) -/
inductive TLRevI (K : PySem.W.Frag) (vs : List V) (H1 : Hp) (Q : VK) : Prop where
  | mk (a : _) (xs : _) (c1 : vs = [.ref a]) (c2 : SqL K H1 a xs) (c3 : ∀ p, H1 p = none → Q (.ref p) (upd H1 p (.lst xs.reverse)))
def tLRev (K : PySem.W.Frag) (tl : TE) : TE := fun σ H Q => tCons tl tNil σ H fun vs H1 => TLRevI K vs H1 Q
theorem pe_lrev {l : Expr} {tl : TE} {p p2 pos pos2 : Pos} (hh : X.A.handled = none) (hg : Gl X "reversed") (hm : X.mg "reversed" = none) (hg2 : Gl X "list") (hm2 : X.mg "list" = none) (hl : PE X l tl) (h : plainE l = true := by rfl) :
    PE X (.Call (.Name "list" p2) [.Call (.Name "reversed" p) [l] [] pos] [] pos2) (tLRev X.K tl) := by
  intro pins s σ H Q I hw
  have ha : PA X [l] (tCons tl tNil) := pa_c hl pa_nil h
  refine wpAny_Call_Name_kw (ld_blt I hg2 hm2 boot_list ?_)
  refine PyProof.Rows.callWith_type1 (e := .Call (.Name "reversed" p) [l] [] pos) (rest := []) ?_ rfl rfl
  show wpAny _ _ (spliced ((false, eval (.Call (.Name "reversed" p) [l] [] pos) X.env) :: backTo pos2 (starEach [] X.env))) _ _ s
  refine Calls.spliced_cons ?_
  refine wpAny_Call_Name_kw (ld_blt I hg hm boot_reversed ?_)
  refine PyProof.Rows.callWith_type1 (thn (ha pos pins s σ H _ I hw) fun us s1 ⟨vs, H1, I1, r1, a, xs, e, hq, q1⟩ => ?_) (star_plain h) rfl
  subst e
  obtain ⟨u, rfl, ru⟩ := vals1 r1
  cases (show u = Value.ref a from ru)
  obtain ⟨its, rv, pl, hz⟩ := I1.list hq
  refine call_reversed_list pl.isList ?_
  refine wpAny_items_nil ?_
  have la : a < s1.heap.objs.size := by obtain ⟨o, ho, _⟩ := pl.isList; exact Heap.lt_size ho
  have hn : its.toArray.size ≤ sizeLine := by rw [List.size_toArray, ← rv.length]; exact hz
  have hit : (s1.heap.push (revObj a ((its.toArray.size : Int) - 1))).IsRevIter s1.heap.objs.size a ((its.toArray.size : Int) - 1) := ⟨_, Heap.get?_push_size _ rfl, rfl, rfl⟩
  have I2 : Inv X pins σ H1 { s1 with heap := s1.heap.push (revObj a ((its.toArray.size : Int) - 1)) } := I1.kept (t' := s1.toks) fun b o e => Heap.get?_push_of_some _ e
  refine list_lri (s := { s1 with heap := s1.heap.push (revObj a ((its.toArray.size : Int) - 1)) }) hh (Nat.ne_of_lt la) hit (pl.isList.at fun o e => Heap.get?_push_of_some _ e) (fun h' tk c' kp e => ?_) hn
  obtain ⟨f0, f1, f2, f3, f4, f5⟩ := I1.fpOk (b := s1.heap.objs.size) (Nat.le_refl _) (I1.hok.fresh (Nat.le_refl _))
  have hnew : H1 (s1.heap.push (revObj a ((its.toArray.size : Int) - 1))).objs.size = none := I2.hok.fresh (Nat.le_refl _)
  have rr : Vals xs.reverse its.reverse := paired_rev rv
  have I3 := I2.laid (a := (s1.heap.push (revObj a ((its.toArray.size : Int) - 1))).objs.size) (o := .lst xs.reverse) (t' := s1.toks) (h' := (s1.heap.push (revObj a ((its.toArray.size : Int) - 1))).push { cls := .type "list", dict := none, data := .seq its.toArray.reverse c', slots := #[] })
    (fun b o e => Heap.get?_push_of_some _ e) (Nat.le_refl _) ⟨by rw [List.length_reverse]; exact hz, its.reverse, c', rr, by rw [Heap.get?_push_size _ rfl]; simp⟩
  have I4 := I3.turned (t' := tk) (it := s1.heap.objs.size) (h' := h') (fun b o hb e' => ?_) ?_ f1 f3 f4 f5
  · exact ⟨.ref _, _, I4, rfl, q1 _ hnew⟩
  · by_cases hD : b = (s1.heap.push (revObj a ((its.toArray.size : Int) - 1))).objs.size
    · subst hD
      rw [Heap.get?_push_size _ rfl] at e'
      rw [e, e']
    · exact kp b o hb (by rw [Heap.get?_push_ne _ _ _ hD] at e'; exact e')
  · rw [upd_ne]
    · exact f0
    · rw [Heap.size_push]; exact Nat.ne_of_lt (Nat.lt_succ_self _)
end
end NC
/-! ### defs within defs, in short -/
namespace NC
open PySem PySem.Spec PyProof.Rows L2
def inDef (s : Stmt) (j : Nat) : Stmt := (defBody s).getD j (.Pass ⟨0, 0, 0, 0⟩)
def defPos (s : Stmt) : Pos := match s with
  | .FunctionDef _ _ _ _ _ _ _ _ _ p => p
  | _ => ⟨0, 0, 0, 0⟩
/-- a def of the text whose code is told -/
structure FunC (K : PySem.W.Frag) (x qual : Str) (st : Stmt) (f : Addr) (fd : FuncData) (c0 : Addr) : Prop where
  ex : ∃ (oc : Value) (od : Option Addr) (kV doc pm : Value) (an : Option Addr) (ct : Value) (osl : Array (Option Value)),
    fd = PySem.W.fnOf x qual (defArgs st) (defBody st) (defScope st) .none kV doc pm an (.ref c0) ct ∧ K.lookup f = some ⟨oc, od, .func fd, osl⟩ ∧ PySem.W.codeIn K (.ref c0) qual = true
theorem FunC.ok {P : Program} {w : World} {K : PySem.W.Frag} {mg : Str → Option Value} {base : Heap} {x qual : Str} {st : Stmt} {f : Addr} {fd : FuncData} {c0 : Addr} {N ps : List Str} {k : Nat} {sp : Sp} (F : FunC K x qual st f fd c0) (S : FnScope N ps (defScope st)) (len : ∀ vs H Q E, sp vs H Q E → vs.length = ps.length)
    (hbody : ∀ (A : Around) (outer : List Env) (s : Shared) (H : Hp) (vs : List V) (Q : VK) (E : XK), Room k (A.deeper (envOfC qual (defScope st) s.heap.objs.size f (.ref c0))) → sp vs H Q E →
      ∃ t, PSs (cxOf CX0 P w K mg base N qual (defScope st) f (.ref c0) A outer s H E).nox (defBody st) t ∧ t { nx := fun _ H' => Q .non H', rt := Q } (start N vs) H) : FnOk P w K mg base CX0 (k + 1) f fd ps sp := by
  obtain ⟨oc, od, kV, doc, pm, an, ct, osl, rfl, lk, hcd⟩ := F.ex
  refine fn_of lk hcd S len fun A outer s H vs Q E hr hsp => ?_
  obtain ⟨t, h, q⟩ := hbody A outer s H vs Q E hr hsp
  exact ⟨t, h.nox, q⟩
theorem NL.trans {H H1 H2 : Hp} (a : NL H H1) (b : NL H1 H2) : NL H H2 := fun x o n h => b x o n (a x o n h)
theorem NL.refl (H : Hp) : NL H H := fun _ _ _ h => h
end NC
/-! ### methods and classes by name -/
namespace NC
open PySem PySem.Spec PyProof.Rows L2
section
variable {X : Cx} {CX : CXT} {k : Nat} {C : Addr} {m x : Str} {ps : List Str} {sp : Sp} {E : XK} {o e : Expr} {es : List Expr} {ta : TE} {t : TA} {apos pos p : Pos}
end
/-- keys that are numbers below M, no two alike: at most M -/
theorem pig {κ : Type} [DecidableEq κ] (f : Nat → κ) : ∀ (M : Nat) (l : List κ), l.Nodup → (∀ k ∈ l, ∃ n : Nat, n < M ∧ k = f n) → l.length ≤ M
  | 0, l, _, h => by
    cases l with
    | nil => exact Nat.le_refl _
    | cons k r =>
      obtain ⟨n, hn, _⟩ := h k List.mem_cons_self
      exact absurd hn (Nat.not_lt_zero _)
  | M + 1, l, nd, h => by
    by_cases hm : f M ∈ l
    · have q := pig f M (l.erase (f M)) (nd.erase _) fun k hk => by
        obtain ⟨hne, hk2⟩ := (nd.mem_erase_iff).mp hk
        obtain ⟨n, hn, e⟩ := h k hk2
        refine ⟨n, ?_, e⟩
        have : n ≠ M := fun z => hne (by rw [e, z])
        omega
      rw [List.length_erase_of_mem hm] at q
      omega
    · have q := pig f M l nd fun k hk => by
        obtain ⟨n, hn, e⟩ := h k hk
        refine ⟨n, ?_, e⟩
        have : n ≠ M := fun z => hm (by rw [← z, ← e]; exact hk)
        omega
      omega
end NC
/-! ### the law's walk where defs make functions: their codes' tables are tracked, empty at first -/
namespace NC
open PySem PySem.Spec PyProof.Rows L2
theorem law_callT {P : Program} {w : World} {K : PySem.W.Frag} {mg mb : Str → Option Value} {k : Nat} {fa a : Addr} {fd : FuncData} {x : Str} {sp : Sp} {s₁ : Shared} {vs : List Value} {ns : List Int} {tabs : List (Addr × Addr)}
    (KX : K.In s₁.heap) (hns : s₁.heap.Ns mainGlobals mg) (hb : s₁.heap.Ns builtinsNs mb) (hbb : ∀ x : Str, x ≠ "__name__" → mb x = bootBuiltins x) (hlim : s₁.heap.NoLimit) (hg : s₁.gens = #[]) (BB : BltAt s₁.heap mg)
    (ha : s₁.heap.get? a = some { cls := .type "list", data := .seq vs.toArray }) (hi : IntsAre vs ns) (hl : ns.length ≤ sizeLine) (hr : Room k callerA)
    (hT1 : ∀ q ∈ tabs, PySem.W.codeHdIn K q.1 q.2 = true) (hT2 : ∀ q ∈ tabs, K.lookup q.2 = none) (hT3 : ∀ q ∈ tabs, s₁.heap.get? q.2 = some (PySem.W.tabObj #[]))
    (F : ∀ base : Heap, K.In base → base.Ns mainGlobals mg → BltAt base mg → FnOk P w K mg base CX0 k fa fd [x] sp) (hbind : ∀ (s : Shared) (u : Value), BindsTo s fd ⟨[u], []⟩ [(x, u)])
    (hsp : ∀ H : Hp, (∀ q ∈ tabs, H q.2 = some (.tbl #[])) → SqL K H a (ns.map V.int) → sp [.ref a] H (fun v _ => v = .bl true) fun _ _ _ => False) :
    codeAny (model P w) callerA (.call (.ref fa) ⟨[.ref a], []⟩) (fun r s' => r = .ok (.ret (.bool true)) ∧ OldK s₁.heap s'.heap ∧ s'.os = s₁.os ∧ AllBare s'.gens) s₁ := by
  have rv := vals_ints hi
  have lenV := hi.length
  have aT : ∀ q ∈ tabs, a ≠ q.2 := fun q hq z => by
    have e := hT3 q hq
    rw [← z, ha] at e
    cases e
  have core : ∀ H : Hp, (∀ q ∈ tabs, H q.2 = some (.tbl #[])) → SqL K H a (ns.map V.int) → HOk P w H s₁.heap →
      (∀ b u, H b = some u → (b = a ∧ ∃ xs, u = .frz { cls := .type "list", data := .seq vs.toArray } (.lst xs)) ∨ ((∃ q ∈ tabs, b = q.2) ∧ u = .tbl #[])) → (H a ≠ none → K.lookup a = none) →
      codeAny (model P w) callerA (.call (.ref fa) ⟨[.ref a], []⟩) (fun r s' => r = .ok (.ret (.bool true)) ∧ OldK s₁.heap s'.heap ∧ s'.os = s₁.os ∧ AllBare s'.gens) s₁ := by
    intro H hH hS hok hA hK
    have off : ∀ {b : Addr} {o : Obj}, s₁.heap.get? b = some o → o.cls ≠ .type "list" → o.cls ≠ .none → H b = none := fun {b o} e n1 n2 => by
      cases q : H b with
      | none => rfl
      | some u =>
        rcases hA b u q with ⟨z, _⟩ | ⟨⟨p, hp, z⟩, _⟩
        · rw [z, ha] at e; cases e; exact absurd rfl n1
        · rw [z, hT3 p hp] at e; cases e; exact absurd rfl n2
    have noA : ∀ {b : Addr} {o : Obj} {es : Array DictEntry} {ep : Nat}, s₁.heap.get? b = some o → o.data = .dict es ep → H b = none := fun {b o es ep} e d => by
      cases q : H b with
      | none => rfl
      | some u =>
        rcases hA b u q with ⟨z, _⟩ | ⟨⟨p, hp, z⟩, _⟩
        · rw [z, ha] at e; cases e; cases d
        · rw [z, hT3 p hp] at e; cases e; cases d
    have nsK : ∀ {b : Addr} {m : Str → Option Value}, s₁.heap.Ns b m → (hidT s₁.heap H).Ns b m := fun {b m} ⟨o, es, ep, e, d, r⟩ => ⟨o, es, ep, hidT_get e (noA e d), d, r⟩
    have hKb : K.In (hidT s₁.heap H) := fun b o e => hidT_get (KX b o e) (by
      cases q : H b with
      | none => rfl
      | some u =>
        rcases hA b u q with ⟨z, _⟩ | ⟨⟨p, hp, z⟩, _⟩
        · subst z
          rw [hK (by rw [q]; simp)] at e; cases e
        · rw [z, hT2 p hp] at e; cases e)
    have hBB : BltAt (hidT s₁.heap H) mg := by
      obtain ⟨bm, ob, h1, h2, h3, h4, h5, h6⟩ := BB
      exact ⟨bm, ob, h1, h2, hidT_get h3 (off h3 (by rw [h4]; decide) (by rw [h4]; decide)), h4, h5, h6⟩
    have hM : Mod K mg (hidT s₁.heap H) := ⟨hKb, nsK hns, ⟨mb, nsK hb, hbb⟩, let ⟨mc, h1, h2⟩ := hlim; ⟨mc, nsK h1, h2⟩⟩
    have e0 : Env0 P w K mg (hidT s₁.heap H) callerA [] s₁ H := ⟨rfl, hM, fun b o e => of_hidT e, Nat.le_of_eq (hidT_size _ _), trivial, fun b hb => absurd (show b ∈ ([] : List Addr) from hb) (by simp), hok, .of_eq hg⟩
    refine codeAny_mono ((F _ hKb (nsK hns) hBB).run callerA [] s₁ H ⟨[.ref a], []⟩ [.ref a] [.ref a] _ _ hr e0 (hbind s₁ (.ref a)) (.cons rfl .nil) (hsp H hH hS)) fun r s' h => ?_
    cases r with
    | error e => exact h.elim
    | ok fl =>
      cases fl with
      | next => exact False.elim h
      | brk => exact False.elim h
      | cont => exact False.elim h
      | ret u =>
        obtain ⟨v, H', os, bare, un, hok', r', q⟩ := h
        have q' : v = .bl true := q
        subst q'
        obtain rfl : u = Value.bool true := r'
        refine ⟨rfl, ⟨fun b o e => ?_, fun b o e => un.there b o e (by simp)⟩, os, bare⟩
        cases q : H b with
        | none => exact .inl (un.keep b o e q (by intro z; exact absurd (show b ∈ ([] : List Addr) from z) (by simp)) (by simp))
        | some u =>
          rcases hA b u q with ⟨_, xs, z⟩ | ⟨⟨p, hp, z⟩, zu⟩
          · subst z
            obtain ⟨e1, _⟩ := hok b _ q
            obtain ⟨e2, _⟩ := hok' b _ (un.frzs b _ _ q)
            rw [e] at e1; cases e1
            exact .inl e2
          · subst zu
            obtain ⟨more, z2⟩ := un.tbls b _ q
            have e1 : s₁.heap.get? b = some (PySem.W.tabObj #[]) := hok b _ q
            have e2 : s'.heap.get? b = some (PySem.W.tabObj (#[] ++ more)) := hok' b _ z2
            rw [e] at e1; cases e1
            have hc := (PySem.W.codeHd_of_K KX (hT1 p hp)).tab (hT3 p hp)
            rw [← z] at hc
            exact .inr (.inl ⟨hc.isCodeTable, rfl, #[], more, rfl, e2⟩)
  have tabOk : ∀ b, (∃ q ∈ tabs, b = q.2) → s₁.heap.get? b = some (PySem.W.tabObj #[]) := fun b ⟨q, hq, z⟩ => by rw [z]; exact hT3 q hq
  classical
  cases hk : K.lookup a with
  | some o =>
    have e := KX a o hk
    rw [ha] at e
    cases e
    refine core (fun b => if (∃ q ∈ tabs, b = q.2) then some (.tbl #[]) else none) (fun q hq => if_pos ⟨q, hq, rfl⟩) (.inr ⟨_, vs.toArray, _, hk, rfl, rfl, rfl, by rw [List.size_toArray, lenV]; exact hl, by simpa using rv⟩) (fun b u z => ?_) (fun b u z => ?_) fun z => absurd (if_neg fun ⟨q, hq, e⟩ => aT q hq e) z
    · by_cases hb : ∃ q ∈ tabs, b = q.2
      · have z' := (if_pos hb).symm.trans z
        cases z'
        exact tabOk b hb
      · have z' := (if_neg hb).symm.trans z
        cases z'
    · by_cases hb : ∃ q ∈ tabs, b = q.2
      · have z' := (if_pos hb).symm.trans z
        cases z'
        exact .inr ⟨hb, rfl⟩
      · have z' := (if_neg hb).symm.trans z
        cases z'
  | none =>
    have na : ¬ ∃ q ∈ tabs, a = q.2 := fun ⟨q, hq, e⟩ => aT q hq e
    refine core (fun b => if (∃ q ∈ tabs, b = q.2) then some (.tbl #[]) else if b = a then some (.frz { cls := .type "list", data := .seq vs.toArray } (.lst (ns.map V.int))) else none) (fun q hq => if_pos ⟨q, hq, rfl⟩)
      (.inl (.inr ⟨{ cls := .type "list", data := .seq vs.toArray }, (if_neg na).trans (if_pos rfl)⟩)) (fun b u z => ?_) (fun b u z => ?_) fun _ => hk
    · by_cases hb : ∃ q ∈ tabs, b = q.2
      · have z' := (if_pos hb).symm.trans z
        cases z'
        exact tabOk b hb
      · have z := (if_neg hb).symm.trans z
        by_cases hba : b = a
        · have z' := (if_pos hba).symm.trans z
          cases z'
          subst hba
          exact ⟨ha, by rw [List.length_map]; exact hl, vs, _, rv, ha⟩
        · have z' := (if_neg hba).symm.trans z
          cases z'
    · by_cases hb : ∃ q ∈ tabs, b = q.2
      · have z' := (if_pos hb).symm.trans z
        cases z'
        exact .inr ⟨hb, rfl⟩
      · have z := (if_neg hb).symm.trans z
        by_cases hba : b = a
        · have z' := (if_pos hba).symm.trans z
          cases z'
          exact .inl ⟨hba, _, rfl⟩
        · have z' := (if_neg hba).symm.trans z
          cases z'
theorem walk_T {l : PySem.W.OpenLaw} {k : Nat} {q : Program} {loose : List Str} {XP : (Str → Option Value) → Heap → Prop} {YP : World → Heap → Prop} {d : DefRec} {K : Params → PySem.W.Frag} {sp : PySem.W.Frag → Sp} {x : Str} {tabs : List (Addr × Addr)}
    (hn : l.most = some 63) (hdf : d.params.defaults = []) (hr : Room k callerA) (hY : ∀ (w : World) (h : Heap), YP w h → (K w.params).In h) (hYT : ∀ (w : World) (h : Heap), YP w h → ∀ q ∈ tabs, h.get? q.2 = some (PySem.W.tabObj #[]))
    (hT1 : ∀ P, ∀ q ∈ tabs, PySem.W.codeHdIn (K P) q.1 q.2 = true) (hT2 : ∀ P, ∀ q ∈ tabs, (K P).lookup q.2 = none)
    (F : ∀ (w : World) (mg : Str → Option Value) (fa : Addr) (h : Heap), (K w.params).In h → h.Ns mainGlobals mg → mg d.name = some (.ref fa) →
      ∃ fd : FuncData, (∀ (s : Shared) (u : Value), BindsTo s fd ⟨[u], []⟩ [(x, u)]) ∧
        ∀ base : Heap, (K w.params).In base → base.Ns mainGlobals mg → BltAt base mg → FnOk l.prog w (K w.params) mg base CX0 k fa fd [x] (sp (K w.params)))
    (hsp : ∀ (K : PySem.W.Frag) (H : Hp) (a : Addr) (ns : List Int), ns.length ≤ 63 → (∀ q ∈ tabs, H q.2 = some (.tbl #[])) → SqL K H a (ns.map V.int) → sp K [.ref a] H (fun v _ => v = .bl true) fun _ _ _ => False) :
    PySem.W.WalkO q loose XP YP l.row.toRowW d [] (fun f vs => PySem.call f vs) := by
  refine Att.attach_call hn hdf fun w s₀ s₁ mg mb fa o pm cd doc a vs ns G Y ho hd hcd hmg hobj hints hlen hg => ?_
  have KX := hY w _ Y
  obtain ⟨fd, hb, hF⟩ := F w mg fa _ KX G.T.g hmg
  exact law_callT KX G.T.g G.T.b G.T.builtins G.T.nolimit hg G.T.bmain hobj hints (Nat.le_trans hlen (by decide)) hr (hT1 _) (hT2 _) (hYT w _ Y) hF hb fun H hO hS => hsp _ H a ns hlen hO hS
end NC
/-! ### a comprehension over a list: one clause, no free names -/
namespace NC
open PySem PySem.Spec PyProof.Rows L2
section
variable {prog : Program} {w : World} {A : Around} {R : Result → Shared → Prop} {s : Shared}
theorem compLoop_any {elt target iter : Expr} {ifs : List Expr} {scope : Scope} {pos : Pos} {it acc : Value} {env : Env} (I : Nat → Shared → Prop)
    (turn : ∀ n s, I n s → wpAny (model prog w) A (pyNext it) (fun r s₁ => match r with
      | none => R (.ok .next) s₁
      | some v => wpAny (model prog w) A (letOwnedTupleGo target it v) (fun _ s₁' => wpAny (model prog w) A (assign target env v) (fun _ s₂ =>
          wpAny (model prog w) A (forIn ifs true fun c r => if r = true then do let ok ← isTrue c env (eval c env); pure (ForInStep.yield ok) else pure (ForInStep.yield r)) (fun ok s₃ =>
            if ok = true then wpAny (model prog w) A (eval elt env) (fun x s₄ =>
              wpAny (model prog w) A (call (.builtin "list.append") [acc, x]) (fun _ s₅ => ∃ m, m < n ∧ I m s₅) (fun _ _ => False) s₄) (fun _ _ => False) s₃
            else ∃ m, m < n ∧ I m s₃) (fun _ _ => False) s₂) (fun _ _ => False) s₁') (fun _ _ => False) s₁) (fun _ _ => False) s)
    (n : Nat) (h : I n s) : codeAny (model prog w) A (.compLoop (.ListComp elt [⟨target, iter, ifs, 0⟩] scope pos) 0 it acc env) R s := by
  refine codeAny_loop rfl I (fun n s hI => ?_) n h
  show wpAny _ A ((compTurn (.ListComp elt [⟨target, iter, ifs, 0⟩] scope pos) 0 it acc env).onRaise (fun x => do noteFrame x env; theTreesLotGoes x)) _ _ s
  refine wpAny_noted ?_
  rw [compTurn_list]
  refine wpAny_bind (wpAny_standAt (wpAny_bind (wpAny_mono (turn n s hI) (fun r s₁ h₁ => ?_) fun _ _ h' => h'.elim)))
  cases r with
  | none => exact wpAny_pure h₁
  | some v =>
    refine wpAny_bind (wpAny_mono h₁ (fun _ s₁' h₁' => ?_) fun _ _ h' => h'.elim)
    refine wpAny_bind (wpAny_mono h₁' (fun _ s₂ h₂ => wpAny_bind (wpAny_mono h₂ (fun ok s₃ h₃ => ?_) fun _ _ h' => h'.elim)) fun _ _ h' => h'.elim)
    cases ok with
    | false => exact wpAny_pure ⟨rfl, h₃⟩
    | true =>
      exact wpAny_bind (wpAny_bind (wpAny_mono h₃ (fun x s₄ h₄ => wpAny_bind (wpAny_mono h₄ (fun _ s₅ h₅ => wpAny_pure (wpAny_pure ⟨rfl, h₅⟩)) fun _ _ h' => h'.elim)) fun _ _ h' => h'.elim))
end
/-- the context within it -/
def compCx (X : Cx) (N : List Str) (scope : Scope) (C : Addr) (s : Shared) (H : Hp) : Cx where
  prog := X.prog
  w := X.w
  K := X.K
  mg := X.mg
  base := X.base
  A := X.A
  N := N
  s₀ := s
  H₀ := H
  env := compEnv scope C X.env
  outer := X.stack
  stack := X.stack
  ex := []
  calm := X.calm
  fn := fun _ => false
  pn := []
  xe := fun _ _ => False
/-- a comprehension's scope -/
structure CompScope (N : List Str) (sc : Scope) : Prop where
  kind : sc.kind = .function
  nd : N.Nodup
  nofree : ∀ y ∈ sc.names, y.2 ≠ .free
  nocell : ∀ y ∈ sc.names, y.2 ≠ .cell
  loc : ∀ y ∈ sc.names, y.2 = .local → sc.names.lookup y.1 = some .local
theorem comp_ok {X : Cx} {pins : List (Addr × Obj)} {σ : L2.St} {H : Hp} {s : Shared} {N : List Str} {scope : Scope} {C : Addr} (I : Inv X pins σ H s) (S : CompScope N scope) (hC : s.heap.objs.size ≤ C) : (compCx X N scope C s H).Ok where
  mod := I.ok.mod
  kind := S.kind
  glob := I.ok.glob
  blt := I.ok.blt
  above := hC
  inj := fun x y c h _ => by cases h
  has := fun x h => by
    rcases h with h | h
    · exact absurd rfl (S.nocell _ (PySem.mem_of_lookup (show scope.names.lookup x = some .cell from h)))
    · exact absurd rfl (S.nofree _ (PySem.mem_of_lookup (show scope.names.lookup x = some .free from h)))
  cab := fun x c h _ => by cases h
  hd := I.ok.hd
  frames := I.ok.frames
  stk := .inl rfl
  exf := fun b hb => nomatch hb
  bs := I.bs
  bsz := Nat.le_trans I.ok.bsz I.sz
  noex := fun _ _ _ hb => nomatch hb
  exfs := fun b hb => nomatch hb
  funs := I.stack
  frf := I.stkFree
/-- the tests of a clause -/
def PF (X : Cx) (ifs : List Expr) (t : TT) : Prop := ∀ (pins : List (Addr × Obj)) (s : Shared) (σ : L2.St) (H : Hp) (Q : Bool → Hp → Prop), Inv X pins σ H s → t σ H Q →
  wpAny (model X.prog X.w) X.A (forIn ifs true fun c r => if r = true then do let ok ← isTrue c X.env (eval c X.env); pure (ForInStep.yield ok) else pure (ForInStep.yield r)) (TP X pins σ Q) X.xe s
def tYes : TT := fun _ H Q => Q true H
theorem pf_nil {X : Cx} : PF X [] tYes := fun pins s σ H Q I h => wpAny_tests_nil ⟨H, I, h⟩
theorem pf_one {X : Cx} {c : Expr} {t : TT} (h : PT X c t) : PF X [c] t := fun pins s σ H Q I q => wpAny_tests_one (h pins s σ H Q I q)
def tComp (K : PySem.W.Frag) (n : Nat) (ti : TE) (tg : Addr → Shared → Hp → TG) (tt : Addr → Shared → Hp → TT) (te : Addr → Shared → Hp → TE) : TE := fun σ H Q => ti σ H fun x H1 => ∃ a xs, x = .ref a ∧ SqL K H1 a xs ∧ ∀ D, H1 D = none → ∃ W : Nat → L2.St → Hp → Prop, W 0 (List.replicate n none) (upd H1 D (.lst [])) ∧
  (∀ i σ' H', i ≤ xs.length → W i σ' H' → SqL K H' a xs) ∧
  (∀ C s0 H0 i x σ' H', xs[i]? = some x → W i σ' H' → tg C s0 H0 x σ' H' fun σ2 H2 => tt C s0 H0 σ2 H2 fun b H3 => if b = true then te C s0 H0 σ2 H3 fun y H4 => ∃ ys, H4 D = some (.lst ys) ∧ ys.length < sizeLine ∧ W (i + 1) σ2 (upd H4 D (.lst (ys ++ [y]))) else W (i + 1) σ2 H3) ∧
  ∀ σ' H', W xs.length σ' H' → Q (.ref D) H'
theorem pe_comp {X : Cx} {elt target iter : Expr} {ifs : List Expr} {scope : Scope} {pos : Pos} {N : List Str} {ti : TE} {te : Addr → Shared → Hp → TE} {tg : Addr → Shared → Hp → TG} {tt : Addr → Shared → Hp → TT} (hc : X.calm = true) (S : CompScope N scope) (hi : PE X iter ti)
    (hb : ∀ C s H, PG (compCx X N scope C s H) target (tg C s H) ∧ PF (compCx X N scope C s H) ifs (tt C s H) ∧ PE (compCx X N scope C s H) elt (te C s H)) (hs : ∀ x, foldedSetIterable iter X.env x = pure x := by intro _; rfl) :
    PE X (.ListComp elt [⟨target, iter, ifs, 0⟩] scope pos) (tComp X.K N.length ti tg tt te) := by
  intro pins s σ H Q I h
  refine wpAny_ListComp S.nofree S.kind S.loc (thn (hi pins s σ H _ I h) fun xv s1 ⟨x, H1, I1, r1, a, xs, e, hq, q⟩ => ?_) hs
  subst e
  cases (show xv = Value.ref a from r1)
  obtain ⟨its, rv, p, hz⟩ := I1.list hq
  refine wpAny_pyIter_list p.isList (wpAny_newObj_type (hd := by size_fits) (wpAny_newFunctionEnv S.nocell (by intro y hy; simp at hy) (fun h1 hns hsb => ?_) S.kind))
  dsimp only at hns hsb ⊢
  generalize hH1 : s1.heap.push { cls := .type "list_iterator", data := .fields #[.ref a, .int 0 0] } = G1 at hns hsb ⊢
  have hD : G1.objs.size = s1.heap.objs.size + 1 := by rw [← hH1, Heap.size_push]
  generalize hH2 : G1.push { cls := .type "list", dict := none, data := .seq ([] : List Value).toArray } = G2 at hns hsb ⊢
  have hC : G2.objs.size = s1.heap.objs.size + 2 := by rw [← hH2, Heap.size_push, hD]
  have old2 : ∀ b o, G2.get? b = some o → h1.get? b = some o := fun b o e => hsb.extBut b o (Nat.ne_of_lt (Heap.lt_size e)) (Heap.get?_push_of_some _ e)
  have old : ∀ b o, s1.heap.get? b = some o → h1.get? b = some o := fun b o e => old2 b o (hH2 ▸ Heap.get?_push_of_some _ (hH1 ▸ Heap.get?_push_of_some _ e))
  have hit : h1.IsListIter s1.heap.objs.size a 0 := ⟨_, old2 _ _ (hH2 ▸ Heap.get?_push_of_some _ (hH1 ▸ Heap.get?_push_size _ rfl)), rfl, rfl⟩
  have hacc : h1.get? G1.objs.size = some { cls := .type "list", dict := none, data := .seq ([] : List Value).toArray } := old2 _ _ (hH2 ▸ Heap.get?_push_size _ rfl)
  have nD : H1 G1.objs.size = none := I1.hok.fresh (by rw [hD]; exact Nat.le_succ _)
  have nIt : H1 s1.heap.objs.size = none := I1.hok.fresh (Nat.le_refl _)
  have nC : H1 G2.objs.size = none := I1.hok.fresh (by rw [hC]; exact Nat.le_add_right _ _)
  obtain ⟨W, w0, wl, ws, wd⟩ := q G1.objs.size nD
  have itD : s1.heap.objs.size ≠ G1.objs.size := by rw [hD]; exact Nat.ne_of_lt (Nat.lt_succ_self _)
  have CD : G2.objs.size ≠ G1.objs.size := by rw [hC, hD]; exact Nat.ne_of_gt (Nat.lt_succ_self _)
  have itC : s1.heap.objs.size ≠ G2.objs.size := by rw [hC]; exact Nat.ne_of_lt (Nat.lt_succ_of_lt (Nat.lt_succ_self _))
  have J0 : Inv (compCx X N scope G2.objs.size s1 H1) [] (List.replicate N.length none) (upd H1 G1.objs.size (.lst [])) { s1 with heap := h1, toks := s1.toks + ([] : List (Str × Value)).length } := by
    refine ⟨comp_ok I1 S (by rw [hC]; exact Nat.le_add_right _ _), rfl, I1.bare, Un.laid old (by rw [hD]; exact Nat.le_succ _) nD, ⟨_, hns, fun i x v e1 e2 _ => ?_⟩, fun x c e => ?_, ?_, fun x c e => ?_, (fun p hp => nomatch hp), I1.hok.laid (a := G1.objs.size) (o := .lst []) old (by rw [hD]; exact Nat.le_succ _) ⟨Nat.zero_le _, [], _, .nil, hacc⟩, ?_⟩
    · exfalso
      rw [List.getElem?_replicate] at e2
      split at e2 <;> cases e2
    · cases e
    · show upd H1 G1.objs.size _ G2.objs.size = none
      rw [upd_ne CD]; exact nC
    · cases e
    · exact List.length_replicate
  have T := turn_list (P := X.prog) (w := X.w) (K := X.K) (tg := target) a s1.heap.objs.size
  have fpk : ∀ {H' : Hp}, H' s1.heap.objs.size = none → ∀ b ∈ [s1.heap.objs.size], FpOk (compCx X N scope G2.objs.size s1 H1) [] H' b := fun hn b hb => by
    rw [List.mem_singleton.mp hb]
    exact ⟨hn, itC, fun z => (by obtain ⟨_, o, ho, _⟩ := I1.stack.mem z; exact absurd (Heap.lt_size ho) (Nat.lt_irrefl _)), .inr (Nat.le_refl _), fun x c e => (by cases e), (fun p hp => nomatch hp)⟩
  -- the loop
  have loop : ∀ s2 : Shared, Inv (compCx X N scope G2.objs.size s1 H1) [] (List.replicate N.length none) (upd H1 G1.objs.size (.lst [])) s2 → s2.heap.IsListIter s1.heap.objs.size a 0 →
      codeAny (model X.prog X.w) X.A (.compLoop (.ListComp elt [⟨target, iter, ifs, 0⟩] scope pos) 0 (.ref s1.heap.objs.size) (.ref G1.objs.size) (compEnv scope G2.objs.size X.env))
        (fun r s' => ∃ m, s'.heap.Ns G2.objs.size m ∧ ∀ h', Heap.SameBut G2.objs.size s'.heap h' →
          match r with | .ok _ => EP X pins σ Q (.ref G1.objs.size) { s' with heap := h' } | .error x => wpAny (model X.prog X.w) X.A (passOn "comprehension.variables-let-go" x (compEnv scope G2.objs.size X.env)) (EP X pins σ Q) X.xe { s' with heap := h' }) s2 := by
    intro s2 J2 st2
    refine compLoop_any (fun n s' => ∃ i σ' H', n = xs.length - i ∧ i ≤ xs.length ∧ Inv (compCx X N scope G2.objs.size s1 H1) [] σ' H' s' ∧ s'.heap.IsListIter s1.heap.objs.size a i ∧ H' s1.heap.objs.size = none ∧ W i σ' H') ?_ xs.length ⟨0, _, _, rfl, Nat.zero_le _, J2, st2, by rw [upd_ne itD]; exact nIt, w0⟩
    rintro n s3 ⟨i, σ3, H3, rfl, hil, J3, st3, fr3, w3⟩
    have hsq := wl i σ3 H3 hil w3
    by_cases hlt : i < xs.length
    · have hx : xs[i]? = some xs[i] := List.getElem?_eq_getElem hlt
      refine thn (T.item (compCx X N scope G2.objs.size s1 H1) rfl rfl rfl hc i [] s3 σ3 H3 _ J3 (fpk fr3) st3 ⟨xs, _, hsq, hx⟩) fun r s4 ⟨u, hr, h4⟩ => ?_
      subst hr
      refine thn h4 fun _ s5 ⟨x, H5, J5, r5, ⟨e5, y5⟩, st5, fr5⟩ => ?_
      subst e5
      have ex := y5 xs hsq
      have J5' := J5.pinned (fpk (fr5 _ (by simp))) (T.obj _ _ st5)
      obtain ⟨hg, ht, hel⟩ := hb G2.objs.size s1 H1
      have back : ∀ {σ7 : L2.St} {H7 : Hp} {s7 : Shared}, Inv (compCx X N scope G2.objs.size s1 H1) ([] ++ pinsAt [s1.heap.objs.size] s5.heap) σ7 H7 s7 → W (i + 1) σ7 H7 →
          ∃ m, m < xs.length - i ∧ ∃ i σ' H', m = xs.length - i ∧ i ≤ xs.length ∧ Inv (compCx X N scope G2.objs.size s1 H1) [] σ' H' s7 ∧ s7.heap.IsListIter s1.heap.objs.size a i ∧ H' s1.heap.objs.size = none ∧ W i σ' H' := fun {σ7 H7 s7} J7 w7 => by
        refine ⟨xs.length - (i + 1), by omega, i + 1, σ7, H7, rfl, hlt, J7.unpinned, T.keep _ _ _ st5 fun b hb o e => (J7.pin (b, o) (List.mem_append_right _ (List.mem_append_right _ (mem_pinsAt hb e)))).1, ?_, w7⟩
        obtain ⟨o, e, d⟩ := T.obj _ _ st5 _ (List.mem_singleton.mpr rfl)
        exact (J7.pin (_, o) (List.mem_append_right _ (List.mem_append_right _ (mem_pinsAt (List.mem_singleton.mpr rfl) e)))).2.1
      refine thn (hg _ s5 σ3 H5 x u _ J5' r5 (ws G2.objs.size s1 H1 i x σ3 H5 ex w3)) fun _ s6 ⟨σ6, H6, J6, q6⟩ => ?_
      refine thn (ht _ s6 σ6 H6 _ J6 q6) fun ok s7 ⟨H7, J7, q7⟩ => ?_
      cases ok with
      | false => exact back J7 q7
      | true =>
        refine thn (hel _ s7 σ6 H7 _ J7 q7) fun y s8 ⟨yv, H8, J8, ry, ys, hys, hyl, w8⟩ => ?_
        refine thn (mt_append (X := compCx X N scope G2.objs.size s1 H1) _ s8 σ6 H8 (.ref G1.objs.size) [yv] (.ref G1.objs.size) [y] (fun _ H9 => W (i + 1) σ6 H9) J8 rfl (.cons ry .nil) ⟨_, ys, yv, rfl, rfl, hys, hyl, w8⟩) fun z s9 ⟨_, H9, J9, _, w9⟩ => ?_
        exact back J9 w9
    · have hie : i = xs.length := by omega
      subst hie
      refine thn (T.done (compCx X N scope G2.objs.size s1 H1) rfl rfl rfl hc xs.length [] s3 σ3 H3 _ J3 (fpk fr3) st3 ⟨xs, hsq, Nat.le_refl _⟩) fun r s4 ⟨hr, J4⟩ => ?_
      subst hr
      obtain ⟨m, hm, _⟩ := J4.loc
      refine ⟨m, hm, fun h' sb => ?_⟩
      have neC : ∀ b o, s1.heap.get? b = some o → b ≠ G2.objs.size := fun b o e => Nat.ne_of_lt (Nat.lt_of_lt_of_le (Heap.lt_size e) (by rw [hC]; exact Nat.le_add_right _ _))
      have un := J4.base
      have trC : ∀ b v, H3 b = some v → b ≠ G2.objs.size := fun b v e z => by
        have := J4.free
        rw [z] at e
        rw [show H3 G2.objs.size = none from this] at e
        cases e
      refine ⟨.ref G1.objs.size, H3, I1.call' (s' := { s4 with heap := h' }) (ch := []) J4.os ⟨fun b o e n hb hx => (sb.2 b (neC b o e)).trans (un.keep b o e n hb hx), fun b o e n hb hx => ?_, un.free, fun b o e hx => ?_, un.tups, un.frzs, un.tbls⟩ (fun b v e => ?_) J4.bare (fun b z => nomatch z), rfl, wd σ3 H3 w3⟩
      · obtain ⟨sl, q⟩ := un.slot b o e n hb hx
        exact ⟨sl, (sb.2 b (neC b o e)).trans q⟩
      · obtain ⟨o', q⟩ := un.there b o e hx
        exact ⟨o', (sb.2 b (neC b o e)).trans q⟩
      · refine (J4.hok b v e).stay (fun c u hc q => (sb.2 c ?_).trans q) (fun _ q => q) fun _ _ q => q
        rcases hc with rfl | hc
        · exact trC _ _ e
        · exact trC _ _ hc
  exact codeAny_compStart_list (loop _ J0 hit) (wpAny_pyIter_listiter hit (loop _ J0 hit))
/-- any(xs), a list of truth values -/
theorem call_anyB {X : Cx} (hh : X.A.handled = none) : CallR X (.builtin "any") (fun xs H Q => ∃ a, ∃ bs : List Bool, xs = [.ref a] ∧ SqL X.K H a (bs.map V.bl) ∧ Q (.bl (bs.any id)) H) := by
  intro pins s σ H xs us Q I r h
  obtain ⟨a, bs, rfl, hq, k⟩ := h
  obtain ⟨u, rfl, ru⟩ := vals1 r
  cases (show u = Value.ref a from ru)
  obtain ⟨its, rv, p, hz⟩ := I.list hq
  have la : a < s.heap.objs.size := by obtain ⟨o, ho, _⟩ := p.isList; exact Heap.lt_size ho
  have hits : ∀ (i : Nat) (v : Value), its.toArray[i]? = some v → v = .bool (bs.getD i false) := fun i v e => by
    have e' : its[i]? = some v := by simpa using e
    obtain ⟨x, hx, rx⟩ : ∃ x, (bs.map V.bl)[i]? = some x ∧ RelV x v := by
      have hl := rv.length
      have hi : i < its.length := (List.getElem?_eq_some_iff.mp e').1
      obtain ⟨u, hu, ru⟩ := rv.get (i := i) (x := (bs.map V.bl)[i]'(by rw [hl]; exact hi)) (List.getElem?_eq_getElem _)
      rw [e'] at hu
      cases hu
      exact ⟨_, List.getElem?_eq_getElem _, ru⟩
    rw [List.getElem?_map] at hx
    cases q : bs[i]? with
    | none => rw [q] at hx; cases hx
    | some b =>
      rw [q] at hx
      cases hx
      rw [List.getD_eq_getElem?_getD, q]
      exact rx
  refine call_any_walk (wpAny_pyIter_list p.isList ⟨s.heap.objs.size, _, _, _, _, _, fun i => bs.getD i false, rfl, Walks.list (A := X.A.in1) hh s.heap.objs.size a (Nat.ne_of_lt la) its.toArray, ⟨⟨_, Heap.get?_push_size _ rfl, rfl, rfl⟩, p.isList.at fun o e => Heap.get?_push_of_some _ e⟩, ?_, fun h' tk hk => ?_⟩)
  · intro i v s' Q' E' e hQ'
    rw [hits i v e]
    exact wpAny_truthy_bool hQ'
  · have I2 : Inv X pins σ H { s with heap := s.heap.push { cls := .type "list_iterator", data := .fields #[.ref a, .int 0 0] } } := I.kept (t' := s.toks) fun b o e => Heap.get?_push_of_some _ e
    obtain ⟨f0, f1, f2, f3, f4, f5⟩ := I.fpOk (b := s.heap.objs.size) (Nat.le_refl _) (I.hok.fresh (Nat.le_refl _))
    have I3 := I2.turned (t' := tk) (it := s.heap.objs.size) (h' := h') (fun b o hb e => hk b o (by simpa using hb) e) f0 f1 f3 f4 f5
    have e : (List.range its.toArray.size).any (fun i => bs.getD i false) = bs.any id := by
      have hl : its.toArray.size = bs.length := by rw [List.size_toArray, ← rv.length, List.length_map]
      rw [hl]
      clear hits I2 I3 k hq rv hz
      rw [Bool.eq_iff_iff, List.any_eq_true, List.any_eq_true]
      constructor
      · rintro ⟨i, hi, hb⟩
        have hi := List.mem_range.mp hi
        rw [List.getD_eq_getElem?_getD, List.getElem?_eq_getElem hi] at hb
        exact ⟨_, List.getElem_mem hi, hb⟩
      · rintro ⟨b, hb, e⟩
        obtain ⟨i, hi, rfl⟩ := List.getElem_of_mem hb
        exact ⟨i, List.mem_range.mpr hi, by rw [List.getD_eq_getElem?_getD, List.getElem?_eq_getElem hi]; exact e⟩
    rw [e]
    exact ⟨.bl (bs.any id), H, I3, rfl, k⟩
theorem rd_yes {σ : L2.St} {H : Hp} {A B : Hp → Prop} (h : A H) : tYes σ H (fun b H3 => if b = true then A H3 else B H3) := by
  show (if true = true then A H else B H)
  rw [if_pos rfl]
  exact h
end NC
/-! ### zip of two lists; a comprehension over any iterator -/
namespace NC
open PySem PySem.Spec PyProof.Rows L2
/-- the two lists, as they stand at each turn: each turn makes a pair -/
def Itz (K : PySem.W.Frag) (l1 l2 : Addr) : It :=
  ⟨fun i H => ∃ xs ys x y, SqL K H l1 xs ∧ SqL K H l2 ys ∧ xs[i]? = some x ∧ ys[i]? = some y,
   fun i H v H' => ∃ p x y, v = .ref p ∧ H p = none ∧ H' = upd H p (.tup [x, y]) ∧ (∀ xs, SqL K H l1 xs → xs[i]? = some x) ∧ ∀ ys, SqL K H l2 ys → ys[i]? = some y,
   fun i H => ∃ xs ys, SqL K H l1 xs ∧ SqL K H l2 ys ∧ (xs.length ≤ i ∨ ys.length ≤ i)⟩
structure ZipOwn (z TI TO i1 i2 : Addr) : Prop where
  TIz : TI ≠ z
  TOz : TO ≠ z
  i1z : i1 ≠ z
  i2z : i2 ≠ z
  TITO : TI ≠ TO
  TIi1 : TI ≠ i1
  TIi2 : TI ≠ i2
  TOi1 : TO ≠ i1
  TOi2 : TO ≠ i2
  i12 : i1 ≠ i2
theorem list_apart {h : Heap} {l b : Addr} {xs : Array Value} {o : Obj} (p : h.IsList l xs) (e : h.get? b = some o) (n : o.cls ≠ .type "list") : l ≠ b := fun z => by
  obtain ⟨o', e', c, _⟩ := p
  rw [z, e] at e'
  cases e'
  exact n c
def ZipTn (z TI TO i1 i2 l1 l2 : Addr) (i : Nat) (h : Heap) : Prop := IsZip h z TI TO .none ∧ IsPair h TI (.ref i1) (.ref i2) ∧ (∃ a b, IsPair h TO a b) ∧ h.IsListIter i1 l1 i ∧ h.IsListIter i2 l2 i
theorem ZipTn.apart {z TI TO i1 i2 l1 l2 : Addr} {i : Nat} {h : Heap} {xs ys : Array Value} (D : ZipOwn z TI TO i1 i2) (t : ZipTn z TI TO i1 i2 l1 l2 i h) (p1 : h.IsList l1 xs) (p2 : h.IsList l2 ys) : ZipApart z TI TO i1 i2 l1 l2 := by
  obtain ⟨hz, hTI, ⟨a, b, hTO⟩, ⟨o1, e1, c1, _⟩, ⟨o2, e2, c2, _⟩⟩ := t
  have n1 : o1.cls ≠ .type "list" := by rw [c1]; simp
  have n2 : o2.cls ≠ .type "list" := by rw [c2]; simp
  exact ⟨D.TIz, D.TOz, D.i1z, D.i2z, D.TITO, D.TIi1, D.TIi2, D.TOi1, D.TOi2, D.i12, list_apart p1 hz (by simp), list_apart p1 hTO (by simp), list_apart p1 e1 n1, list_apart p1 e2 n2, list_apart p2 hz (by simp), list_apart p2 hTO (by simp), list_apart p2 e1 n1, list_apart p2 e2 n2⟩
section
variable {X : Cx} {pins : List (Addr × Obj)} {σ : L2.St} {H : Hp} {s : Shared} {h' : Heap}
/-- the iterator's own objects turn, and a new tuple is laid -/
theorem turned_new {t' : Nat} {ch : List Addr} {p : Addr} {xs : List V} (I : Inv X pins σ H s) (hf : ∀ b ∈ ch, FpOk X pins H b) (k : ∀ b o, b ∉ ch → s.heap.get? b = some o → h'.get? b = some o) (hp : s.heap.objs.size ≤ p) (new : ObjOk X.prog X.w (upd H p (.tup xs)) h' p (.tup xs)) :
    Inv X pins σ (upd H p (.tup xs)) { s with heap := h', toks := t' } := by
  have hn := I.hok.fresh hp
  have nch : ∀ b u, H b = some u → b ∉ ch := fun b u e z => by rw [(hf b z).1] at e; cases e
  refine I.step (g' := s.gens) (d' := s.drawn) (ch := ch) (fun b hb => ?_) (fun b o _ _ hc e _ => k b o hc e) (fun b o _ _ hc e _ => ⟨o.slots, k b o hc e⟩) (fun b o _ e n => ?_)
    (fun b o hc e => ⟨o, k b o hc e⟩) (fun b xs e => by rw [upd_ne (ne_of_none e hn)]; exact e) (fun b o u e => by rw [upd_ne (ne_of_none e hn)]; exact e) (fun b ps e => ⟨#[], by rw [upd_ne (ne_of_none e hn), e]; simp⟩) (fun m hm => ?_) (fun b u e => ?_) I.bare
  · obtain ⟨_, f1, f2, f3, f4, f5⟩ := hf b hb
    exact ⟨f3, f1, f4, f5⟩
  · rw [upd_ne fun z => by rw [z] at e; exact absurd (Nat.lt_of_lt_of_le (Heap.lt_size e) hp) (Nat.lt_irrefl _)]
    exact n
  · obtain ⟨o, es, ep, ho, r⟩ := hm
    exact ⟨o, es, ep, k _ o (fun z => (hf _ z).2.1 rfl) ho, r⟩
  · by_cases hb : b = p
    · subst hb
      rw [upd_same] at e
      cases e
      exact new
    · rw [upd_ne hb] at e
      refine (I.hok b u e).stay (fun c v hc q => k c v ?_ q) (fun c q => by rw [upd_ne (ne_of_none q hn)]; exact q) fun c xs q => by rw [upd_ne (ne_of_none q hn)]; exact q
      rcases hc with z | z
      · rw [z]; exact nch b u e
      · exact nch c _ z
theorem turned_all {t' : Nat} {ch : List Addr} (I : Inv X pins σ H s) (hf : ∀ b ∈ ch, FpOk X pins H b) (k : ∀ b o, b ∉ ch → s.heap.get? b = some o → h'.get? b = some o) : Inv X pins σ H { s with heap := h', toks := t' } := by
  have nch : ∀ b u, H b = some u → b ∉ ch := fun b u e z => by rw [(hf b z).1] at e; cases e
  refine I.step (g' := s.gens) (d' := s.drawn) (ch := ch) (fun b hb => ?_) (fun b o _ _ hc e _ => k b o hc e) (fun b o _ _ hc e _ => ⟨o.slots, k b o hc e⟩) (fun _ _ _ _ n => n)
    (fun b o hc e => ⟨o, k b o hc e⟩) (fun _ _ e => e) (fun _ _ _ e => e) (fun b ps e => ⟨#[], by rw [e]; simp⟩) (fun m hm => ?_) (fun b u e => ?_) I.bare
  · obtain ⟨_, f1, f2, f3, f4, f5⟩ := hf b hb
    exact ⟨f3, f1, f4, f5⟩
  · obtain ⟨o, es, ep, ho, r⟩ := hm
    exact ⟨o, es, ep, k _ o (fun z => (hf _ z).2.1 rfl) ho, r⟩
  · refine (I.hok b u e).stay (fun c v hc q => k c v ?_ q) (fun _ q => q) fun _ _ q => q
    rcases hc with z | z
    · rw [z]; exact nch b u e
    · exact nch c _ z
end
theorem turn_zip {P : Program} {w : World} {K : PySem.W.Frag} {elts : List Expr} {x1} {pos : Pos} {z TI TO i1 i2 : Addr} (l1 l2 : Addr) (D : ZipOwn z TI TO i1 i2) :
    Turn P w K (.Tuple elts x1 pos) (Itz K l1 l2) [z, TI, TO, i1, i2] z (ZipTn z TI TO i1 i2 l1 l2) where
  mem := by simp
  obj := fun i h st b hb => by
    obtain ⟨hz, hTI, ⟨a, c, hTO⟩, ⟨o1, e1, c1, d1⟩, ⟨o2, e2, c2, d2⟩⟩ := st
    simp only [List.mem_cons, List.not_mem_nil, or_false] at hb
    rcases hb with rfl | rfl | rfl | rfl | rfl
    · exact ⟨_, hz, fun v q => by have q' : Data.fields _ = Data.cell v := q; cases q'⟩
    · exact ⟨_, hTI, fun v q => by have q' : Data.seq _ _ = Data.cell v := q; cases q'⟩
    · exact ⟨_, hTO, fun v q => by have q' : Data.seq _ _ = Data.cell v := q; cases q'⟩
    · exact ⟨_, e1, fun v q => by rw [d1] at q; cases q⟩
    · exact ⟨_, e2, fun v q => by rw [d2] at q; cases q⟩
  keep := fun i h h' st k => by
    obtain ⟨hz, hTI, ⟨a, c, hTO⟩, h1, h2⟩ := st
    exact ⟨k z (by simp) _ hz, k TI (by simp) _ hTI, ⟨a, c, k TO (by simp) _ hTO⟩, h1.at fun o e => k i1 (by simp) o e, h2.at fun o e => k i2 (by simp) o e⟩
  item := by
    intro X hP hw hK hc i pins s σ H E I hf st hg
    subst hP hw hK
    obtain ⟨xs, ys, x, y, q1, q2, hx, hy⟩ := hg
    obtain ⟨its1, rv1, p1, hz1⟩ := I.list q1
    obtain ⟨its2, rv2, p2, hz2⟩ := I.list q2
    obtain ⟨u1, hu1, ru1⟩ := rv1.get hx
    obtain ⟨u2, hu2, ru2⟩ := rv2.get hy
    have DA := st.apart D p1.isList p2.isList
    obtain ⟨hz, hTI, ⟨a, b, hTO⟩, h1, h2⟩ := st
    refine wpAny_pyNext_zip_item DA hz hTI hTO h1 h2 p1.isList p2.isList (x := u1) (y := u2) (by simpa using hu1) (by simpa using hu2) fun h' a1 a2 a3 a4 a5 a6 a7 => ?_
    have lt : ∀ {c o}, s.heap.get? c = some o → s.heap.objs.size ≠ c := fun e => Nat.ne_of_gt (Heap.lt_size e)
    have ltz := lt hz
    refine ⟨_, rfl, wpAny_letOwnedTupleGo_zip a1 fun h'' hz' hs' => ?_⟩
    have k : ∀ b o, b ∉ [z, TI, TO, i1, i2] → s.heap.get? b = some o → h''.get? b = some o := fun b o hb e => by
      simp only [List.mem_cons, List.not_mem_nil, or_false, not_or] at hb
      exact hs'.extBut _ _ hb.1 (a7 b o hb.1 hb.2.2.1 hb.2.2.2.1 hb.2.2.2.2 e)
    have I2 : Inv X pins σ (upd H s.heap.objs.size (.tup [x, y])) { s with heap := h'', toks := s.toks } := turned_new I hf k (Nat.le_refl _) ⟨by show 2 ≤ sizeLine; exact small' (by decide), [u1, u2], .cons ru1 (.cons ru2 .nil), ⟨_, hs'.extBut _ _ ltz a5, rfl, _, rfl⟩⟩
    have hn := I.hok.fresh (Nat.le_refl _)
    refine ⟨.ref s.heap.objs.size, _, I2, rfl, ⟨_, x, y, rfl, hn, rfl, fun zs hz => by rw [I.list_inj hz q1]; exact hx, fun zs hz => by rw [I.list_inj hz q2]; exact hy⟩, ⟨hz', hs'.extBut _ _ D.TIz (a7 _ _ D.TIz D.TITO D.TIi1 D.TIi2 hTI), ⟨_, _, hs'.extBut _ _ D.TOz a2⟩, a3.extBut hs'.extBut D.i1z, a4.extBut hs'.extBut D.i2z⟩, fun b hb => ?_⟩
    rw [upd_ne ?_]
    · exact (hf b hb).1
    · obtain ⟨o1, e1, _⟩ := h1
      obtain ⟨o2, e2, _⟩ := h2
      simp only [List.mem_cons, List.not_mem_nil, or_false] at hb
      rcases hb with rfl | rfl | rfl | rfl | rfl
      · exact (lt hz).symm
      · exact (lt hTI).symm
      · exact (lt hTO).symm
      · exact (lt e1).symm
      · exact (lt e2).symm
  done := by
    intro X hP hw hK hc i pins s σ H E I hf st hg
    subst hP hw hK
    obtain ⟨xs, ys, q1, q2, hend⟩ := hg
    obtain ⟨its1, rv1, p1, hz1⟩ := I.list q1
    obtain ⟨its2, rv2, p2, hz2⟩ := I.list q2
    have DA := st.apart D p1.isList p2.isList
    obtain ⟨hz, hTI, ⟨a, b, hTO⟩, h1, h2⟩ := st
    have l1' := rv1.length
    have l2' := rv2.length
    refine wpAny_pyNext_zip_end (I.ok.hd hc) DA hz hTI hTO h1 h2 p1.isList p2.isList ?_ fun h' k => ⟨rfl, turned_all (t' := s.toks) I hf fun b o hb e => ?_⟩
    · rcases hend with h | h
      · exact .inl (by simp; omega)
      · exact .inr (by simp; omega)
    · simp only [List.mem_cons, List.not_mem_nil, or_false, not_or] at hb
      exact k b o hb.1 hb.2.2.1 hb.2.2.2.1 hb.2.2.2.2 e
  self := fun _ _ _ _ _ st h => wpAny_pyIter_zip st.1 h
section
variable {X : Cx}
end
/-- the context within a comprehension whose iterator's objects are at fp -/
def compCxI (X : Cx) (N : List Str) (scope : Scope) (C : Addr) (s : Shared) (H : Hp) (fp : List Addr) : Cx := { compCx X N scope C s H with ex := fp }
theorem comp_okI {X : Cx} {pins : List (Addr × Obj)} {σ : L2.St} {H : Hp} {s : Shared} {N : List Str} {scope : Scope} {C : Addr} {fp : List Addr} (I : Inv X pins σ H s) (S : CompScope N scope) (hC : s.heap.objs.size ≤ C) (hf : ∀ b ∈ fp, FpOk X pins H b) (hl : ∀ b ∈ fp, b < s.heap.objs.size) : (compCxI X N scope C s H fp).Ok := by
  have O := comp_ok I S hC
  refine ⟨O.mod, O.kind, O.glob, O.blt, O.above, O.inj, O.has, O.cab, O.hd, O.frames, O.stk, fun b hb => ⟨?_, fun x c e => (by cases e)⟩, O.bs, O.bsz, fun b o e hb => ?_, fun b hb => ?_, O.funs, O.frf⟩
  · show b ≠ C
    exact Nat.ne_of_lt (Nat.lt_of_lt_of_le (hl b hb) hC)
  · obtain ⟨_, _, _, f3, _⟩ := hf b hb
    rcases f3 with z | z
    · exact I.ok.noex b o e z
    · exact absurd (Nat.lt_of_lt_of_le (Heap.lt_size e) (Nat.le_trans I.ok.bsz z)) (Nat.lt_irrefl _)
  · intro z
    obtain ⟨_, f1, f2, _⟩ := hf b hb
    rcases List.mem_cons.mp (I.stkSub b z) with q | q
    · exact f1 q
    · exact f2 q
def tCompI (n : Nat) (wi : TI) (tg : Addr → Shared → Hp → List Addr → TG) (tt : Addr → Shared → Hp → List Addr → TT) (te : Addr → Shared → Hp → List Addr → TE) : TE := fun σ H Q => wi σ H fun J H1 => ∀ D, H1 D = none → ∃ W : Nat → Nat → L2.St → Hp → Prop, (∃ m, W 0 m (List.replicate n none) (upd H1 D (.lst []))) ∧
  ∀ i m σ' H', W i m σ' H' → (J.stop i H' ∧ Q (.ref D) H') ∨ (J.go i H' ∧ ∃ N : L2.St → Hp → Prop, (∀ σ' H', N σ' H' → ∃ m', m' < m ∧ W (i + 1) m' σ' H') ∧ ∀ C s0 H0 fp x H2, J.yld i H' x H2 →
    tg C s0 H0 fp x σ' H2 fun σ2 H2 => tt C s0 H0 fp σ2 H2 fun b H3 => if b = true then te C s0 H0 fp σ2 H3 fun y H4 => ∃ ys, H4 D = some (.lst ys) ∧ ys.length < sizeLine ∧ N σ2 (upd H4 D (.lst (ys ++ [y]))) else N σ2 H3)
end NC
/-! ### lambdas, made functions whose code stays tracked, larger bases, all tables of a text -/
namespace NC
open PySem PySem.Spec PyProof.Rows L2

def lamArgs (e : Expr) : Arguments := match e with
  | .Lambda a _ _ _ => a
  | _ => defArgs (.Pass ⟨0, 0, 0, 0⟩)
def lamBody (e : Expr) : Expr := match e with
  | .Lambda _ b _ _ => b
  | x => x
def lamScope (e : Expr) : Scope := match e with
  | .Lambda _ _ s _ => s
  | _ => defScope (.Pass ⟨0, 0, 0, 0⟩)
def lamPos (e : Expr) : Pos := match e with
  | .Lambda _ _ _ p => p
  | _ => ⟨0, 0, 0, 0⟩
/-- the j-th argument of the call that the i-th statement gives back -/
def retArg (s : Stmt) (i j : Nat) : Expr := match (defBody s).getD i (.Pass ⟨0, 0, 0, 0⟩) with
  | .Return (some (.Call f es _ _)) _ => es.getD j f
  | _ => .Name "" ⟨0, 0, 0, 0⟩
def FnObjL (f c : Addr) (qual : Str) (params : Arguments) (body : Expr) (scope : Scope) (clos : List (Str × Addr)) : HO := .ext fun h => ∃ pm ctv, h.get? f = some (PySem.W.kla_obj "<lambda>" qual params body scope clos pm c ctv)
theorem fnObjL_ok {P : Program} {w : World} {H : Hp} {h : Heap} {f c : Addr} {qual : Str} {params : Arguments} {body : Expr} {scope : Scope} {clos : List (Str × Addr)} {pm ctv : Value}
    (x : h.get? f = some (PySem.W.kla_obj "<lambda>" qual params body scope clos pm c ctv)) : ObjOk P w H h f (FnObjL f c qual params body scope clos) :=
  ⟨⟨pm, ctv, x⟩, ⟨_, x⟩, fun _ _ ⟨p, t, e⟩ k => ⟨p, t, k _ e⟩⟩
section
variable {X : Cx} {pins : List (Addr × Obj)} {σ : L2.St} {H : Hp} {s : Shared}
def tLam (P : Addr) (pos : Pos) (qual : Str) (params : Arguments) (body : Expr) (scope : Scope) (clos : List (Str × Addr)) : TE := fun _ H Q =>
  TabOk H P pos qual ∧ ∀ f c H', H f = none → SameX H H' → TabOk H' P pos qual → H' c = some (CodeX c qual) → H' f = some (FnObjL f c qual params body scope clos) →
    (∀ Q : Addr, Q ≠ P → ∀ ps, H Q = some (.tbl ps) → H' Q = some (.tbl ps)) → Q (.ref f) H'
theorem pe_lam {qual : Str} {params : Arguments} {body : Expr} {scope : Scope} {pos : Pos} {c0 P : Addr} {clos : List (Str × Addr)} (hcode : X.env.code = .ref c0) (hC : PySem.W.codeHdIn X.K c0 P = true) (BB : BltAt X.base X.mg)
    (hcl : closureFor scope X.env = pure clos) (hq : X.env.qual ++ "<lambda>" = qual) (hdef : defaultsOf params X.env = ([], []) := by rfl) :
    PE X (.Lambda params body scope pos) (tLam P pos qual params body scope clos) := by
  intro pins s σ H Q I h
  obtain ⟨ht, k⟩ := h
  refine PySem.W.kla_eval hdef ?_
  rw [hq]
  have hg : s.heap.Ns mainGlobals X.mg := I.mod.glob.keeps I.bk
  have CH : PySem.W.CodeHd s.heap c0 P := PySem.W.codeHd_of_K I.kIn hC
  obtain ⟨bm, ob, b1, b2, b3, b4, b5, b6⟩ := BB
  have trk : ∃ ps, H P = some (.tbl ps) := by
    rcases ht with t | ⟨c, t, _⟩
    · exact ⟨_, t⟩
    · exact ⟨_, t⟩
  have nP : ∀ b o, X.base.get? b = some o → b ≠ P := fun b o e z => by
    obtain ⟨ps, t⟩ := trk
    rw [z] at e
    rw [(I.bs P o e).2] at t
    cases t
  have hgP : mainGlobals ≠ P := by
    obtain ⟨o, es, ep, e, _⟩ := I.mod.glob
    exact nP _ _ e
  have hbG : bm ≠ mainGlobals := fun q => by
    obtain ⟨o, es, ep, e, hd, _⟩ := I.mod.glob
    rw [q, e] at b3
    cases b3
    rw [hd] at b6
    cases b6
  have hB : s.heap.BuiltinsAt X.mg P := ⟨bm, ob, b1, b2, hbG, nP _ _ b3, I.bk _ _ b3, b4, b5, b6⟩
  rcases ht with t | ⟨c, t, tc⟩
  · -- the first time
    have hP : s.heap.get? P = some (PySem.W.tabObj #[]) := tbl_at I t
    refine PySem.W.kla_makeFunction (mg := X.mg) hcl I.ok.glob hg hcode CH hP True.intro rfl hgP hB fun c' ctv h' tk hx' hge hlt hrec htb => ?_
    have szf : s.heap.objs.size ≤ h'.objs.size := Nat.le_trans hge (Nat.le_of_lt hlt)
    have oldP : ∀ b o, b ≠ P → s.heap.get? b = some o → (h'.push (PySem.W.kla_obj "<lambda>" qual params body scope clos ((X.mg "__name__").getD .none) c' ctv)).get? b = some o := fun b o n e => Heap.get?_push_of_some _ (hx' b o n e)
    have nc : ∀ b o, s.heap.get? b = some o → b ≠ c' := fun b o e => Nat.ne_of_lt (Nat.lt_of_lt_of_le (Heap.lt_size e) hge)
    have nf : ∀ b o, s.heap.get? b = some o → b ≠ h'.objs.size := fun b o e => Nat.ne_of_lt (Nat.lt_of_lt_of_le (Heap.lt_size e) szf)
    have tr : ∀ b u, H b = some u → ∃ o, s.heap.get? b = some o := fun b u e => objok_there (I.hok b u e)
    have hcf : c' ≠ h'.objs.size := Nat.ne_of_lt hlt
    have H'b : ∀ b o, b ≠ P → (∃ ob, s.heap.get? b = some ob) → H b = o → (upd (upd (upd H P (.tbl #[rawInt pos.line, rawInt pos.col, .ref c'])) c' (CodeX c' qual)) h'.objs.size (FnObjL h'.objs.size c' qual params body scope clos)) b = o := fun b o n ⟨ob, e⟩ q => by
      rw [upd_ne (nf b ob e), upd_ne (nc b ob e), upd_ne n, q]
    have nfree : ∀ b, H b = none → b ≠ P := fun b n z => by rw [z, t] at n; cases n
    have eP : (upd (upd (upd H P (.tbl #[rawInt pos.line, rawInt pos.col, .ref c'])) c' (CodeX c' qual)) h'.objs.size (FnObjL h'.objs.size c' qual params body scope clos)) P = some (.tbl #[rawInt pos.line, rawInt pos.col, .ref c']) := by
      rw [upd_ne (nf P _ hP), upd_ne (nc P _ hP), upd_same]
    have eC : (upd (upd (upd H P (.tbl #[rawInt pos.line, rawInt pos.col, .ref c'])) c' (CodeX c' qual)) h'.objs.size (FnObjL h'.objs.size c' qual params body scope clos)) c' = some (CodeX c' qual) := by
      rw [upd_ne hcf, upd_same]
    have I' : Inv X pins σ (upd (upd (upd H P (.tbl #[rawInt pos.line, rawInt pos.col, .ref c'])) c' (CodeX c' qual)) h'.objs.size (FnObjL h'.objs.size c' qual params body scope clos))
        { s with heap := h'.push (PySem.W.kla_obj "<lambda>" qual params body scope clos ((X.mg "__name__").getD .none) c' ctv), toks := tk } := by
      refine I.step (g' := s.gens) (d' := s.drawn) (ch := []) (fun _ z => nomatch z) (fun b o _ _ _ e n => oldP b o (nfree b n) e) (fun b o _ _ _ e n => ⟨o.slots, oldP b o (nfree b n) e⟩) (fun b o _ e n => H'b b none (nfree b n) ⟨o, e⟩ n)
        (fun b o _ e => ?_) (fun b xs e => H'b b _ (fun z => by rw [z, t] at e; cases e) (tr b _ e) e) (fun b ob u e => H'b b _ (fun z => by rw [z, t] at e; cases e) (tr b _ e) e) (fun b qs e => ?_) (fun m hm => ?_) (fun b u e => ?_) I.bare
      · by_cases hb : b = P
        · subst hb
          exact ⟨_, Heap.get?_push_of_some _ htb⟩
        · exact ⟨o, oldP b o hb e⟩
      · by_cases hb : b = P
        · subst hb
          rw [t] at e
          cases e
          exact ⟨#[rawInt pos.line, rawInt pos.col, .ref c'], by rw [eP]; simp⟩
        · exact ⟨#[], by rw [H'b b _ hb (tr b _ e) e]; simp⟩
      · obtain ⟨o, es, ep, e, r⟩ := hm
        exact ⟨o, es, ep, oldP _ o (nfree _ I.free) e, r⟩
      · by_cases h1 : b = h'.objs.size
        · subst h1
          rw [upd_same] at e
          cases e
          exact fnObjL_ok (Heap.get?_push_size _ rfl)
        · rw [upd_ne h1] at e
          by_cases h2 : b = c'
          · subst h2
            rw [upd_same] at e
            cases e
            exact codeX_ok (hrec.keeps fun b o q => Heap.get?_push_of_some _ q)
          · rw [upd_ne h2] at e
            by_cases h3 : b = P
            · subst h3
              rw [upd_same] at e
              cases e
              show (h'.push _).get? _ = some _
              exact Heap.get?_push_of_some _ htb
            · rw [upd_ne h3] at e
              refine (I.hok b u e).stay (fun d v hd q => oldP d v ?_ q) (fun d q => H'b d _ (fun z => by rw [z, t] at q; cases q) (tr d _ q) q) fun d xs q => H'b d _ (fun z => by rw [z, t] at q; cases q) (tr d _ q) q
              rcases hd with rfl | hd
              · exact h3
              · intro z; rw [z, t] at hd; cases hd
    refine ⟨.ref h'.objs.size, _, I', rfl, k h'.objs.size c' _ (I.hok.fresh szf) (fun b o n q => ?_) (.inr ⟨c', eP, eC⟩) eC upd_same fun Q hQ qs q => ?_⟩
    · exact H'b b _ (fun z => by rw [z, t] at q; cases q; exact n _ rfl) (tr b _ q) q
    · exact H'b Q _ hQ (tr Q _ q) q
  · -- its code is there
    have hP : s.heap.get? P = some (PySem.W.tabObj #[rawInt pos.line, rawInt pos.col, .ref c]) := tbl_at I t
    refine PySem.W.kla_makeFunctionHit (mg := X.mg) (cv := .ref c) hcl I.ok.glob hg hcode CH hP (by exact True.intro) (among_hit pos _) hB fun ctv h' tk hk hsz => ?_
    have hfr : H h'.objs.size = none := I.hok.fresh hsz
    have I' : Inv X pins σ (upd H h'.objs.size (FnObjL h'.objs.size c qual params body scope clos)) { s with heap := h'.push (PySem.W.kla_obj "<lambda>" qual params body scope clos ((X.mg "__name__").getD .none) c ctv), toks := tk } :=
      I.laid (fun b o e => Heap.get?_push_of_some _ (hk b o e)) hsz (fnObjL_ok (Heap.get?_push_size _ rfl))
    have sm : Same H (upd H h'.objs.size (FnObjL h'.objs.size c qual params body scope clos)) := same_new hfr
    exact ⟨.ref h'.objs.size, _, I', rfl, k h'.objs.size c _ hfr (.of sm) (.inr ⟨c, sm _ _ t, sm _ _ tc⟩) (sm _ _ tc) upd_same fun Q _ qs q => sm _ _ q⟩
end
theorem made_free {H H' : Hp} {P : Addr} {pos : Pos} {qual : Str} (sx : SameX H H') (tp : TabOk H' P pos qual) (oth : ∀ Q : Addr, Q ≠ P → ∀ ps, H Q = some (.tbl ps) → H' Q = some (.tbl ps)) {b : Addr} (n : H' b = none) : H b = none := by
  rcases sx.free n with e | ⟨ps, e⟩
  · exact e
  · by_cases hb : b = P
    · subst hb
      rcases tp with t | ⟨c, t, _⟩
      · rw [n] at t; cases t
      · rw [n] at t; cases t
    · have := oth b hb ps e
      rw [n] at this; cases this

/-! #### made functions whose code is tracked -/
section
variable {CX : CXT} {P : Program} {w : World} {K : PySem.W.Frag} {mg : Str → Option Value} {base : Heap} {k : Nat} {f c : Addr} {name qual : Str} {params : Arguments} {body : List Stmt} {bodyE : Expr} {scope : Scope} {clos : List (Str × Addr)} {doc pm ctv : Value} {ps fs : List Str} {fvs : List V} {sp : Sp}
theorem clo_inv {A : Around} {outer : List Env} {s : Shared} {H : Hp} {E : XK} {h₁ : Heap} {us : List Value} {vs : List V} {tk : Tok} (S : CloScope ps fs scope) (hc : CellsAt base clos fs fvs)
    (hclos : ∀ x c, clos.lookup x = some c → x ∈ fs) (inj : ∀ x y c, clos.lookup x = some c → clos.lookup y = some c → x = y) (hl : vs.length = ps.length) (hr : A.handled = none) (e0 : Env0 P w K mg base A outer s H) (r : Vals vs us)
    (hns : h₁.Ns s.heap.objs.size (fun x => (ps.zip us).reverse.lookup x)) (hk : ∀ b o, s.heap.get? b = some o → h₁.get? b = some o) :
    Inv (cxClo CX P w K mg base (ps ++ fs) qual scope f (.ref c) clos A outer s H E) [] ((vs ++ fvs).map some) H { s with heap := h₁, toks := tk } := by
  have ndP : ps.Nodup := (List.nodup_append.mp S.nd).1
  have noA : ∀ b : Addr, b ∉ ([] : List Addr) := fun b z => absurd z (by simp)
  have cellIn : ∀ x c, clos.lookup x = some c → ∃ u, base.IsCell c (some u) := fun x c e => by
    obtain ⟨i, hi, ex⟩ := List.getElem_of_mem (hclos x c e)
    obtain ⟨v, _, c', u, e1, e2, _⟩ := paired_get hc (show fs[i]? = some x by simp [hi, ex])
    rw [e] at e1
    cases e1
    exact ⟨u, e2⟩
  refine ⟨⟨e0.mod, S.kind, rfl, rfl, Nat.le_refl _, inj, fun y hy => ?_, fun y c h => (nomatch h), fun _ => hr, Around.frames_deeper e0.frames, .inr ⟨rfl, rfl⟩, fun b z => absurd z (noA b), e0.bs, e0.bsz, fun b _ _ => noA b, fun b z => absurd z (noA b), e0.funs, e0.frf⟩,
    rfl, e0.bare, Un.kept hk, ⟨_, hns, fun i y v h1 h2 h3 => ?_⟩, fun y c h => ?_, e0.hok.fresh (Nat.le_refl _), fun y c h => ?_, fun p hp => absurd (show p ∈ ([] : List (Addr × Obj)) from hp) (by simp), e0.hok.kept hk, ?_⟩
  · have hy' : scope.names.lookup y = some .cell ∨ scope.names.lookup y = some .free := hy
    rcases hy' with hy' | hy'
    · exact absurd rfl (S.nocell _ (PySem.mem_of_lookup hy'))
    · have hm := S.all _ (PySem.mem_of_lookup hy') rfl
      obtain ⟨i, hi, ex⟩ := List.getElem_of_mem hm
      obtain ⟨v, _, c', u, e1, _⟩ := paired_get hc (show fs[i]? = some y by simp [hi, ex])
      exact ⟨c', e1⟩
  · have h1 : (ps ++ fs)[i]? = some y := h1
    by_cases hi : i < ps.length
    · rw [List.getElem?_append_left hi] at h1
      rw [List.getElem?_map, List.getElem?_append_left (by omega)] at h2
      obtain ⟨v', ev, e2⟩ : ∃ v', vs[i]? = some v' ∧ some v' = some v := by
        cases q : vs[i]? with
        | none => rw [q] at h2; cases h2
        | some v' => rw [q] at h2; exact ⟨v', rfl, Option.some.inj h2⟩
      cases e2
      obtain ⟨u, eu, ru⟩ := r.get ev
      exact ⟨u, ru, .inl ⟨S.par y (List.mem_of_getElem? h1), zip_rev_get ndP h1 eu⟩⟩
    · rw [List.getElem?_append_right (by omega)] at h1
      rw [List.getElem?_map, List.getElem?_append_right (by omega)] at h2
      obtain ⟨v', ev, c', u, e1, e2, e3⟩ := paired_get hc h1
      rw [hl, ev] at h2
      cases (Option.some.inj h2)
      exact ⟨u, e3, .inr ⟨.inr (S.fre y (List.mem_of_getElem? h1)), c', e1, e2.keeps fun b o e => hk b o (e0.bs b o e).1⟩⟩
  · obtain ⟨u, o, e, d⟩ := cellIn y c h
    exact ⟨some u, o, hk _ _ (e0.bs _ _ e).1, d⟩
  · obtain ⟨u, o, e, d⟩ := cellIn y c h
    exact (e0.bs _ _ e).2
  · show ((vs ++ fvs).map some).length = (ps ++ fs).length
    rw [List.length_map, List.length_append, List.length_append, hl, Paired.length hc]
theorem fn_cloT (ho : base.get? f = some (fnObjX name qual params body scope clos doc pm c ctv)) (S : CloScope ps fs scope) (hc : CellsAt base clos fs fvs)
    (hclos : ∀ x c, clos.lookup x = some c → x ∈ fs) (inj : ∀ x y c, clos.lookup x = some c → clos.lookup y = some c → x = y)
    (len : ∀ vs H Q E, sp vs H Q E → vs.length = ps.length) (hcd : ∀ vs H Q E, sp vs H Q E → H c = some (CodeX c qual))
    (hbody : ∀ (A : Around) (outer : List Env) (s : Shared) (H : Hp) (vs : List V) (Q : VK) (E : XK), Room k (A.deeper (PySem.W.envX qual scope s.heap.objs.size f (.ref c) clos)) → sp vs H Q E →
      ∃ t, PSs (cxClo CX P w K mg base (ps ++ fs) qual scope f (.ref c) clos A outer s H E) body t ∧ t { nx := fun _ H' => Q .non H', rt := Q } ((vs ++ fvs).map some) H) :
    FnOk P w K mg base CX (k + 1) f (PySem.W.fnX name qual params body scope clos .none .none doc pm none (.ref c) ctv) ps sp := by
  refine ⟨len, fun A outer s H args us vs Q E hr e0 hb r hsp => ?_⟩
  have hl := len _ _ _ _ hsp
  have lim : s.heap.NoLimit := e0.mod.nolimit.keeps fun b o e => (e0.bs b o e).1
  have hcr : s.heap.CodeRec (.ref c) qual := (e0.hok c _ (hcd _ _ _ _ hsp)).1
  refine PySem.codeAny_call_def (fd := PySem.W.fnX name qual params body scope clos .none .none doc pm none (.ref c) ctv) (body := body) (binds := ps.zip us) hr.depth (e0.bs _ _ ho).1 rfl lim hcr rfl hb S.nocell
    (fun y hy => S.par y.1 (List.of_mem_zip hy).1) (fun h₁ hns hk => ?_) S.co S.gen S.kind
  obtain ⟨t, ht, hq⟩ := hbody A outer s H vs Q E (hr.deeper _) hsp
  have I : Inv (cxClo CX P w K mg base (ps ++ fs) qual scope f (.ref c) clos A outer s H E) [] ((vs ++ fvs).map some) H { s with heap := h₁, toks := s.toks + (ps.zip us).length } := clo_inv S hc hclos inj hl hr.hd e0 r hns hk
  refine wpAny_mono (ht [] _ _ H _ I hq) (fun fl s' hs => ?_) fun e s' hs => hs
  have fin : ∀ {σ' : L2.St} {H' : Hp} {v : V} {u : Value}, Inv (cxClo CX P w K mg base (ps ++ fs) qual scope f (.ref c) clos A outer s H E) [] σ' H' s' → RelV v u → Q v H' → CE outer P w H s Q u s' :=
    fun {σ' H' v u} J rv q => ⟨v, H', J.os, J.bare, J.base, J.hok, rv, q⟩
  cases fl with
  | ret u =>
    obtain ⟨v, σ', H', J, rv, q⟩ := hs
    exact fin J rv q
  | next =>
    obtain ⟨σ', H', J, q⟩ := hs
    exact fin (v := V.non) (u := Value.none) J rfl q
  | brk =>
    obtain ⟨_, _, _, q⟩ := hs
    exact False.elim q
  | cont =>
    obtain ⟨_, _, _, q⟩ := hs
    exact False.elim q
theorem fn_lamT (ho : base.get? f = some (PySem.W.kla_obj "<lambda>" qual params bodyE scope clos pm c ctv)) (S : CloScope ps fs scope) (hc : CellsAt base clos fs fvs)
    (hclos : ∀ x c, clos.lookup x = some c → x ∈ fs) (inj : ∀ x y c, clos.lookup x = some c → clos.lookup y = some c → x = y)
    (len : ∀ vs H Q E, sp vs H Q E → vs.length = ps.length) (hcd : ∀ vs H Q E, sp vs H Q E → H c = some (CodeX c qual))
    (hbody : ∀ (A : Around) (outer : List Env) (s : Shared) (H : Hp) (vs : List V) (Q : VK) (E : XK), Room k (A.deeper (PySem.W.envX qual scope s.heap.objs.size f (.ref c) clos)) → sp vs H Q E →
      ∃ t, PE (cxClo CX P w K mg base (ps ++ fs) qual scope f (.ref c) clos A outer s H E) bodyE t ∧ t ((vs ++ fvs).map some) H Q) :
    FnOk P w K mg base CX (k + 1) f (PySem.W.kla_fn "<lambda>" qual params bodyE scope clos pm (.ref c) ctv) ps sp := by
  refine ⟨len, fun A outer s H args us vs Q E hr e0 hb r hsp => ?_⟩
  have hl := len _ _ _ _ hsp
  have lim : s.heap.NoLimit := e0.mod.nolimit.keeps fun b o e => (e0.bs b o e).1
  have hcr : s.heap.CodeRec (.ref c) qual := (e0.hok c _ (hcd _ _ _ _ hsp)).1
  refine PySem.W.kla_callFunE hr.depth (e0.bs _ _ ho).1 rfl S.co S.gen rfl hcr (hb _ _ _ _ ?_)
  refine wpAny_newFunctionEnv S.nocell (fun y hy => S.par y.1 (List.of_mem_zip hy).1) (fun h₁ hns hsb => ⟨lim.fresh _ hsb, ?_⟩) S.kind
  have hk : ∀ b o, s.heap.get? b = some o → h₁.get? b = some o := fun b o e => hsb.extBut b o (Nat.ne_of_lt (Heap.lt_size e)) (Heap.get?_push_of_some _ e)
  obtain ⟨t, ht, hq⟩ := hbody A outer s H vs Q E (hr.deeper _) hsp
  have I : Inv (cxClo CX P w K mg base (ps ++ fs) qual scope f (.ref c) clos A outer s H E) [] ((vs ++ fvs).map some) H { s with heap := h₁, toks := s.toks + (ps.zip us).length } := clo_inv S hc hclos inj hl hr.hd e0 r hns hk
  show codeAny _ _ (.expr bodyE (PySem.W.envX qual scope s.heap.objs.size f (.ref c) clos)) _ _
  refine PySem.W.kla_codeExpr (wpAny_mono (ht [] _ _ H _ I hq) (fun u s' hs => ?_) fun e s' hs => hs)
  obtain ⟨v, H', J, rv, q⟩ := hs
  exact ⟨v, H', J.os, J.bare, J.base, J.hok, rv, q⟩
end

/-! #### a larger base -/
structure Larger (K : PySem.W.Frag) (mg : Str → Option Value) (base base' : Heap) : Prop where
  get : ∀ b o, base.get? b = some o → base'.get? b = some o
  sz : base.objs.size ≤ base'.objs.size
  mod : Mod K mg base
theorem FV.larger {P : Program} {w : World} {K : PySem.W.Frag} {mg : Str → Option Value} {base base' : Heap} {CX : CXT} {k : Nat} {f : Addr} {ps : List Str} {sp : Sp} (F : FV P w K mg base CX k f ps sp) (L : Larger K mg base base') : FV P w K mg base' CX k f ps sp := by
  obtain ⟨fd, oc, od, sl, F, ho, hb⟩ := F
  refine ⟨fd, oc, od, sl, ⟨F.len, fun A outer s H args us vs Q E hr e0 => F.run A outer s H args us vs Q E hr ⟨e0.frames, L.mod, fun b o e => e0.bs b o (L.get b o e), Nat.le_trans L.sz e0.bsz, ?_, e0.frf, e0.hok, e0.bare⟩⟩, L.get _ _ ho, hb⟩
  have all : ∀ l : List Env, s.heap.FunFrames base' l → s.heap.FunFrames base l := by
    intro l
    induction l with
    | nil => intro _; trivial
    | cons env r ih =>
      intro hl
      obtain ⟨hk, ⟨L', o, hf, hn, ho, hd⟩, hr⟩ := hl
      refine ⟨hk, ⟨L', o, hf, ?_, ho, hd⟩, ih hr⟩
      cases q : base.get? L' with
      | none => rfl
      | some u => rw [L.get _ _ q] at hn; cases hn
  exact all outer e0.funs
section
variable {X : Cx} {CX : CXT} {k : Nat} {ps : List Str} {E : XK} {x : Str} {p pos : Pos} {e : Expr} {es : List Expr} {t : TA}
/-- change(..), change a name that holds a made function, its parameters' names whatever they are -/
inductive TFvEI (X : Cx) (CX : CXT) (k : Nat) (E : XK) (i : Nat) (t : TA) (σ : L2.St) (H : Hp) (Q : VK) : Prop where
  | mk (f : _) (ps : _) (sp : _) (c1 : σ[i]? = some (some (.ref f))) (c2 : FV X.prog X.w X.K X.mg X.base CX k f ps sp) (c3 : t σ H fun vs H1 => sp vs H1 Q E)
def tFvE (X : Cx) (CX : CXT) (k : Nat) (E : XK) (i : Nat) (t : TA) : TE := fun σ H Q => TFvEI X CX k E i t σ H Q
theorem pe_fvE (i : Nat) (hr : Room k X.A) (hx : Passes CX X E) (ha : PA X (e :: es) t) (hN : X.N[i]? = some x := by rfl) (hv : Vis X.env.scope x := by first | exact Or.inl rfl | exact Or.inr (Or.inl rfl) | exact Or.inr (Or.inr rfl))
    (h : (e :: es).all plainE = true := by rfl) (hd : (x == ("__debug__" : Str)) = false := by decide) (hcd : (x == ("__classdict__" : Str)) = false := by decide) : PE X (.Call (.Name x p) (e :: es) [] pos) (tFvE X CX k E i t) := by
  intro pins s σ H Q I hw
  obtain ⟨f, ps, sp, hi, hF, hw⟩ := hw
  exact pe_fv (ps := ps) i hr hx ha hN hv h hd hcd pins s σ H Q I ⟨f, sp, hi, hF, hw⟩
/-- what may go into the larger base: made functions, or cells of this frame's own -/
def Goes2 (X : Cx) (H : Hp) (b : Addr) : Prop := (∃ φ, H b = some (.ext φ) ∧ ∀ h, φ h → ∃ o fd, h.get? b = some o ∧ o.data = .func fd) ∨ ∃ x, X.env.cells.lookup x = some b ∧ X.fn x = true
theorem Goes2.goes {H : Hp} {b : Addr} (g : Goes2 X H b) : Goes X H b := by
  rcases g with ⟨φ, e, _⟩ | g
  · exact .inl ⟨φ, e⟩
  · exact .inr g
theorem goes_fn {H : Hp} {f c : Addr} {name qual : Str} {params : Arguments} {body : List Stmt} {scope : Scope} {clos : List (Str × Addr)} (h : H f = some (FnObj f c name qual params body scope clos)) : Goes2 X H f :=
  .inl ⟨_, h, fun _ ⟨_, _, _, e⟩ => ⟨_, _, e, rfl⟩⟩
theorem goes_lam {H : Hp} {f c : Addr} {qual : Str} {params : Arguments} {body : Expr} {scope : Scope} {clos : List (Str × Addr)} (h : H f = some (FnObjL f c qual params body scope clos)) : Goes2 X H f :=
  .inl ⟨_, h, fun _ ⟨_, _, e⟩ => ⟨_, _, e, rfl⟩⟩
/-- what is known of the larger base -/
structure Lg (X : Cx) (σ : L2.St) (H : Hp) (L : List Addr) (base' : Heap) : Prop where
  lg : Larger X.K X.mg X.base base'
  ext : ∀ b ∈ L, ∀ φ, H b = some (.ext φ) → φ base'
  cell : ∀ (i : Nat) (y : Str) (v : V) (c : Addr), X.N[i]? = some y → σ[i]? = some (some v) → X.env.scope.names.lookup y = some .cell → X.env.cells.lookup y = some c → c ∈ L → ∃ u, base'.IsCell c (some u) ∧ RelV v u
  only : ∀ b ∈ L, ∀ o, H b = some o → ∃ φ, o = .ext φ
  nocode : ∀ b ∈ L, ∀ q, H b ≠ some (CodeX b q)
inductive TExI (X : Cx) (sp : Heap → Sp) (E : XK) (σ : L2.St) (vs : List V) (H1 : Hp) (Q : VK) : Prop where
  | mk (L : _) (c1 : (∀ b ∈ L, Goes2 X H1 b)) (c2 : ∀ base', Lg X σ H1 L base' → sp base' vs (delH H1 L) (fun v H' => (∀ b ∈ L, H' b = none) → Q v (addH H' H1 L)) E)
def tEx (X : Cx) (sp : Heap → Sp) (E : XK) (t : TA) : TE := fun σ H Q => t σ H fun vs H1 => TExI X sp E σ vs H1 Q
theorem pe_ex {sp : Heap → Sp} (G : GB X.prog X.w X.K X.mg X.base CX k x ps sp) (hr : Room k X.A) (hg : Gl X x) (hx : ∀ (L : List Addr) (pins : List (Addr × Obj)) (σ : L2.St) (H : Hp) (s : Shared) (e : Value) (s' : Shared), Inv X pins σ H s → CX X.stack (delH H L) s E e s' → X.xe e s')
    (ha : PA X (e :: es) t) (h : (e :: es).all plainE = true := by rfl) (hdb : (x == ("__debug__" : Str)) = false := by decide) : PE X (.Call (.Name x p) (e :: es) [] pos) (tEx X sp E t) := by
  intro pins s σ H Q I hw
  rw [List.all_cons, Bool.and_eq_true] at h
  obtain ⟨f, fd0, F0, hm, hk, hb0⟩ := G X.base fun _ _ e => e
  refine wpAny_Call_Name_kw (ld_glob I hg hm ?_ hdb)
  refine PySem.W.callWith_K (h₀ := X.base) I.ok.mod.kin hk (thn (ha pos pins s σ H _ I hw) fun us s1 ⟨vs, H1, I1, r, q⟩ => ⟨I1.kIn, ?_⟩) (star_plain h.1) (star_any h.2)
  obtain ⟨L, g2, q⟩ := q
  have g : ∀ b ∈ L, Goes X H1 b := fun b hb => (g2 b hb).goes
  have kb : ∀ b o, X.base.get? b = some o → (extB s1.heap X.base L).get? b = some o := fun b o e => extB_get (I1.bk b o e) (by unfold keepL; rw [e]; rfl)
  have inL : ∀ b o, b ∈ L → s1.heap.get? b = some o → (extB s1.heap X.base L).get? b = some o := fun b o hb e => extB_get e (by unfold keepL; rw [show L.contains b = true by simpa using hb, Bool.or_true])
  obtain ⟨f', fd, F, hm', hk', hb⟩ := G _ kb
  rw [hm] at hm'
  cases hm'
  have hs := q (extB s1.heap X.base L) ⟨⟨kb, by rw [show (extB s1.heap X.base L).objs.size = s1.heap.objs.size from PySem.W.hideAll_size _ _]; exact Nat.le_trans I1.ok.bsz I1.sz, I1.ok.mod⟩, fun b hb φ e => by
    obtain ⟨p, ⟨o, eo⟩, st⟩ := I1.hok b _ e
    exact st _ _ p fun o' q' => inL b o' hb q', fun i y v c h1 h2 h3 h4 hc => by
    obtain ⟨m, hn, hl⟩ := I1.loc
    obtain ⟨u, ru, lk⟩ := hl i y v h1 h2 (.inr (.inl h3))
    rcases lk with ⟨z, _⟩ | ⟨_, c', e1, o, e2, e3⟩
    · have z' : X.env.scope.names.lookup y = some .local := z
      rw [h3] at z'; cases z'
    · rw [h4] at e1
      cases e1
      exact ⟨u, ⟨o, inL c o hc e2, e3⟩, ru⟩, fun b hb o e => by
    cases o with
    | ext φ => exact ⟨φ, rfl⟩
    | _ => exact absurd hb (Goes.notup g I1 e fun _ z => by cases z), fun b hb q e => by
    rcases g2 b hb with ⟨φ, e', h'⟩ | ⟨y, e', _⟩
    · rw [e] at e'
      have hφ : φ = fun h => h.CodeRec (.ref b) q := (HO.ext.inj (Option.some.inj e')).symm
      obtain ⟨p, _, _⟩ := I1.hok b _ e
      have p : s1.heap.CodeRec (.ref b) q := p
      obtain ⟨o, fd, e1, e2⟩ := h' s1.heap (by rw [hφ]; exact p)
      obtain ⟨c, o', vs, t, a1, a2, a3, a4⟩ := p
      cases a1
      rw [e1] at a2
      cases a2
      rw [e2] at a3
      cases a3
    · rw [I1.freeC y b e'] at e; cases e⟩
  have hl : us.length = ps.length := by rw [← r.length]; exact F.len _ _ _ _ hs
  have bnd := hb s1 us I1.kIn (by rw [List.append_nil]; exact hl)
  rw [List.append_nil] at bnd
  refine wpAny_call (codeAny_mono (F.run X.A X.stack s1 (delH H1 L) ⟨us, []⟩ us vs _ E hr (env0_ext I1 g) bnd r hs) fun r' s' hq => ?_)
  cases r' with
  | error e => exact hx L pins σ H1 s1 e s' I1 hq
  | ok fl =>
    cases fl with
    | ret u => exact after_ext I1 g hq
    | next => exact False.elim hq
    | brk => exact False.elim hq
    | cont => exact False.elim hq
end

theorem tups_del {H : Hp} {L : List Addr} (h : ∀ b ∈ L, ∀ o, H b = some o → ∃ φ, o = .ext φ) : Tups H (delH H L) := fun b xs e => by
  rw [delH_ne fun z => by obtain ⟨φ, q⟩ := h b z _ e; cases q]
  exact e
/-- what was the same over the larger base is the same -/
theorem same_add {H H' : Hp} {L : List Addr} (s : Same (delH H L) H') : Same H (addH H' H L) := fun b o e => by
  by_cases hb : b ∈ L
  · rw [addH_in hb]; exact e
  · rw [addH_ne hb]; exact s b o (by rw [delH_ne hb]; exact e)
theorem tups_add {H H' : Hp} {L : List Addr} (g : ∀ b ∈ L, H' b = none) : Tups H' (addH H' H L) := fun b xs e => by
  rw [addH_ne fun z => by rw [g b z] at e; cases e]
  exact e

/-! #### all tables of a text -/
abbrev Tabs := List (Addr × Pos × Str)
def TO (L : Tabs) (H : Hp) : Prop := ∀ x ∈ L, TabOk H x.1 x.2.1 x.2.2
/-- no two tables are at one place -/
def TDis (L : Tabs) : Prop := ∀ x ∈ L, ∀ y ∈ L, x.1 = y.1 → x = y
theorem tdis_of {L : Tabs} (h : (L.map (·.1)).Nodup) : TDis L := by
  induction L with
  | nil => intro x hx; cases hx
  | cons a r ih =>
    rw [List.map_cons, List.nodup_cons] at h
    intro x hx y hy e
    rcases List.mem_cons.mp hx with h1 | h1
    · rcases List.mem_cons.mp hy with h2 | h2
      · rw [h1, h2]
      · exact absurd (List.mem_map.mpr ⟨y, h2, by rw [← e, h1]⟩) h.1
    · rcases List.mem_cons.mp hy with h2 | h2
      · exact absurd (List.mem_map.mpr ⟨x, h1, by rw [e, h2]⟩) h.1
      · exact ih h.2 x h1 y h2 e
/-- all but lists and tables stays -/
def NLX (H H' : Hp) : Prop := ∀ b o, (∀ xs, o ≠ .lst xs) → (∀ ps, o ≠ .tbl ps) → H b = some o → H' b = some o
/-- tables but those of L are the same -/
def OthT (L : List Addr) (H H' : Hp) : Prop := ∀ Q : Addr, Q ∉ L → ∀ ps, H Q = some (.tbl ps) → H' Q = some (.tbl ps)
theorem OthT.of_same {L : List Addr} {H H' : Hp} (s : Same H H') : OthT L H H' := fun _ _ _ e => s _ _ e
theorem OthT.trans {L : List Addr} {H H1 H2 : Hp} (a : OthT L H H1) (b : OthT L H1 H2) : OthT L H H2 := fun Q n ps e => b Q n ps (a Q n ps e)
theorem OthT.of_oth {L : List Addr} {H H' : Hp} {P : Addr} (o : ∀ Q : Addr, Q ≠ P → ∀ ps, H Q = some (.tbl ps) → H' Q = some (.tbl ps)) (m : P ∈ L) : OthT L H H' := fun Q n ps e => o Q (fun z => n (by rw [z]; exact m)) ps e
structure ST (L : Tabs) (H H' : Hp) : Prop where
  sx : SameX H H'
  to : TO L H'
section
variable {L : Tabs} {H H1 H2 H' : Hp} {D : List Addr}
theorem TO.same (t : TO L H) (s : Same H H') : TO L H' := fun x hx => (t x hx).same s
theorem TO.nl (t : TO L H) (s : NL H H') : TO L H' := fun x hx => (t x hx).nl s
theorem TO.made {P : Addr} {pos : Pos} {q : Str} (t : TO L H) (dis : TDis L) (m : (P, pos, q) ∈ L) (sx : SameX H H') (tp : TabOk H' P pos q) (oth : ∀ Q : Addr, Q ≠ P → ∀ ps, H Q = some (.tbl ps) → H' Q = some (.tbl ps)) : TO L H' := fun x hx => by
  by_cases hP : x.1 = P
  · have e := dis x hx (P, pos, q) m hP
    rw [e]
    exact tp
  · rcases t x hx with a | ⟨c, a, b⟩
    · exact .inl (oth _ hP _ a)
    · exact .inr ⟨c, oth _ hP _ a, sx _ _ (fun _ z => by cases z) b⟩
theorem TO.del (t : TO L H) (only : ∀ b ∈ D, ∀ o, H b = some o → ∃ φ, o = .ext φ) (nocode : ∀ b ∈ D, ∀ q, H b ≠ some (CodeX b q)) : TO L (delH H D) := fun x hx => by
  have nt : ∀ ps, H x.1 = some (.tbl ps) → x.1 ∉ D := fun ps e z => by obtain ⟨φ, q⟩ := only _ z _ e; cases q
  rcases t x hx with a | ⟨c, a, b⟩
  · exact .inl (by rw [delH_ne (nt _ a)]; exact a)
  · exact .inr ⟨c, by rw [delH_ne (nt _ a)]; exact a, by rw [delH_ne fun z => nocode c z _ b]; exact b⟩
theorem ST.refl (t : TO L H) : ST L H H := ⟨.refl _, t⟩
theorem ST.trans (a : ST L H H1) (b : ST L H1 H2) : ST L H H2 := ⟨a.sx.trans b.sx, b.to⟩
theorem ST.of_same (t : TO L H) (s : Same H H') : ST L H H' := ⟨.of s, t.same s⟩
theorem ST.same (a : ST L H H1) (s : Same H1 H2) : ST L H H2 := a.trans (.of_same a.to s)
theorem ST.tups (a : ST L H H') : Tups H H' := a.sx.tups
theorem NLX.refl (H : Hp) : NLX H H := fun _ _ _ _ h => h
theorem NLX.trans (a : NLX H H1) (b : NLX H1 H2) : NLX H H2 := fun x o n m h => b x o n m (a x o n m h)
theorem NLX.of_same (s : Same H H') : NLX H H' := fun b o _ _ h => s b o h
end
end NC
namespace NC
open PySem PySem.Spec PyProof.Rows L2
/-- all but A and tables stays -/
def KA (A : List Addr) (H H' : Hp) : Prop := ∀ b o, b ∉ A → (∀ ps, o ≠ .tbl ps) → H b = some o → H' b = some o
section
variable {A D : List Addr} {L : Tabs} {H H1 H2 H' : Hp} {p : Addr}
theorem KA.refl (A : List Addr) (H : Hp) : KA A H H := fun _ _ _ _ h => h
theorem KA.trans (a : KA A H H1) (b : KA A H1 H2) : KA A H H2 := fun x o n m h => b x o n m (a x o n m h)
theorem KA.of_same (s : Same H H') : KA A H H' := fun b o _ _ h => s b o h
theorem KA.sx (a : KA [] H H') : SameX H H' := fun b o m h => a b o (by simp) m h
theorem KA.keep (a : KA A H H1) (k : Keep [p] H1 H2) (n : H p = none) : KA A H H2 := fun b o nb m h => k b o (fun z => by rw [List.mem_singleton.mp z, n] at h; cases h) (a b o nb m h)
/-- own ones are dicts -/
def OwnD (A : List Addr) (H : Hp) : Prop := ∀ b ∈ A, ∃ kvs, H b = some (.dK kvs)
theorem KA.lst (a : KA A H H') (d : OwnD A H) {b : Addr} {xs : List V} (h : H b = some (.lst xs)) : H' b = some (.lst xs) := a b _ (fun z => by obtain ⟨_, q⟩ := d b z; rw [h] at q; cases q) (fun _ z => by cases z) h
theorem KA.tups (a : KA A H H') (d : OwnD A H) : Tups H H' := fun b xs h => a b _ (fun z => by obtain ⟨_, q⟩ := d b z; rw [h] at q; cases q) (fun _ z => by cases z) h
end
end NC
/-! ### paths and pairs in the heap, while some local lists change -/
namespace NC
open PySem PySem.Spec PyProof.Rows L2
inductive PathNI (L : List Addr) (H : Hp) (v : V) (p : List Int) : Prop where
  | mk (l : _) (c1 : v = .ref l) (c2 : l ∉ L) (c3 : H l = some (.lst (p.map V.int)))
def PathN (L : List Addr) (H : Hp) (v : V) (p : List Int) : Prop := PathNI L H v p
inductive ItemNI (L : List Addr) (H : Hp) (v : V) (q : Tm × List Int) : Prop where
  | mk (a : _) (tv : _) (pv : _) (c1 : v = .ref a) (c2 : H a = some (.tup [tv, pv])) (c3 : TermAt H tv q.1) (c4 : PathN L H pv q.2)
def ItemN (L : List Addr) (H : Hp) (v : V) (q : Tm × List Int) : Prop := ItemNI L H v q
/-- all of L are lists -/
def Lists (L : List Addr) (H : Hp) : Prop := ∀ x ∈ L, ∃ ys, H x = some (.lst ys)
theorem lists2 {H : Hp} {f d : Addr} {xs ys : List V} (h1 : H f = some (.lst xs)) (h2 : H d = some (.lst ys)) : Lists [f, d] H := fun x hx => by
  rcases List.mem_cons.mp hx with e | hx
  · exact ⟨xs, e ▸ h1⟩
  · exact ⟨ys, List.mem_singleton.mp hx ▸ h2⟩
theorem PathN.keep {L : List Addr} {H H' : Hp} {v : V} {p : List Int} (h : PathN L H v p) (k : Keep L H H') : PathN L H' v p := let ⟨l, e, n, q⟩ := h; ⟨l, e, n, k _ _ n q⟩
theorem ItemN.keep {L : List Addr} {H H' : Hp} {v : V} {q : Tm × List Int} (h : ItemN L H v q) (k : Keep L H H') (hL : Lists L H) : ItemN L H' v q :=
  let ⟨a, tv, pv, e, h1, h2, h3⟩ := h
  ⟨a, tv, pv, e, k.tups hL _ _ h1, h2.mono (k.tups hL), h3.keep k⟩
theorem PathN.path {L : List Addr} {H : Hp} {v : V} {p : List Int} (h : PathN L H v p) : PathV H v p := let ⟨l, e, _, q⟩ := h; ⟨l, e, q⟩
end NC
/-! ### pairs of a part and a number in the heap -/
namespace NC
open PySem PySem.Spec PyProof.Rows L2
inductive PairAtI (H : Hp) (v : V) (q : Tm × Nat) : Prop where
  | mk (a : _) (tv : _) (c1 : v = .ref a) (c2 : H a = some (.tup [tv, .int (q.2 : Int)])) (c3 : TermAt H tv q.1)
def PairAt (H : Hp) (v : V) (q : Tm × Nat) : Prop := PairAtI H v q
theorem PairAt.mono {H H' : Hp} {v : V} {q : Tm × Nat} (h : PairAt H v q) (k : Tups H H') : PairAt H' v q := let ⟨a, tv, e, h1, h2⟩ := h; ⟨a, tv, e, k _ _ h1, h2.mono k⟩
def pendP (its : List (Tm × Nat)) : List (Tm × Nat) := its.reverse.flatMap fun q => q.1.parts q.2
theorem pendP_snoc (its : List (Tm × Nat)) (q : Tm × Nat) : pendP (its ++ [q]) = q.1.parts q.2 ++ pendP its := by
  unfold pendP
  rw [List.reverse_append]
  rfl
def pendL (its : List (Tm × Nat)) : List (Tm × Nat) := its.reverse.flatMap fun q => q.1.lparts q.2
theorem pendL_snoc (its : List (Tm × Nat)) (q : Tm × Nat) : pendL (its ++ [q]) = q.1.lparts q.2 ++ pendL its := by
  unfold pendL
  rw [List.reverse_append]
  rfl
def sizesP (its : List (Tm × Nat)) : Nat := (its.map fun q => q.1.size).sum
theorem sizesP_snoc (its : List (Tm × Nat)) (q : Tm × Nat) : sizesP (its ++ [q]) = sizesP its + q.1.size := by
  unfold sizesP
  rw [List.map_append, List.sum_append]
  simp
theorem len_sizesP : ∀ its : List (Tm × Nat), its.length ≤ sizesP its
  | [] => Nat.le_refl _
  | q :: r => by
    have := len_sizesP r
    have h := q.1.size_pos
    show r.length + 1 ≤ q.1.size + sizesP r
    omega
/-- lists and tuples stay -/
def LT (H H' : Hp) : Prop := (∀ b xs, H b = some (.lst xs) → H' b = some (.lst xs)) ∧ Tups H H'
theorem LT.refl (H : Hp) : LT H H := ⟨fun _ _ h => h, fun _ _ h => h⟩
theorem LT.trans {H H1 H2 : Hp} (a : LT H H1) (b : LT H1 H2) : LT H H2 := ⟨fun x xs h => b.1 _ _ (a.1 _ _ h), fun x xs h => b.2 _ _ (a.2 _ _ h)⟩
theorem LT.of {H H' : Hp} (s : Same H H') : LT H H' := ⟨fun b xs h => s _ _ h, fun b xs h => s _ _ h⟩
end NC
/-! ### terms as data; parts of the script -/
namespace NC
open PySem PySem.Spec PyProof.Rows L2
/-- a term as data -/
def termD : Tm → Dt
  | .name w => .tup [.str "name", .str w]
  | .place n => .tup [.str "place", .int n]
  | .form b => .tup [.str "form", termD b]
  | .call a b => .tup [.str "call", termD a, termD b]
theorem term_dat {K : PySem.W.Frag} {H : Hp} {v : V} {t : Tm} (h : TermAt H v t) : DAt K H (termD t) v := by
  induction h with
  | name h => exact ⟨_, _, rfl, SqT.of h, _, _, rfl, rfl, _, _, rfl, rfl, rfl⟩
  | place h => exact ⟨_, _, rfl, SqT.of h, _, _, rfl, rfl, _, _, rfl, rfl, rfl⟩
  | form h _ ih => exact ⟨_, _, rfl, SqT.of h, _, _, rfl, rfl, _, _, rfl, ih, rfl⟩
  | call h _ _ ih1 ih2 => exact ⟨_, _, rfl, SqT.of h, _, _, rfl, rfl, _, _, rfl, ih1, _, _, rfl, ih2, rfl⟩
theorem term_lim : ∀ (t : Tm) (n : Nat), t.deep ≤ n → Dt.Lim n (termD t)
  | .name _, n + 1, _ => ⟨by unfold Dt.Lim; trivial, by unfold Dt.Lim; trivial, trivial⟩
  | .place _, n + 1, _ => ⟨by unfold Dt.Lim; trivial, by unfold Dt.Lim; trivial, trivial⟩
  | .form b, n + 1, h => ⟨by unfold Dt.Lim; trivial, term_lim b n (by have h' : b.deep + 1 ≤ n + 1 := h; omega), trivial⟩
  | .call a b, n + 1, h => by
    have h' : max a.deep b.deep + 1 ≤ n + 1 := h
    exact ⟨by unfold Dt.Lim; trivial, term_lim a n (by omega), term_lim b n (by omega), trivial⟩
  | .name _, 0, h => by have h' : 1 ≤ 0 := h; omega
  | .place _, 0, h => by have h' : 1 ≤ 0 := h; omega
  | .form b, 0, h => by have h' : b.deep + 1 ≤ 0 := h; omega
  | .call a b, 0, h => by have h' : max a.deep b.deep + 1 ≤ 0 := h; omega
theorem TermAt.ref {H : Hp} {v : V} {t : Tm} (h : TermAt H v t) : ∃ a, v = .ref a := let ⟨a, _, _, e, _⟩ := h.tup; ⟨a, e⟩
theorem sql_same {K : PySem.W.Frag} {H H' : Hp} {a : Addr} {xs : List V} (h : SqL K H a xs) (s : Same H H') : SqL K H' a xs := by
  rcases h with (h | ⟨o, h⟩) | h
  · exact .inl (.inl (s _ _ h))
  · exact .inl (.inr ⟨o, s _ _ h⟩)
  · exact .inr h
theorem cut_atB {H : Hp} {p : Addr} {ns : List Int} (lo hi : Nat) (h : H p = some (.lst (cutV (ns.map V.int) (some (lo : Int)) (some (hi : Int))))) : ∃ ms : List Int, H p = some (.lst (ms.map V.int)) ∧ ms.length ≤ hi - lo := by
  refine ⟨(ns.drop (HT.sIx (ns.map V.int).length 0 (some (lo : Int)))).take (HT.sIx (ns.map V.int).length (ns.map V.int).length (some (hi : Int)) - HT.sIx (ns.map V.int).length 0 (some (lo : Int))), ?_, ?_⟩
  · rw [h]
    unfold cutV
    rw [List.map_take, List.map_drop]
  · rw [List.length_take, HT.sIx_nat, HT.sIx_nat]
    omega
end NC
/-! ### named terms, their lines, and what is begun while a line is read -/
namespace NC
open PySem
inductive NT where
  | name (w : Str)
  | form (w : Str) (b : NT)
  | call (a b : NT)
def NT.size : NT → Nat
  | .name _ => 1
  | .form _ b => b.size + 1
  | .call a b => a.size + b.size + 1
def NT.deep : NT → Nat
  | .name _ => 1
  | .form _ b => b.deep + 1
  | .call a b => max a.deep b.deep + 1
theorem NT.deep_le : ∀ t : NT, t.deep ≤ t.size
  | .name _ => Nat.le_refl _
  | .form _ b => Nat.succ_le_succ b.deep_le
  | .call a b => by
    have h1 := a.deep_le
    have h2 := b.deep_le
    simp only [NT.deep, NT.size]
    omega
theorem NT.size_pos : ∀ t : NT, 1 ≤ t.size
  | .name _ => Nat.le_refl _
  | .form _ b => by simp only [NT.size]; omega
  | .call a b => by simp only [NT.size]; omega
/-- a word of letters -/
def Wd (w : Str) : Prop := w.cps.toList ≠ [] ∧ w.cps.toList.length ≤ 100 ∧ ∀ c ∈ w.cps.toList, 97 ≤ c ∧ c ≤ 122
def NT.ok : NT → Prop
  | .name w => Wd w
  | .form w b => Wd w ∧ b.ok
  | .call a b => a.ok ∧ b.ok
def NT.line : NT → List Nat
  | .name w => w.cps.toList
  | .form w b => w.cps.toList ++ 58 :: b.line
  | .call a b => 40 :: (a.line ++ 32 :: (b.line ++ [41]))
/-- what is begun: a form, a call whose one is read, a call whose other is read -/
inductive Bg where
  | form (w : Str)
  | one (b : NT)
  | two (a : NT)
def Bg.ok : Bg → Prop
  | .form w => Wd w
  | .one b => b.ok
  | .two a => a.ok
end NC
/-! ### the words and piles of a law's named terms -/
namespace NC
open PySem
/-- the word with that number -/
def goW (m : Nat) (w : Str) : Str := if h : m = 0 then w else goW ((m - 1) / 26) (⟨#[97 + (m - 1) % 26]⟩ ++ w)
termination_by m
decreasing_by omega
theorem goW_zero (w : Str) : goW 0 w = w := by rw [goW, dif_pos rfl]
theorem goW_pos {m : Nat} (h : m ≠ 0) (w : Str) : goW m w = goW ((m - 1) / 26) (⟨#[97 + (m - 1) % 26]⟩ ++ w) := by
  conv => lhs; rw [goW, dif_neg h]
def anyW (c : Int) : Str := goW (((if c < 0 then -c else c) % (10 : Int) ^ ((39 : Int).toNat)).toNat + 1) (Str.ofString "")
def letterS (c : Int) : Str := ⟨#[97 + (c % 26).toNat]⟩
def menuS (l : Str) (k : Int) : Str := ([Str.ofString "sab", Str.ofString "tab", Str.ofString "sat", Str.ofString "sob", l][(k % 5).toNat]?).getD l
def wordAt (ns : List Int) (j : Nat) : Str :=
  if ns.getD j 0 % 11 = 7 then anyW (ns.getD j 0 / 11) else menuS (letterS (ns.getD ((j + 1) % ns.length) 0)) (ns.getD j 0 / 5)
/-- one cell more, the top of the pile first -/
def stepN (S : List NT) (way : Int) (w : Str) : List NT :=
  match S with
  | [] => [.name w]
  | [t] => if way = 2 ∨ way = 3 then [.form w t] else [.name w, t]
  | b :: a :: r => if way = 2 ∨ way = 3 then .form w b :: a :: r else if way = 4 then .call a b :: r else .name w :: b :: a :: r
def pileN (ns : List Int) : Nat → List NT
  | 0 => []
  | j + 1 => stepN (pileN ns j) (ns.getD j 0 % 5) (wordAt ns j)
/-- what is left called one by the other -/
def closeN : List NT → NT
  | [] => .name (Str.ofString "sab")
  | b :: r => r.foldl (fun acc a => .call a acc) b
def wordyT (ns : List Int) : NT := closeN (pileN ns ns.length)
theorem stepN_form {t : NT} {r : List NT} {way : Int} {w : Str} (h : way = 2 ∨ way = 3) : stepN (t :: r) way w = .form w t :: r := by
  cases r with
  | nil => show (if way = 2 ∨ way = 3 then _ else _) = _; rw [if_pos h]
  | cons a r => show (if way = 2 ∨ way = 3 then _ else _) = _; rw [if_pos h]
theorem stepN_call {a b : NT} {r : List NT} {way : Int} {w : Str} (h : way = 4) : stepN (b :: a :: r) way w = .call a b :: r := by
  show (if way = 2 ∨ way = 3 then _ else if way = 4 then _ else _) = _
  rw [if_neg (by omega), if_pos h]
theorem stepN_name {S : List NT} {way : Int} {w : Str} (h1 : (way = 2 ∨ way = 3) → S = []) (h2 : way = 4 → S.length ≤ 1) : stepN S way w = .name w :: S := by
  cases S with
  | nil => rfl
  | cons b r =>
    have n1 : ¬ (way = 2 ∨ way = 3) := fun z => by cases h1 z
    cases r with
    | nil => show (if way = 2 ∨ way = 3 then _ else _) = _; rw [if_neg n1]
    | cons a r =>
      show (if way = 2 ∨ way = 3 then _ else if way = 4 then _ else _) = _
      rw [if_neg n1, if_neg fun z => by have := h2 z; simp at this]
theorem closeN_call (a b : NT) (r : List NT) : closeN (b :: a :: r) = closeN (.call a b :: r) := rfl
def sizesN (S : List NT) : Nat := (S.map NT.size).sum
theorem wd_any {w : Str} (c : Nat) (h1 : 97 ≤ c) (h2 : c ≤ 122) (hw : ∀ c ∈ w.cps.toList, 97 ≤ c ∧ c ≤ 122) : ∀ z ∈ ((⟨#[c]⟩ : Str) ++ w).cps.toList, 97 ≤ z ∧ z ≤ 122 := fun z hz => by
  have e : ((⟨#[c]⟩ : Str) ++ w).cps.toList = c :: w.cps.toList := by
    show (#[c] ++ w.cps).toList = _
    simp
  rw [e] at hz
  rcases List.mem_cons.mp hz with rfl | hz
  · exact ⟨h1, h2⟩
  · exact hw z hz
theorem wd_sab : Wd (Str.ofString "sab") := by
  have e : (Str.ofString "sab").cps.toList = [115, 97, 98] := by decide +kernel
  unfold Wd
  rw [e]
  decide
theorem wd_menu {l : Str} (h : Wd l) (k : Int) : Wd (menuS l k) := by
  have all : ∀ w ∈ [Str.ofString "sab", Str.ofString "tab", Str.ofString "sat", Str.ofString "sob", l], Wd w := by
    intro w hw
    have e2 : (Str.ofString "tab").cps.toList = [116, 97, 98] := by decide +kernel
    have e3 : (Str.ofString "sat").cps.toList = [115, 97, 116] := by decide +kernel
    have e4 : (Str.ofString "sob").cps.toList = [115, 111, 98] := by decide +kernel
    simp only [List.mem_cons, List.not_mem_nil, or_false] at hw
    rcases hw with rfl | rfl | rfl | rfl | rfl
    · exact wd_sab
    · unfold Wd; rw [e2]; decide
    · unfold Wd; rw [e3]; decide
    · unfold Wd; rw [e4]; decide
    · exact h
  unfold menuS
  cases q : [Str.ofString "sab", Str.ofString "tab", Str.ofString "sat", Str.ofString "sob", l][(k % 5).toNat]? with
  | none => exact h
  | some w => exact all w (List.mem_of_getElem? q)
theorem wd_letter (c : Int) : Wd (letterS c) := by
  refine ⟨by simp [letterS], by simp [letterS], fun z hz => ?_⟩
  have e : (letterS c).cps.toList = [97 + (c % 26).toNat] := rfl
  rw [e] at hz
  rw [List.mem_singleton.mp hz]
  omega
theorem goW_wd : ∀ (m : Nat) (w : Str), (∀ z ∈ w.cps.toList, 97 ≤ z ∧ z ≤ 122) → (1 ≤ w.cps.toList.length ∨ 1 ≤ m) → 26 ^ w.cps.toList.length * m ≤ 10 ^ 39 → w.cps.toList.length ≤ 50 → Wd (goW m w) := by
  intro m
  induction m using Nat.strongRecOn with
  | _ m ih =>
    intro w h1 h2 h3 h4
    by_cases hm : m = 0
    · subst hm
      rw [goW_zero]
      refine ⟨fun z => ?_, by omega, h1⟩
      rw [z] at h2
      simp at h2
    · rw [goW_pos hm]
      have e : ((⟨#[97 + (m - 1) % 26]⟩ : Str) ++ w).cps.toList = (97 + (m - 1) % 26) :: w.cps.toList := by
        show (#[97 + (m - 1) % 26] ++ w.cps).toList = _
        simp
      have hb : w.cps.toList.length ≤ 28 := by
        refine Nat.le_of_not_lt fun z => ?_
        have g1 : 26 ^ 28 ≤ 26 ^ w.cps.toList.length := Nat.pow_le_pow_right (by decide) (by omega)
        have g2 : 26 ^ w.cps.toList.length * 1 ≤ 26 ^ w.cps.toList.length * m := Nat.mul_le_mul_left _ (by omega)
        have g3 : ¬ (26 ^ 28 ≤ 10 ^ 39) := by decide +kernel
        omega
      refine ih ((m - 1) / 26) (by omega) _ (wd_any _ (by omega) (by omega) h1) ?_ ?_ ?_
      · rw [e]; left; simp
      · rw [e, List.length_cons]
        have g1 : 26 ^ (w.cps.toList.length + 1) * ((m - 1) / 26) = 26 ^ w.cps.toList.length * (26 * ((m - 1) / 26)) := by rw [Nat.pow_succ, Nat.mul_assoc]
        rw [g1]
        exact Nat.le_trans (Nat.mul_le_mul_left _ (by omega)) h3
      · rw [e, List.length_cons]; omega
theorem wd_anyW (c : Int) : Wd (anyW c) := by
  have e : (Str.ofString "").cps.toList = [] := by decide +kernel
  have hM1 : (if c < 0 then -c else c) % (10 : Int) ^ ((39 : Int).toNat) < 10 ^ 39 := Int.emod_lt_of_pos _ (by decide +kernel)
  refine goW_wd _ _ (by rw [e]; intro z hz; cases hz) (.inr (by omega)) ?_ (by rw [e]; decide)
  rw [e]
  show 1 * _ ≤ _
  omega
theorem wd_wordAt (ns : List Int) (j : Nat) : Wd (wordAt ns j) := by
  unfold wordAt
  split
  · exact wd_anyW _
  · exact wd_menu (wd_letter _) _
theorem stepN_ok {S : List NT} {way : Int} {w : Str} (h : ∀ t ∈ S, t.ok) (hw : Wd w) : ∀ t ∈ stepN S way w, t.ok := by
  intro t ht
  match S, h, ht with
  | [], _, ht =>
    rw [List.mem_singleton.mp ht]
    exact hw
  | [x], h, ht =>
    change t ∈ (if way = 2 ∨ way = 3 then [NT.form w x] else [NT.name w, x]) at ht
    split at ht
    · rw [List.mem_singleton.mp ht]
      exact ⟨hw, h x (by simp)⟩
    · rcases List.mem_cons.mp ht with rfl | ht
      · exact hw
      · exact h t ht
  | b :: a :: r, h, ht =>
    change t ∈ (if way = 2 ∨ way = 3 then NT.form w b :: a :: r else if way = 4 then NT.call a b :: r else NT.name w :: b :: a :: r) at ht
    split at ht
    · rcases List.mem_cons.mp ht with rfl | ht
      · exact ⟨hw, h b (by simp)⟩
      · exact h t (List.mem_cons_of_mem _ ht)
    · split at ht
      · rcases List.mem_cons.mp ht with rfl | ht
        · exact ⟨h a (by simp), h b (by simp)⟩
        · exact h t (List.mem_cons_of_mem _ (List.mem_cons_of_mem _ ht))
      · rcases List.mem_cons.mp ht with rfl | ht
        · exact hw
        · exact h t ht
theorem stepN_size (S : List NT) (way : Int) (w : Str) : sizesN (stepN S way w) ≤ sizesN S + 1 := by
  match S with
  | [] => exact Nat.le_refl _
  | [x] =>
    show sizesN (if way = 2 ∨ way = 3 then [NT.form w x] else [NT.name w, x]) ≤ _
    split <;> simp only [sizesN, List.map_cons, List.map_nil, List.sum_cons, List.sum_nil, NT.size] <;> omega
  | b :: a :: r =>
    show sizesN (if way = 2 ∨ way = 3 then NT.form w b :: a :: r else if way = 4 then NT.call a b :: r else NT.name w :: b :: a :: r) ≤ _
    split
    · simp only [sizesN, List.map_cons, List.sum_cons, NT.size]; omega
    · split <;> simp only [sizesN, List.map_cons, List.sum_cons, NT.size] <;> omega
theorem pile_ok (ns : List Int) : ∀ j, ∀ t ∈ pileN ns j, t.ok
  | 0, t, h => by cases h
  | j + 1, t, h => stepN_ok (pile_ok ns j) (wd_wordAt ns j) t h
theorem pile_size (ns : List Int) : ∀ j, sizesN (pileN ns j) ≤ j
  | 0 => Nat.le_refl _
  | j + 1 => Nat.le_trans (stepN_size _ _ _) (Nat.succ_le_succ (pile_size ns j))
theorem len_sizesN : ∀ S : List NT, S.length ≤ sizesN S
  | [] => Nat.le_refl _
  | t :: r => by
    have h1 := len_sizesN r
    have h2 := t.size_pos
    show r.length + 1 ≤ t.size + sizesN r
    omega
theorem closeN_ok : ∀ (n : Nat) (S : List NT), S.length = n → (∀ t ∈ S, t.ok) → (closeN S).ok
  | _, [], _, _ => wd_sab
  | _, [t], _, h => h t (by simp)
  | n + 1, b :: a :: r, hn, h => by
    rw [closeN_call]
    refine closeN_ok n (.call a b :: r) (by simp at hn ⊢; omega) fun t ht => ?_
    rcases List.mem_cons.mp ht with rfl | ht
    · exact ⟨h a (by simp), h b (by simp)⟩
    · exact h t (List.mem_cons_of_mem _ (List.mem_cons_of_mem _ ht))
theorem closeN_size : ∀ (n : Nat) (S : List NT), S.length = n → (closeN S).size ≤ sizesN S + S.length + 1
  | _, [], _ => by show 1 ≤ _; omega
  | _, [t], _ => by show t.size ≤ t.size + 0 + 1 + 1; omega
  | n + 1, b :: a :: r, hn => by
    rw [closeN_call]
    have := closeN_size n (.call a b :: r) (by simp at hn ⊢; omega)
    simp only [sizesN, List.map_cons, List.sum_cons, NT.size, List.length_cons] at this ⊢
    omega
theorem wordyT_ok (ns : List Int) : (wordyT ns).ok := closeN_ok _ _ rfl (pile_ok ns _)
theorem wordyT_size (ns : List Int) : (wordyT ns).size ≤ 2 * ns.length + 1 := by
  have h1 := closeN_size _ (pileN ns ns.length) rfl
  have h2 := pile_size ns ns.length
  have h3 := len_sizesN (pileN ns ns.length)
  unfold wordyT
  omega
end NC
/-! ### named terms told by numbers -/
namespace NC
open PySem
/-- the parts with the words round them, the innermost word first -/
def NT.parts : NT → List Str → List (NT × List Str)
  | .name w, ws => [(.name w, ws)]
  | .form w b, ws => (.form w b, ws) :: b.parts (w :: ws)
  | .call a b, ws => (.call a b, ws) :: (a.parts ws ++ b.parts ws)
def NT.lparts : NT → List Str → List (NT × List Str)
  | .name w, ws => [(.name w, ws)]
  | .form w b, ws => (.form w b, ws) :: b.lparts (w :: ws)
  | .call a b, ws => (.call a b, ws) :: (b.lparts ws ++ a.lparts ws)
theorem nparts_len : ∀ (t : NT) (ws : List Str), (t.parts ws).length = t.size
  | .name _, _ => rfl
  | .form w b, ws => by show (b.parts (w :: ws)).length + 1 = _; rw [nparts_len b]; rfl
  | .call a b, ws => by show (a.parts ws ++ b.parts ws).length + 1 = _; rw [List.length_append, nparts_len a, nparts_len b]; rfl
theorem nlparts_len : ∀ (t : NT) (ws : List Str), (t.lparts ws).length = t.size
  | .name _, _ => rfl
  | .form w b, ws => by show (b.lparts (w :: ws)).length + 1 = _; rw [nlparts_len b]; rfl
  | .call a b, ws => by
    show (b.lparts ws ++ a.lparts ws).length + 1 = _
    rw [List.length_append, nlparts_len a, nlparts_len b]
    show b.size + a.size + 1 = a.size + b.size + 1
    omega
/-- how many words lie round a part -/
theorem nparts_le : ∀ (t : NT) (ws : List Str) (q : NT × List Str), q ∈ t.parts ws → q.2.length ≤ ws.length + t.size
  | .name _, ws, q, h => by rw [List.mem_singleton.mp h]; show ws.length ≤ _; omega
  | .form w b, ws, q, h => by
    rcases List.mem_cons.mp (show q ∈ (NT.form w b, ws) :: b.parts (w :: ws) from h) with e | h
    · rw [e]; show ws.length ≤ _; omega
    · have := nparts_le b (w :: ws) q h
      rw [List.length_cons] at this
      show _ ≤ ws.length + (b.size + 1)
      omega
  | .call a b, ws, q, h => by
    rcases List.mem_cons.mp (show q ∈ (NT.call a b, ws) :: (a.parts ws ++ b.parts ws) from h) with e | h
    · rw [e]; show ws.length ≤ _; omega
    · rcases List.mem_append.mp h with h | h
      · have := nparts_le a ws q h
        show _ ≤ ws.length + (a.size + b.size + 1)
        omega
      · have := nparts_le b ws q h
        show _ ≤ ws.length + (a.size + b.size + 1)
        omega
section
variable {g : Str → List Str → T Str}
def NT.num (g : Str → List Str → T Str) : NT → List Str → T Str
  | .name w, ws => g w ws
  | .form w b, ws => .form (b.num g (w :: ws))
  | .call a b, ws => .call (a.num g ws) (b.num g ws)
def runN (g : Str → List Str → T Str) : List (NT × List Str) → List (T Str) → Option (List (T Str))
  | [], S => some S
  | (.name w, ws) :: ys, S => runN g ys (g w ws :: S)
  | (.form _ _, _) :: ys, x :: S => runN g ys (.form x :: S)
  | (.call _ _, _) :: ys, x :: y :: S => runN g ys (.call x y :: S)
  | _, _ => none
def runM (g : Str → List Str → T Str) : List (NT × List Str) → List (T Str) → Option (List (T Str))
  | [], S => some S
  | (.name w, ws) :: ys, S => runM g ys (g w ws :: S)
  | (.form _ _, _) :: ys, x :: S => runM g ys (.form x :: S)
  | (.call _ _, _) :: ys, x :: y :: S => runM g ys (.call y x :: S)
  | _, _ => none
theorem runN_parts : ∀ (t : NT) (ws : List Str) (ys : List (NT × List Str)) (S : List (T Str)), runN g ((t.parts ws).reverse ++ ys) S = runN g ys (t.num g ws :: S)
  | .name _, _, _, _ => rfl
  | .form w b, ws, ys, S => by
    show runN g (((NT.form w b, ws) :: b.parts (w :: ws)).reverse ++ ys) S = _
    rw [List.reverse_cons, List.append_assoc, runN_parts b]
    rfl
  | .call a b, ws, ys, S => by
    show runN g (((NT.call a b, ws) :: (a.parts ws ++ b.parts ws)).reverse ++ ys) S = _
    rw [List.reverse_cons, List.reverse_append, List.append_assoc, List.append_assoc, runN_parts b, runN_parts a]
    rfl
theorem runM_parts : ∀ (t : NT) (ws : List Str) (ys : List (NT × List Str)) (S : List (T Str)), runM g ((t.lparts ws).reverse ++ ys) S = runM g ys (t.num g ws :: S)
  | .name _, _, _, _ => rfl
  | .form w b, ws, ys, S => by
    show runM g (((NT.form w b, ws) :: b.lparts (w :: ws)).reverse ++ ys) S = _
    rw [List.reverse_cons, List.append_assoc, runM_parts b]
    rfl
  | .call a b, ws, ys, S => by
    show runM g (((NT.call a b, ws) :: (b.lparts ws ++ a.lparts ws)).reverse ++ ys) S = _
    rw [List.reverse_cons, List.reverse_append, List.append_assoc, List.append_assoc, runM_parts a, runM_parts b]
    rfl
theorem runN_all (t : NT) (ws : List Str) : runN g (t.parts ws).reverse [] = some [t.num g ws] := by
  have := runN_parts (g := g) t ws [] []
  rw [List.append_nil] at this
  rw [this]
  rfl
theorem runM_all (t : NT) (ws : List Str) : runM g (t.lparts ws).reverse [] = some [t.num g ws] := by
  have := runM_parts (g := g) t ws [] []
  rw [List.append_nil] at this
  rw [this]
  rfl
theorem runN_form {w : Str} {b : NT} {k : List Str} {ys : List (NT × List Str)} {S r : List (T Str)} (h : runN g ((.form w b, k) :: ys) S = some r) : ∃ x S', S = x :: S' ∧ runN g ys (.form x :: S') = some r := by
  cases S with
  | nil => cases h
  | cons x S => exact ⟨x, S, rfl, h⟩
theorem runN_call {a b : NT} {k : List Str} {ys : List (NT × List Str)} {S r : List (T Str)} (h : runN g ((.call a b, k) :: ys) S = some r) : ∃ x y S', S = x :: y :: S' ∧ runN g ys (.call x y :: S') = some r := by
  cases S with
  | nil => cases h
  | cons x S =>
    cases S with
    | nil => cases h
    | cons y S => exact ⟨x, y, S, rfl, h⟩
theorem runM_form {w : Str} {b : NT} {k : List Str} {ys : List (NT × List Str)} {S r : List (T Str)} (h : runM g ((.form w b, k) :: ys) S = some r) : ∃ x S', S = x :: S' ∧ runM g ys (.form x :: S') = some r := by
  cases S with
  | nil => cases h
  | cons x S => exact ⟨x, S, rfl, h⟩
theorem runM_call {a b : NT} {k : List Str} {ys : List (NT × List Str)} {S r : List (T Str)} (h : runM g ((.call a b, k) :: ys) S = some r) : ∃ x y S', S = x :: y :: S' ∧ runM g ys (.call y x :: S') = some r := by
  cases S with
  | nil => cases h
  | cons x S =>
    cases S with
    | nil => cases h
    | cons y S => exact ⟨x, y, S, rfl, h⟩
end
/-- a word by its number among the words round it, the innermost 0 -/
def numAt (w : Str) : List Str → Nat → T Str
  | [], _ => .name w
  | u :: ws, n => if u = w then .place n else numAt w ws (n + 1)
def byNum (w : Str) (ws : List Str) : T Str := numAt w ws 0
def NT.numbered (t : NT) : T Str := t.num byNum []
theorem byNum_one (w : Str) (ws : List Str) : (byNum w ws).size = 1 := by
  have h : ∀ (ws : List Str) (n : Nat), (numAt w ws n).size = 1 := fun ws => by
    induction ws with
    | nil => intro n; rfl
    | cons u ws ih =>
      intro n
      unfold numAt
      split
      · rfl
      · exact ih _
  exact h ws 0
theorem num_size : ∀ (t : NT) (ws : List Str), (t.num byNum ws).size = t.size
  | .name w, ws => byNum_one w ws
  | .form w b, ws => by show (b.num byNum (w :: ws)).size + 1 = b.size + 1; rw [num_size b]
  | .call a b, ws => by show (a.num byNum ws).size + (b.num byNum ws).size + 1 = a.size + b.size + 1; rw [num_size a, num_size b]
end NC
/-! ### texts in order, parts in another order, exchanging: facts on data -/
namespace NC
open PySem PySem.Spec PyProof.Rows
theorem lparts_perm {W : Type} : ∀ (t : T W) (k : Nat), (t.lparts k).Perm (t.parts k)
  | .name _, _ => List.Perm.refl _
  | .place _, _ => List.Perm.refl _
  | .form b, k => (lparts_perm b (k + 1)).cons _
  | .call a b, k => (((lparts_perm b k).append (lparts_perm a k)).trans List.perm_append_comm).cons _
theorem sub_len {α : Type} [DecidableEq α] : ∀ {ks l : List α}, ks.Nodup → (∀ x ∈ ks, x ∈ l) → ks.length ≤ l.length
  | [], _, _, _ => Nat.zero_le _
  | x :: ks, l, nd, h => by
    rw [List.nodup_cons] at nd
    have hx := h x (List.mem_cons_self)
    have := sub_len (ks := ks) (l := l.erase x) nd.2 fun y hy => (List.mem_erase_of_ne (show y ≠ x from fun e => nd.1 (by rw [← e]; exact hy))).mpr (h y (List.mem_cons_of_mem _ hy))
    rw [List.length_erase_of_mem hx] at this
    have := List.length_pos_of_mem hx
    rw [List.length_cons]
    omega
end NC
/-! ### lists of texts: index, in -/
namespace NC
open PySem PySem.Spec PyProof.Rows L2
theorem vals_get : ∀ {xs : List V} {us : List Value} (i : Nat) (h : i < us.length), Vals xs us → ∃ x, xs[i]? = some x ∧ RelV x us[i]
  | _ :: _, _ :: _, 0, _, .cons r _ => ⟨_, rfl, r⟩
  | _ :: _, _ :: _, i + 1, h, .cons _ t => by
    obtain ⟨x, e, r⟩ := vals_get i (Nat.lt_of_succ_lt_succ h) t
    exact ⟨x, e, r⟩
  | [], [], _, h, _ => absurd h (Nat.not_lt_zero _)
theorem eqU_str {w u : Str} {t : Tok} : eqU (.str w) (.str u t) = (u == w) := rfl
section
variable {X : Cx}
inductive RIdxI (x : V) (vs : List V) (H : Hp) (Q : VK) : Prop where
  | mk (l : Addr) (ws : List Str) (w : Str) (c1 : x = .ref l) (c2 : vs = [.str w]) (c3 : H l = some (.lst (ws.map V.str))) (c4 : w ∈ ws) (c5 : Q (.int (ws.idxOf w : Nat)) H)
def rIdx : V → List V → Hp → VK → Prop := fun x vs H Q => RIdxI x vs H Q
theorem all_flat (ws : List Str) : (ws.map V.str).all flatV = true := by
  rw [List.all_map, List.all_eq_true]
  intro _ _
  rfl
theorem str_at {ws : List Str} {its : List Value} (r : Vals (ws.map V.str) its) (m : Nat) (hm : m < its.length) (hm' : m < ws.length) : ∃ t, its[m] = .str ws[m] t := by
  obtain ⟨x, e, q⟩ := vals_get m hm r
  rw [List.getElem?_map, List.getElem?_eq_getElem hm'] at e
  cases (Option.some.inj e)
  obtain ⟨t, h⟩ := q
  exact ⟨t, h⟩
theorem mt_idx : MtM X "list.index" rIdx := by
  intro pins s σ H x vs v us Q I rx rv h
  obtain ⟨l, ws, w, rfl, rfl, hH, hw, q⟩ := h
  cases rx
  obtain ⟨u, rfl, ru⟩ := rv.one
  obtain ⟨z, its, n, r, hl, e⟩ := I.lstM hH
  have hj : ws.idxOf w < ws.length := List.idxOf_lt_length_iff.mpr hw
  have hlen : ws.length = its.length := by rw [← hl, List.length_map]
  have hz : ws.length ≤ sizeLine := by rw [List.length_map] at z; exact z
  rw [sizeLine_eq] at hz
  refine call_meets PySem.F.slot_list_index ⟨_, e, rfl⟩ PySem.F.entry_list_index (PySem.F.args_list_index_2 _ _)
    (PySem.SeqAt.list_indexAt l its.toArray n none #[] u (eqU (.str w)) (ws.idxOf w) (by rw [List.size_toArray]; omega) (by omega) ?_ ?_) ⟨e, fun y hy => mem_eqAt ru rfl r (all_flat ws) y (by simpa using hy), ⟨.int _, H, I.tok _, ⟨_, rfl⟩, q⟩⟩
  · obtain ⟨t, h⟩ := str_at r (ws.idxOf w) (by omega) hj
    rw [List.getElem_toArray, h, eqU_str]
    simpa using List.getElem_idxOf hj
  · intro m hm hlt
    rw [List.size_toArray] at hm
    obtain ⟨t, h⟩ := str_at r m hm (by omega)
    rw [List.getElem_toArray, h, eqU_str]
    exact List.not_of_lt_findIdx (p := (· == w)) hlt
variable {o e : Expr} {to te : TE} {apos cpos : Pos}
/-- xs.index(e) -/
def tIdx (K : PySem.W.Frag) (to te : TE) : TE := tBM K "list" rIdx to (tCons te tNil)
theorem pIdx (ho : PE X o to) (he : PE X e te) (h : plainE e = true := by rfl) (hbase : attributeBase o "index" X.env (eval o X.env) = eval o X.env := by rfl) (hline : (apos.endLine == cpos.line) = true := by rfl) :
    PE X (.Call (.Attribute o "index" apos) [e] [] cpos) (tIdx X.K to te) :=
  pe_bm PySem.F.plainAttrs_list PySem.F.slot_list_index PySem.F.type_list_index mt_idx ho (pa_c he pa_nil h) hbase (by
    rw [star_all (es := [e]) (by simp [h])]
    rfl) hline (star_plain h) rfl
/-- w in a list of texts -/
inductive RInTI (x : V) (y : V) (H : Hp) (Q : VK) : Prop where
  | mk (l : Addr) (ws : List Str) (w : Str) (c1 : x = .str w) (c2 : y = .ref l) (c3 : H l = some (.lst (ws.map V.str))) (c4 : Q (.bl (decide (w ∈ ws))) H)
def rInT : R2 := fun x y H Q => RInTI x y H Q
theorem inV_str (w : Str) : ∀ ws : List Str, inV (.str w) (ws.map V.str) = decide (w ∈ ws)
  | [] => by simp [inV]
  | u :: ws => by
    have ih := inV_str w ws
    unfold inV at ih ⊢
    rw [List.map_cons, List.any_cons, ih]
    by_cases h : u = w
    · subst h; simp [eqV]
    · have h' : ¬ w = u := fun z => h z.symm
      simp [eqV, h, h']
theorem op_in_txt : OpR X (compareOp .In) rInT := OpR.imp op_in_seq fun _ _ _ _ ⟨l, ws, w, e1, e2, h, q⟩ => by
  subst e1 e2
  refine ⟨l, _, rfl, .inl (SqL.of h), rfl, all_flat ws, ?_⟩
  rw [inV_str]
  exact q
end
end NC
/-! ### sets of texts: made out of a list, walked, gathered -/
namespace NC
open PySem PySem.Spec PyProof.Rows
/-! #### what a set's table keeps -/
theorem orS_led (t : SetTable) (n : Nat) : (t.orStandIn n).led = t.led := by unfold SetTable.orStandIn; split <;> rfl
theorem orS_plain (t : SetTable) (n : Nat) (h : t.plain = false) : (t.orStandIn n).plain = false := by
  unfold SetTable.orStandIn
  split
  · exact h
  · rfl
theorem lay_led (t : SetTable) (es : Array (Int × Value)) (h : Int) (x : Value) : (layNew t es h x).2.1.led = t.led := by
  unfold layNew
  split
  · exact orS_led _ _
  · rfl
theorem lay_plain (t : SetTable) (es : Array (Int × Value)) (h : Int) (x : Value) (hp : t.plain = false) : (layNew t es h x).2.1.plain = false := by
  unfold layNew
  split
  · exact orS_plain _ _ hp
  · rfl
theorem laid_keeps {m f mv : Nat} {led plain : Bool} {hs : Array Int} {r : SetTable × Array Nat} (h : SetTable.laid m f mv led plain hs = some r) : r.1.led = led ∧ r.1.plain = plain := by
  unfold SetTable.laid at h
  cases q : SetTable.layClean m hs with
  | none => rw [q] at h; cases h
  | some o =>
    rw [q] at h
    cases h
    exact ⟨rfl, rfl⟩
theorem relay_led (t : SetTable) (es : Array (Int × Value)) (n : Nat) : (relayAll t es n).2.1.led = t.led := by
  unfold relayAll
  split
  · rename_i t' order e
    dsimp only
    split
    · exact (laid_keeps e).1
    · rfl
  · rfl
theorem relay_plain (t : SetTable) (es : Array (Int × Value)) (n : Nat) (hp : t.plain = false) : (relayAll t es n).2.1.plain = false := by
  unfold relayAll
  split
  · rename_i t' order e
    dsimp only
    split
    · exact (laid_keeps e).2.trans hp
    · rfl
  · rfl
/-! #### a set of texts in the heap -/
def txtOf : Value → Str
  | .str k _ => k
  | _ => ⟨#[]⟩
abbrev sKind (prog : Program) (w : World) := PySem.strKind prog w
def byText (w : World) : Bool := w.params.followText "set-order"
inductive TxtSet (prog : Program) (w : World) (h : Heap) (a : Addr) (ks : List Str) : Prop where
  | mk (es : Array (Int × Value)) (ep : Nat) (t : SetTable) (at_ : h.get? a = some { cls := .type "set", dict := none, data := .set es ep t, slots := #[] }) (el : ElemsOf (sKind prog w) es.toList)
      (perm : (es.toList.map fun e => txtOf e.2).Perm ks) (nd : ks.Nodup) (few : es.size < scanBound) (fit : t.fits es.size = true) (led : t.led = !byText w) (pl : es.size ≠ 0 → t.plain = false)
section
variable {prog : Program} {w : World} {A : Around} {E : Value → Shared → Prop} {s : Shared}
theorem is_txt {k : Str} {v : Value} (h : (sKind prog w).is k v = true) : ∃ t, v = .str k t := Value.isStrOf_shape h
theorem txt_el {es : Array (Int × Value)} (h : ElemsOf (sKind prog w) es.toList) {e : Int × Value} (he : e ∈ es.toList) : ∃ t, e.2 = .str (txtOf e.2) t := by
  obtain ⟨⟨k, hk, _⟩, _⟩ := h e he
  obtain ⟨t, q⟩ := is_txt hk
  rw [q]
  exact ⟨t, rfl⟩
theorem found_iff {es : Array (Int × Value)} (h : ElemsOf (sKind prog w) es.toList) {ks : List Str} (p : (es.toList.map fun e => txtOf e.2).Perm ks) (k : Str) : (∃ e ∈ es.toList, (sKind prog w).is k e.2 = true) ↔ k ∈ ks := by
  rw [← p.mem_iff, List.mem_map]
  constructor
  · rintro ⟨e, he, hk⟩
    obtain ⟨t, q⟩ := is_txt hk
    exact ⟨e, he, by rw [q]; rfl⟩
  · rintro ⟨e, he, rfl⟩
    obtain ⟨t, q⟩ := txt_el h he
    refine ⟨e, he, ?_⟩
    rw [q]
    exact strKind_is prog w _ t
/-- one text more -/
theorem add_txt {a : Addr} {ks : List Str} {k : Str} {tk : Tok} {Q : Bool → Shared → Prop} (hS : TxtSet prog w s.heap a ks) (room : ks.length + 1 < scanBound)
    (q : ∀ b h', Heap.SameBut a s.heap h' → TxtSet prog w h' a (if k ∈ ks then ks else ks ++ [k]) → Q b { s with heap := h' }) :
    wpAny (model prog w) A (setAddHashed a (.str k tk) ((sKind prog w).hash k)) Q E s := by
  obtain ⟨es, ep, t, ho, el, pm, nd, few, fit, led, pl⟩ := hS
  have hk : (sKind prog w).is k (.str k tk) = true := strKind_is prog w k tk
  have hsz : es.size = ks.length := by rw [← Array.length_toList, ← pm.length_eq, List.length_map]
  unfold setAddHashed setAddHashedIn
  refine wpAny_holding (wpAny_bind (wpAny_setState_of ho rfl fit ?_))
  dsimp only
  rw [byScan_of (x := .str k tk) rfl few el, if_pos rfl]
  unfold setAddByScan
  refine wpAny_bind (wpAny_bind (wpAny_rule (wpAny_bind (wpAny_setScan_of hk ho rfl fit el ?_))))
  cases hr : List.findIdx? (fun e => (sKind prog w).is k e.2) es.toList with
  | some j =>
    obtain ⟨hj, hpj, _⟩ := List.findIdx?_eq_some_iff_getElem.mp hr
    have hin : k ∈ ks := (found_iff el pm k).mp ⟨_, List.getElem_mem hj, hpj⟩
    refine wpAny_pure (wpAny_pure ?_)
    have := q false s.heap (Heap.SameBut.refl a s.heap) (by rw [if_pos hin]; exact ⟨es, ep, t, ho, el, pm, nd, few, fit, led, pl⟩)
    cases s
    exact this
  | none =>
    have hout : k ∉ ks := fun z => by
      obtain ⟨e, he, hp⟩ := (found_iff el pm k).mpr z
      have := List.findIdx?_eq_none_iff.mp hr e he
      rw [hp] at this
      cases this
    have gw : ∀ (b : Bool) (s₁ : Shared) (Q' : Unit → Shared → Prop), Q' () s₁ → wpAny (model prog w) A (match b with | true => rule "set.scan.the-table-gave-way" | false => pure ()) Q' E s₁ :=
      fun b s₁ Q' h => by cases b <;> first | exact wpAny_pure h | exact wpAny_rule h
    have hperm := layNew_perm t es ((sKind prog w).hash k) (.str k tk)
    have hfits := layNew_fits t es ((sKind prog w).hash k) (.str k tk)
    have hled := lay_led t es ((sKind prog w).hash k) (.str k tk)
    have hpl := lay_plain t es ((sKind prog w).hash k) (.str k tk)
    dsimp only
    generalize layNew t es ((sKind prog w).hash k) (.str k tk) = Lr at hperm hfits hled hpl ⊢
    obtain ⟨es1, t1, wd, gave⟩ := Lr
    dsimp only at hperm hfits hled hpl ⊢
    rw [Array.toList_push] at hperm
    have el1 : ElemsOf (sKind prog w) es1.toList := (el.push hk rfl).perm hperm
    have pm1 : (es1.toList.map fun e => txtOf e.2).Perm (ks ++ [k]) := (hperm.map _).trans (by
      rw [List.map_append]
      exact pm.append_right _)
    have sz1 : es1.size = es.size + 1 := by rw [← Array.length_toList, hperm.length_eq, List.length_append, Array.length_toList]; rfl
    have few1 : es1.size < scanBound := by omega
    have nd1 : (ks ++ [k]).Nodup := List.nodup_append.mpr ⟨nd, List.pairwise_singleton _ k, fun x hx y hy z => hout (by rw [← List.mem_singleton.mp hy, ← z]; exact hx)⟩
    have fz : ∀ {n : Nat}, n < scanBound → n ≤ sizeLine := fun h => fits_of_scanBound h
    refine wpAny_bind (gw _ _ _ ?_)
    -- the rest, for a table that says: not by value
    have rest : ∀ t2 : SetTable, t2.fits es1.size = true → t2.led = t.led → t2.plain = false → wpAny (model prog w) A (do
        storeSet a es1 t2
        if (!wd && t2.tooFull) = true then do
            (match (relayAll t2 es1 (SetTable.grown es1.size)).2.2 with | true => rule "set.scan.the-table-gave-way" | false => pure ())
            storeSet a (relayAll t2 es1 (SetTable.grown es1.size)).1 (relayAll t2 es1 (SetTable.grown es1.size)).2.1
            pure (some true)
          else pure (some true)) (fun r s' => ∃ h', r = some true ∧ s' = { s with heap := h' } ∧ Heap.SameBut a s.heap h' ∧ TxtSet prog w h' a (ks ++ [k])) E s := by
      intro t2 f2 l2 p2
      refine wpAny_bind (wpAny_storeSet_of ho rfl ?_ (fz few1))
      have g1 : (s.heap.update a (Obj.putSet es1 t2)).get? a = some { cls := .type "set", dict := none, data := .set es1 (ep + 1) t2, slots := #[] } := by
        have z := Heap.get?_update_self (Obj.putSet es1 t2) ho (by rw [putSet_of es1 t2 rfl]; rfl)
        rw [putSet_of es1 t2 rfl] at z
        exact z
      have sb1 := Heap.SameBut.update s.heap a (Obj.putSet es1 t2)
      split
      · have hp2 := relayAll_perm t2 es1 (SetTable.grown es1.size)
        have f3 := relayAll_fits t2 es1 (SetTable.grown es1.size)
        have l3 := relay_led t2 es1 (SetTable.grown es1.size)
        have p3 := relay_plain t2 es1 (SetTable.grown es1.size) p2
        generalize relayAll t2 es1 (SetTable.grown es1.size) = Rl at hp2 f3 l3 p3 ⊢
        obtain ⟨es2, t3, gave2⟩ := Rl
        dsimp only at hp2 f3 l3 p3 ⊢
        have sz2 : es2.size = es1.size := by rw [← Array.length_toList, hp2.length_eq, Array.length_toList]
        refine wpAny_bind (gw _ _ _ (wpAny_bind (wpAny_storeSet_of g1 rfl (wpAny_pure ⟨_, rfl, rfl, sb1.trans (Heap.SameBut.update _ a _), es2, ep + 2, t3, ?_, el1.perm hp2, (hp2.map _).trans pm1, nd1, by omega, f3, (l3.trans l2).trans led, fun _ => p3⟩) (fz (by omega)))))
        have z := Heap.get?_update_self (Obj.putSet es2 t3) g1 (by rw [putSet_of es2 t3 rfl]; rfl)
        rw [putSet_of es2 t3 rfl] at z
        exact z
      · exact wpAny_pure ⟨_, rfl, rfl, sb1, es1, ep + 1, t2, g1, el1, pm1, nd1, few1, f2, l2.trans led, fun _ => p2⟩
    have fin : ∀ r s', (∃ h', r = some true ∧ s' = { s with heap := h' } ∧ Heap.SameBut a s.heap h' ∧ TxtSet prog w h' a (ks ++ [k])) →
        wpAny (model prog w) A (match r with | some added => pure added | none => setAddHashedIn a (.str k tk) ((sKind prog w).hash k) 99999) Q E s' := by
      rintro r s' ⟨h', rfl, rfl, sb, tx⟩
      exact wpAny_pure (q true h' sb (by rw [if_neg hout]; exact tx))
    by_cases htp : t1.plain = true
    · rw [if_pos htp, hashByValue_scannable 8 (x := .str k tk) rfl]
      refine wpAny_bind (wpAny_pure ?_)
      exact wpAny_mono (rest { t1 with plain := false } (SetTable.fits_plain_off hfits) hled rfl) fin fun _ _ z => z
    · rw [if_neg htp]
      refine wpAny_bind (wpAny_pure ?_)
      exact wpAny_mono (rest t1 hfits hled (by simpa using htp)) fin fun _ _ z => z
end
/-! #### set(xs) -/
def stepK (ks : List Str) (k : Str) : List Str := if k ∈ ks then ks else ks ++ [k]
/-- the texts met so far, each once -/
def metK (val : Nat → Str) : Nat → List Str
  | 0 => []
  | i + 1 => stepK (metK val i) (val i)
theorem metK_len (val : Nat → Str) : ∀ i, (metK val i).length ≤ i
  | 0 => Nat.le_refl _
  | i + 1 => by
    have := metK_len val i
    show (stepK (metK val i) (val i)).length ≤ i + 1
    unfold stepK
    split
    · omega
    · rw [List.length_append]; show _ + 1 ≤ _; omega
theorem mem_stepK {ks : List Str} {k x : Str} : x ∈ stepK ks k ↔ x ∈ ks ∨ x = k := by
  unfold stepK
  split
  · rename_i h
    exact ⟨.inl, fun z => z.elim id fun e => by rw [e]; exact h⟩
  · rw [List.mem_append, List.mem_singleton]
theorem mem_metK (val : Nat → Str) (x : Str) : ∀ n, x ∈ metK val n ↔ ∃ i, i < n ∧ val i = x
  | 0 => ⟨fun h => (by cases h), fun ⟨i, h, _⟩ => absurd h (Nat.not_lt_zero _)⟩
  | n + 1 => by
    show x ∈ stepK (metK val n) (val n) ↔ _
    rw [mem_stepK, mem_metK val x n]
    constructor
    · rintro (⟨i, h, e⟩ | rfl)
      · exact ⟨i, Nat.lt_succ_of_lt h, e⟩
      · exact ⟨n, Nat.lt_succ_self n, rfl⟩
    · rintro ⟨i, h, e⟩
      rcases Nat.lt_succ_iff_lt_or_eq.mp h with h | rfl
      · exact .inl ⟨i, h, e⟩
      · exact .inr e.symm
theorem TxtSet.moved {prog : Program} {w : World} {h h' : Heap} {a : Addr} {ks : List Str} (x : TxtSet prog w h a ks) (k : ∀ o, h.get? a = some o → h'.get? a = some o) : TxtSet prog w h' a ks :=
  let ⟨es, ep, t, e, r1, r2, r3, r4, r5, r6, r7⟩ := x
  ⟨es, ep, t, k _ e, r1, r2, r3, r4, r5, r6, r7⟩
section
variable {prog : Program} {w : World} {A : Around} {R : Result → Shared → Prop} {I : Addr} {fp wr : List Addr} {G : Array GenState → Array GenState → Prop} {n : Nat} {P : Nat → Value → Prop} {St : Nat → Shared → Prop}
theorem upd_loop (W : WalksS prog w A.in1 I fp wr G n P St) (S : Addr) (apart : S ∉ fp) (val : Nat → Str) (hval : ∀ i v, P i v → ∃ t, v = .str (val i) t) (hb : n + 1 < scanBound) (k : Nat) :
    ∀ (i : Nat) (s : Shared), n - i = k → i ≤ n → St i s → TxtSet prog w s.heap S (metK val i) →
      (∀ s', Moved (S :: wr) G s s' → TxtSet prog w s'.heap S (metK val n) → R (.ok (.ret .none)) s') →
      codeAny (model prog w) A (.builtin "set.update.loop" ⟨[.ref S, .ref I], []⟩) R s := by
  have nw : S ∉ wr := fun z => apart (W.sub _ z)
  have sub : ∀ b ∈ wr, b ∈ S :: wr := fun b z => List.mem_cons_of_mem _ z
  induction k with
  | zero =>
    intro i s hk hi st tx fin
    obtain rfl : i = n := by omega
    refine codeAny_builtin F.entry_set_update_loop ?_
    rw [Around.under_plainId F.plain_set_update_loop _]
    show wpAny _ A.in1 (pyNext (.ref I) >>= _) _ _ s
    refine wpAny_bind (W.done s _ _ st fun s' mv => ?_)
    exact wpAny_pure (fin s' (mv.mono sub) (tx.moved fun o e => mv.heap S o nw e))
  | succ k ih =>
    intro i s hk hi st tx fin
    have lt : i < n := by omega
    refine codeAny_builtin F.entry_set_update_loop ?_
    rw [Around.under_plainId F.plain_set_update_loop _]
    show wpAny _ A.in1 (pyNext (.ref I) >>= _) _ _ s
    refine wpAny_bind (W.item i s _ _ lt st fun v s' hP st' mv => ?_)
    obtain ⟨t, rfl⟩ := hval i v hP
    have tx' := tx.moved fun o e => mv.heap S o nw e
    show wpAny _ A.in1 (holding [Value.str (val i) t] (setAdd S (.str (val i) t)) >>= _) _ _ s'
    refine wpAny_bind (wpAny_holding ?_)
    unfold setAdd
    refine wpAny_holding (wpAny_bind ((sKind prog w).pyHash (k := val i) (strKind_is prog w _ _) ?_))
    have ln := metK_len val i
    refine add_txt (s := { s' with toks := s'.toks + 1 }) tx' (by omega) fun _ h' sb tx2 => ?_
    refine wpAny_pure ⟨plainId_quiet F.plain_set_update_loop _, ih (i + 1) _ (by omega) lt (W.frame _ s' _ _ st' (Nat.le_succ _) fun b hb o e => ?_) tx2 fun s'' mv2 tx3 => ?_⟩
    · rw [sb.2 b fun z : b = S => apart (z ▸ hb)]; exact e
    · refine fin s'' (Moved.trans W.gtrans ((mv.mono sub).then_heap (Nat.le_succ _) fun b o hb e => ?_) mv2) tx3
      rw [sb.2 b fun z : b = S => hb (z ▸ List.mem_cons_self)]; exact e
end
/-- the set before anything is in it -/
abbrev setO (w : World) : Obj := { cls := .type "set", dict := none, data := .set #[] 0 (.fresh 0 0 (!byText w)) }
section
variable {prog : Program} {w : World} {A : Around} {E : Value → Shared → Prop} {s : Shared}
theorem new_txt (a : Value) {Q₁ : Value → Shared → Prop} (h : Q₁ (.ref s.heap.objs.size) { s with heap := s.heap.push (setO w) }) :
    codeAny (model prog w) A (.call (.builtin "set.__new__") ⟨[.type "set", a], []⟩) (wants Q₁ E) s := by
  refine codeAny_of_tree (show wpAny _ A.in1 (do checkBuiltinCall "set.__new__" ⟨[.type "set", a], []⟩; again (.builtin "set.__new__" ⟨[.type "set", a], []⟩)) _ _ s from ?_)
  refine wpAny_bind (wpAny_of_eq (F.newCall_set_1 a) (wpAny_pure ⟨plainId_quiet F.plain_set_new _, codeAny_builtin F.entry_set_new ?_⟩))
  rw [Around.under_plainId F.plain_set_new _]
  unfold Builtin.«set.__new__» Builtin.Frozenset.newClass
  have sself := sub_set_self
  obtain ⟨hp, g, d, tk, os⟩ := s
  dsimp only
  wp_walk
  refine wpAny_askSetting (wpAny_pure ?_)
  dsimp only
  simp only [newObj]
  exact wpAny_bind (wpAny_alloc (wpAny_pure (wpAny_pure h)))
theorem TxtSet.nil {h : Heap} {a : Addr} (e : h.get? a = some (setO w)) : TxtSet prog w h a [] := ⟨#[], 0, _, e, (fun _ z => by simp at z), List.Perm.refl _, List.nodup_nil, by decide, by rfl, rfl, fun z => absurd rfl z⟩
end
end NC
/-! ### set(xs), xs a list of texts -/
namespace NC
open PySem PySem.Spec PyProof.Rows
section
variable {prog : Program} {w : World} {A : Around} {E : Value → Shared → Prop} {s : Shared}
set_option maxRecDepth 100000 in
set_option maxHeartbeats 4000000 in
theorem call_set_txt {l : Addr} {items : Array Value} {val : Nat → Str} {Q : Value → Shared → Prop} (hh : A.handled = none) (hl : s.heap.IsList l items) (hv : ∀ (i : Nat) (v : Value), items[i]? = some v → ∃ t, v = Value.str (val i) t) (hb : items.size + 1 < scanBound)
    (h : ∀ (h' : Heap) (tk : Nat), TxtSet prog w h' s.heap.objs.size (metK val items.size) → (∀ b o, b < s.heap.objs.size → s.heap.get? b = some o → h'.get? b = some o) → Q (.ref s.heap.objs.size) { s with heap := h', toks := tk }) :
    wpAny (model prog w) A (call (.type "set") [.ref l]) Q E s := by
  obtain ⟨_, _, m0⟩ := F.called_set.mro
  have m1 := F.called_set.made
  have m2 := F.called_set.sub
  refine wpAny_call (codeAny_of_tree (show wpAny _ _ (callAny (.type "set") _) _ _ _ from ?_))
  refine wpAny_pure ⟨Code.quiet_builtin _ (by decide +kernel), codeAny_builtin F.entry_type_call ?_⟩
  rw [Around.under_plain (weight_type_call_type "set" [.ref l] []) rfl]
  have m3 := F.called_set.notType
  have m4 := F.called_set.canCreate
  have m5 := F.typeCall_set_1 (.ref l)
  repeat (any_goals (first | assumption | wp_step))
  refine codeAny_mono (new_txt (.ref l) (E := E) (Q₁ := fun obj s₁ => obj = .ref s.heap.objs.size ∧ s₁ = { s with heap := s.heap.push (setO w) }) ⟨rfl, rfl⟩) fun r s₁ hr => ?_
  cases r with
  | error e => exact hr
  | ok fl =>
    cases fl with
    | ret obj =>
      obtain ⟨rfl, rfl⟩ := hr
      have gS : (s.heap.push (setO w)).get? s.heap.objs.size = some (setO w) := Heap.get?_push_size _ rfl
      have hT : Shared.TypeIs { s with heap := s.heap.push (setO w) } (.ref s.heap.objs.size) "set" := ⟨_, gS, rfl⟩
      have m6 := F.called_set.init.lookup
      have m7 := F.called_set.init.bind (.ref s.heap.objs.size)
      repeat (any_goals (first | assumption | wp_step))
      refine codeAny_mono (codeAny_call_builtin (R := wants (fun r s₂ => r = .none ∧ ∃ h' tk, s₂ = { s with heap := h', toks := tk } ∧ TxtSet prog w h' s.heap.objs.size (metK val items.size) ∧
          (∀ b o, b < s.heap.objs.size → s.heap.get? b = some o → h'.get? b = some o)) E) F.called_set.init.plain F.entry_set_init (check_set_init_1 hT ?_)) fun r₂ s₂ hr₂ => ?_
      · obtain ⟨⟨c1, c2, c3, c4⟩, ol, q1, nl, q2⟩ := hl
        simp only at q1 q2
        subst q1 q2
        have ol' : (s.heap.push (setO w)).get? l = some { cls := .type "list", dict := c2, data := .seq items nl, slots := c4 } := Heap.get?_push_of_some _ ol
        have n1 := F.sub_list_set
        have n2 := F.sub_list_frozenset
        have n3 : (Value.type "list" == Value.type "dict") = false := by decide
        have hl1 : (s.heap.push (setO w)).IsList l items := ⟨_, ol', rfl, nl, rfl⟩
        unfold Builtin.«set.__init__» noKeywords Builtin.Frozenset.updateFrom
        generalize hPI : pyIter = PI
        wp_walk
        subst hPI
        refine wpAny_pyIter_list hl1 (wpAny_bind (wpAny_runValue ?_))
        have lS : l < s.heap.objs.size := Heap.lt_size ol
        have hh3 : A.in1.in1.in1.handled = none := by simp [hh]
        have n4 : l ≠ (s.heap.push (setO w)).objs.size := by rw [Heap.size_push]; exact Nat.ne_of_lt (Nat.lt_succ_of_lt lS)
        have n5 : s.heap.objs.size ∉ [(s.heap.push (setO w)).objs.size, l] := by
          rw [Heap.size_push]
          simp only [List.mem_cons, List.not_mem_nil, or_false, not_or]
          exact ⟨Nat.ne_of_lt (Nat.lt_succ_self _), Nat.ne_of_gt lS⟩
        refine upd_loop ((Walks.list hh3 _ l n4 items).toS) s.heap.objs.size n5 val hv hb (items.size - 0) 0 _ rfl (Nat.zero_le _) ⟨⟨_, Heap.get?_push_size _ rfl, rfl, rfl⟩, hl1.push _⟩ (TxtSet.nil (Heap.get?_push_of_some _ gS)) ?_
        intro s' mv tx
        obtain ⟨h', g', d', tk', os'⟩ := s'
        obtain rfl : g' = s.gens := mv.gens
        obtain rfl : d' = s.drawn := mv.drawn
        obtain rfl : os' = s.os := mv.os
        refine wpAny_pure (show wpAny _ _ (ret Value.none) _ _ _ from wpAny_pure ⟨rfl, h', tk', rfl, tx, fun b o hb e => ?_⟩)
        refine mv.heap b o ?_ (Heap.get?_push_of_some _ (Heap.get?_push_of_some _ e))
        rw [Heap.size_push]
        simp only [List.mem_cons, List.not_mem_nil, or_false, not_or]
        exact ⟨Nat.ne_of_lt hb, Nat.ne_of_lt (Nat.lt_succ_of_lt hb)⟩
      · cases r₂ with
        | error e => exact hr₂
        | ok fl₂ =>
          cases fl₂ with
          | ret r =>
            obtain ⟨rfl, h', tk, rfl, tx, kp⟩ := hr₂
            repeat (any_goals (first | assumption | wp_step))
            exact h _ _ tx kp
          | _ => exact hr₂.elim
    | _ => exact hr.elim
end
end NC
/-! ### walking over a set of texts -/
namespace NC
open PySem PySem.Spec PyProof.Rows
section
variable {M : Model} {A : Around} {E : Value → Shared → Prop} {s : Shared}
theorem wp_choose {src : Source} {n : Nat} {Q : Nat → Shared → Prop} (hn : n ≠ 0) (h : ∀ i d, i < n → Q i { s with drawn := d }) : wpAny M A (choose src n) Q E s :=
  fun _ _ _ => ⟨hn, h _ _ (Nat.mod_lt _ (Nat.pos_of_ne_zero hn))⟩
theorem erase_perm {α : Type} : ∀ (xs : List α) (i : Nat) (x : α), xs[i]? = some x → (x :: xs.eraseIdx i).Perm xs
  | [], _, _, h => by simp at h
  | y :: ys, 0, x, h => by cases h; exact List.Perm.refl _
  | y :: ys, i + 1, x, h => ((List.Perm.swap y x _)).trans ((erase_perm ys i x h).cons y)
theorem draw_order {α : Type} : ∀ (n : Nat) (xs : List α) (s : Shared) (Q : List α → Shared → Prop), n = xs.length → (∀ l d, l.Perm xs → Q l { s with drawn := d }) → wpAny M A (drawOrder n xs) Q E s
  | 0, [], s, Q, _, h => by
    unfold drawOrder
    exact wpAny_pure (h [] s.drawn (List.Perm.refl _))
  | 0, _ :: _, _, _, e, _ => by cases e
  | n + 1, [], _, _, e, _ => by cases e
  | n + 1, x :: xs, s, Q, e, h => by
    unfold drawOrder
    refine wpAny_bind (wp_choose (by simp) fun i d hi => ?_)
    have he : (x :: xs)[i]? = some (x :: xs)[i] := List.getElem?_eq_getElem hi
    have pm := erase_perm (x :: xs) i _ he
    rw [he]
    dsimp only
    refine wpAny_bind (draw_order n _ _ _ (by rw [List.length_eraseIdx_of_lt hi]; simpa using e) fun l d' p => wpAny_pure (h _ d' ((p.cons _).trans pm)))
end
abbrev setIt (first : Value) (i : Nat) (a : Addr) (n ep : Nat) : Obj := { cls := .type "set_iterator", data := .fields #[first, .int i 0, .ref a, .int n 0, .int ep 0] }
namespace FS
theorem slot_next : Slot "set_iterator" "__next__" "set_iterator.__next__" :=
  .of (owner := "set_iterator") (n := "__next__") (by rw [typeLookup_type, builtinLookup_eq_fast]; kernel_rfl) (by decide +kernel) (by decide +kernel) (by decide +kernel)
    (by first | exact .inl (by decide +kernel) | exact .inr (by decide +kernel)) (by rw [isSubtype_type]; kernel_rfl)
theorem entry_next : entryFor table "set_iterator.__next__" = some Builtin.«set_iterator.__next__» := entryFor_of_tree (by kernel_rfl)
theorem slot_self : Slot "set_iterator" "__iter__" "set_iterator.__iter__" :=
  .of (owner := "set_iterator") (n := "__iter__") (by rw [typeLookup_type, builtinLookup_eq_fast]; kernel_rfl) (by decide +kernel) (by decide +kernel) (by decide +kernel)
    (by first | exact .inl (by decide +kernel) | exact .inr (by decide +kernel)) (by rw [isSubtype_type]; kernel_rfl)
theorem entry_iter : entryFor table "set.__iter__" = some Builtin.«frozenset.__iter__» := entryFor_alias (id' := "frozenset.__iter__") (by kernel_rfl) rfl (by decide +kernel) (by kernel_rfl)
theorem owner : Manifest.owners.lookup (String.ofList ['r', 'o', 't', 'a', 'r', 'e', 't', 'i', '_', 't', 'e', 's'].reverse) = some Manifest.sig_set_iterator := by kernel_rfl
theorem args_next (a : Value) : argsOk "set_iterator.__next__" ⟨[a], []⟩ := by
  unfold argsOk
  rw [signature?_of (id := "set_iterator.__next__") (n := ['_', '_', 't', 'x', 'e', 'n', '_', '_']) (o := ['r', 'o', 't', 'a', 'r', 'e', 't', 'i', '_', 't', 'e', 's']) (by kernel_rfl) owner]
  kernel_rfl
theorem args_self (a : Value) : argsOk "set_iterator.__iter__" ⟨[a], []⟩ := by
  unfold argsOk
  rw [signature?_of (id := "set_iterator.__iter__") (n := ['_', '_', 'r', 'e', 't', 'i', '_', '_']) (o := ['r', 'o', 't', 'a', 'r', 'e', 't', 'i', '_', 't', 'e', 's']) (by kernel_rfl) owner]
  kernel_rfl
theorem entry_self : entryFor table "set_iterator.__iter__" = some Builtin.«dict_keyiterator.__iter__» := entryFor_alias (id' := "dict_keyiterator.__iter__") (by kernel_rfl) rfl (by decide +kernel) (by kernel_rfl)
end FS
abbrev setObj (es : Array (Int × Value)) (ep : Nat) (t : SetTable) : Obj := { cls := .type "set", dict := none, data := .set es ep t, slots := #[] }
theorem pick_go {α : Type} (next : Nat → Nat) : ∀ (fuel k : Nat) (left : List α) (out : Array α), fuel = left.length → (pickOrder.go next fuel k left out).toList.Perm (out.toList ++ left)
  | 0, _, [], out, _ => by unfold pickOrder.go; rw [List.append_nil]
  | 0, _, _ :: _, _, e => by cases e
  | fuel + 1, _, [], _, e => by cases e
  | fuel + 1, k, x :: xs, out, e => by
    unfold pickOrder.go
    have hi : next k % (x :: xs).length < (x :: xs).length := Nat.mod_lt _ (by simp)
    have he : (x :: xs)[next k % (x :: xs).length]? = some (x :: xs)[next k % (x :: xs).length] := List.getElem?_eq_getElem hi
    rw [he]
    dsimp only
    refine (pick_go next fuel (k + 1) _ _ (by rw [List.length_eraseIdx_of_lt hi]; simpa using e)).trans ?_
    rw [Array.toList_push, List.append_assoc]
    exact (erase_perm _ _ _ he).append_left _
theorem pick_perm {α : Type} (next : Nat → Nat) (xs : Array α) : (pickOrder next xs).toList.Perm xs.toList := by
  have := pick_go next xs.size 0 xs.toList #[] (by rw [Array.length_toList])
  simpa [pickOrder] using this
/-- how a walk over a set stands: what comes, in which order -/
inductive SetAt (w : World) (h : Heap) (I a T : Addr) (es : Array (Int × Value)) (ep : Nat) (t : SetTable) (vals : List Value) (i : Nat) : Prop where
  | txt (b : byText w = true) (e : h.get? I = some (setIt (.int 0 0) i a es.size ep)) (v : vals = (pickOrder (w.params.setOrder a ep) es).toList.map (·.2))
  | drw (b : byText w = false) (ord : List Nat) (e : h.get? I = some (setIt (.ref T) i a es.size ep)) (tp : h.IsTuple T (ord.map fun (j : Nat) => Value.int j 0).toArray) (pm : ord.Perm (List.range es.size)) (v : vals = ord.map fun j => (es.getD j (0, .none)).2)
  | few (b : byText w = false) (sl : Nat) (n1 : es.size ≤ 1) (e : h.get? I = some (setIt (.int sl 0) i a es.size ep)) (v : vals = es.toList.map (·.2)) (p : (i = 0 ∧ sl = 0) ∨ (i = es.size ∧ ∀ j, t.place[0]? = some j → j < sl))
theorem getD_range (es : Array (Int × Value)) : (List.range es.size).map (fun j => (es.getD j (0, .none)).2) = es.toList.map (·.2) := by
  apply List.ext_getElem
  · simp
  · intro i h1 h2
    have hi : i < es.size := by simpa using h1
    simp [Array.getD, hi]
theorem SetAt.perm {w : World} {h : Heap} {I a T : Addr} {es : Array (Int × Value)} {ep : Nat} {t : SetTable} {vals : List Value} {i : Nat} (x : SetAt w h I a T es ep t vals i) : vals.Perm (es.toList.map (·.2)) := by
  cases x with
  | txt b e v => rw [v]; exact (pick_perm _ _).map _
  | drw b ord e tp pm v => rw [v, ← getD_range]; exact pm.map _
  | few b sl n1 e v p => rw [v]
theorem SetAt.move {w : World} {h h' : Heap} {I a T : Addr} {es : Array (Int × Value)} {ep : Nat} {t : SetTable} {vals : List Value} {i : Nat} (x : SetAt w h I a T es ep t vals i) (k : ∀ b ∈ [I, a, T], ∀ o, h.get? b = some o → h'.get? b = some o) : SetAt w h' I a T es ep t vals i := by
  cases x with
  | txt b e v => exact .txt b (k I (by simp) _ e) v
  | drw b ord e tp pm v => exact .drw b ord (k I (by simp) _ e) (let ⟨o, ho, r⟩ := tp; ⟨o, k T (by simp) _ ho, r⟩) pm v
  | few b sl n1 e v p => exact .few b sl n1 (k I (by simp) _ e) v p
section
variable {prog : Program} {w : World} {A : Around} {E : Value → Shared → Prop} {s : Shared} {I a T : Addr} {es : Array (Int × Value)} {ep : Nat} {t : SetTable} {vals : List Value} {i : Nat}
theorem SetAt.ty (x : SetAt w s.heap I a T es ep t vals i) : s.TypeIs (.ref I) "set_iterator" := by
  cases x with
  | txt b e v => exact ⟨_, e, rfl⟩
  | drw b ord e tp pm v => exact ⟨_, e, rfl⟩
  | few b sl n1 e v p => exact ⟨_, e, rfl⟩
theorem by_text {Q : Bool → Shared → Prop} (h : Q (byText w) s) : wpAny (model prog w) A setsByText Q E s := by
  unfold setsByText
  exact wpAny_bind (wpAny_askSetting (wpAny_pure h))
theorem set_walk {Q : Array (Int × Value) → Shared → Prop} (ho : s.heap.get? a = some (setObj es ep t)) (hf : t.fits es.size = true) (b : byText w = true) (h : Q (pickOrder (w.params.setOrder a ep) es) s) : wpAny (model prog w) A (setWalk a) Q E s := by
  unfold setWalk
  refine wpAny_bind (wpAny_setState_of ho rfl hf (wpAny_bind (by_text ?_)))
  rw [b]
  exact wpAny_bind (wpAny_askSetting (wpAny_pure h))
/-- what the table's own next gives, by the text -/
theorem next_txt {Q : Option (Value × Nat) → Shared → Prop} (ho : s.heap.get? a = some (setObj es ep t)) (hf : t.fits es.size = true) (b : byText w = true) (h : Q (((pickOrder (w.params.setOrder a ep) es)[i]?).map fun e => (e.2, 0)) s) : wpAny (model prog w) A (setNext a 0 i ep) Q E s := by
  unfold setNext
  refine wpAny_bind (wpAny_setState_of ho rfl hf (wpAny_bind (by_text ?_)))
  rw [b]
  dsimp only
  rw [if_pos rfl, if_neg (by simp)]
  exact wpAny_bind (set_walk ho hf b (wpAny_pure h))
theorem below0 {p : Array Nat} {j : Nat} (h : p.size ≤ 1) (hj : ∀ k, p[0]? = some k → k < j) : SetTable.below p j = p.size := by
  unfold SetTable.below
  match hs : p.size, h with
  | 0, _ => rfl
  | 1, _ =>
    have hlt : 0 < p.size := by omega
    have e : p[0]? = some p[0] := Array.getElem?_eq_getElem hlt
    have q := hj _ e
    unfold SetTable.below.go
    rw [if_pos (by decide)]
    dsimp only
    have g : p.getD ((0 + 1) / 2) j = p[0] := by
      show p.getD 0 j = _
      rw [Array.getD_eq_getD_getElem?, e]
      rfl
    rw [g, if_pos q]
    rfl
theorem below1 {p : Array Nat} (h : p.size ≤ 1) : SetTable.below p 0 = 0 := by
  unfold SetTable.below
  match hs : p.size, h with
  | 0, _ => rfl
  | 1, _ =>
    unfold SetTable.below.go
    rw [if_pos (by decide), if_neg (Nat.not_lt_zero _)]
    rfl
/-- what the table's own next gives, of a set of at most one -/
theorem next_few {sl : Nat} {Q : Option (Value × Nat) → Shared → Prop} (ho : s.heap.get? a = some (setObj es ep t)) (hf : t.fits es.size = true) (b : byText w = false) (n1 : es.size ≤ 1) (led : t.led = true)
    (h : Q (match es[SetTable.below t.place sl]?, t.place[SetTable.below t.place sl]? with | some (_, x), some j => some (x, j + 1) | _, _ => none) s) : wpAny (model prog w) A (setNext a sl i ep) Q E s := by
  unfold setNext
  refine wpAny_bind (wpAny_setState_of ho rfl hf (wpAny_bind (by_text ?_)))
  rw [b]
  dsimp only
  rw [if_neg (by simp)]
  split
  · rename_i z
    have z' : (!t.plain && decide (es.size > 1)) = true := z
    simp only [Bool.and_eq_true, decide_eq_true_eq] at z'
    omega
  · refine wpAny_bind (m := if (!t.led && !es.isEmpty) = true then unsupported "set:maker-not-led" else pure ()) ?_
    rw [led, if_neg (by simp)]
    exact wpAny_pure (wpAny_pure h)
theorem next_drw {j : Nat} {x : Int × Value} {Q : Value → Shared → Prop} (ho : s.heap.get? a = some (setObj es ep t)) (hf : t.fits es.size = true) (hx : es[j]? = some x) (h : Q x.2 s) : wpAny (model prog w) A (setNextDrawn a j ep) Q E s := by
  unfold setNextDrawn
  refine wpAny_bind (wpAny_setState_of ho rfl hf ?_)
  dsimp only
  rw [if_neg (by simp), hx]
  exact wpAny_pure h
theorem fits_place (hf : t.fits es.size = true) : t.place.size = es.size := by
  simp only [SetTable.fits, Bool.and_eq_true, beq_iff_eq] at hf
  exact hf.1
theorem put_at {h : Heap} {f f' : Value} {n : Nat} (e : h.get? I = some (setIt f i a n ep)) : (h.update I (Obj.mapFields (·.setIfInBounds 0 f'))).get? I = some (setIt f' i a n ep) := Heap.get?_update_self _ e rfl
theorem put_on {h : Heap} {f : Value} {n : Nat} (e : h.get? I = some (setIt f i a n ep)) : (h.update I (Obj.mapFields (·.setIfInBounds 1 (rawInt ((i : Int) + 1))))).get? I = some (setIt f (i + 1) a n ep) := Heap.get?_update_self _ e rfl
theorem set_item {v : Value} {Q : Option Value → Shared → Prop} (ho : s.heap.get? a = some (setObj es ep t)) (hf : t.fits es.size = true) (led : byText w = false → t.led = true) (nT : T ≠ I) (x : SetAt w s.heap I a T es ep t vals i) (hv : vals[i]? = some v)
    (q : ∀ h', Heap.SameBut I s.heap h' → SetAt w h' I a T es ep t vals (i + 1) → Q (some v) { s with heap := h' }) : wpAny (model prog w) A (pyNext (.ref I)) Q E s := by
  unfold pyNext
  refine wpAny_bind (wpAny_attempt (wpAny_callSpecial?_slot (name := Str.ofString "__next__") x.ty FS.slot_next (wpAny_call_entry FS.slot_next x.ty FS.entry_next ?_ (FS.args_next _))))
  show wpAny _ _ (fieldsOf (.ref I) >>= _) _ _ s
  have hlt : i < vals.length := (List.getElem?_eq_some_iff.mp hv).1
  have hlen : vals.length = es.size := by rw [x.perm.length_eq, List.length_map, Array.length_toList]
  cases x with
  | txt b e v0 =>
    refine wpAny_bind (wpAny_fieldsOf e rfl ?_)
    dsimp only
    refine wpAny_bind (wpAny_setEntries_of ho rfl hf ?_)
    rw [if_neg (by simp)]
    refine wpAny_bind (next_txt ho hf b ?_)
    have hx : ∃ y : Int × Value, (pickOrder (w.params.setOrder a ep) es)[i]? = some y ∧ y.2 = v := by
      rw [v0, List.getElem?_map, Array.getElem?_toList] at hv
      cases hp : (pickOrder (w.params.setOrder a ep) es)[i]? with
      | none => rw [hp] at hv; cases hv
      | some y => rw [hp] at hv; exact ⟨y, rfl, Option.some.inj hv⟩
    obtain ⟨y, hy, rfl⟩ := hx
    show wpAny _ _ (match Option.map (fun e => (e.2, 0)) (pickOrder (w.params.setOrder a ep) es)[i]? with | some (x, next) => _ | none => _) _ _ s
    rw [hy]
    dsimp only [Option.map]
    refine wpAny_bind (wpAny_setField e rfl (by simp) (wpAny_bind (wpAny_setField (put_at e) rfl (by simp) (wpAny_pure ⟨_, rfl, wpAny_pure (q _ ((Heap.SameBut.update ..).trans (Heap.SameBut.update ..)) (.txt b (put_on (put_at e)) v0))⟩))))
  | drw b ord e tp pm v0 =>
    obtain ⟨o, hoT, hcT, nTl, hdT⟩ := id tp
    refine wpAny_bind (wpAny_fieldsOf e rfl ?_)
    dsimp only
    refine wpAny_bind (wpAny_setEntries_of ho rfl hf ?_)
    rw [if_neg (by simp)]
    refine wpAny_bind (wpAny_seqItems hoT hdT ?_)
    rw [v0, List.getElem?_map] at hv
    cases hj : ord[i]? with
    | none => rw [hj] at hv; cases hv
    | some j =>
      rw [hj] at hv
      have hv : (es.getD j (0, .none)).2 = v := Option.some.inj hv
      have hjr : j < es.size := List.mem_range.mp (pm.mem_iff.mp (List.mem_of_getElem? hj))
      have hx : es[j]? = some es[j] := Array.getElem?_eq_getElem hjr
      have hg : es.getD j (0, .none) = es[j] := by rw [Array.getD_eq_getD_getElem?, hx]; rfl
      rw [hg] at hv
      subst hv
      show wpAny _ _ (match (ord.map fun (j : Nat) => Value.int j 0).toArray[i]? with | some (.int place _) => _ | some _ => _ | none => _) _ _ s
      have hp : (ord.map fun (j : Nat) => Value.int j 0).toArray[i]? = some (.int j 0) := by rw [List.getElem?_toArray, List.getElem?_map, hj]; rfl
      rw [hp]
      dsimp only
      refine wpAny_bind (next_drw ho hf hx (wpAny_bind (wpAny_setField e rfl (by simp) (wpAny_pure ⟨_, rfl, wpAny_pure (q _ (Heap.SameBut.update ..) (.drw b ord (put_on e) ?_ pm v0))⟩))))
      exact ⟨o, (Heap.get?_update_other _ _ nT.symm).trans hoT, hcT, nTl, hdT⟩
  | few b sl n1 e v0 p =>
    have hpl := fits_place hf
    rcases p with ⟨rfl, rfl⟩ | ⟨rfl, _⟩
    · refine wpAny_bind (wpAny_fieldsOf e rfl ?_)
      dsimp only
      refine wpAny_bind (wpAny_setEntries_of ho rfl hf ?_)
      rw [if_neg (by simp)]
      have h1 : es.size = 1 := by omega
      have hx : es[0]? = some es[0] := Array.getElem?_eq_getElem (by omega)
      have hj : t.place[0]? = some t.place[0] := Array.getElem?_eq_getElem (by omega)
      have hvv : es[0].2 = v := by
        rw [v0, List.getElem?_map, Array.getElem?_toList, hx] at hv
        exact Option.some.inj hv
      refine wpAny_bind (next_few (sl := 0) ho hf b n1 (led b) ?_)
      rw [below1 (by omega), hx, hj]
      dsimp only
      rw [hvv]
      refine wpAny_bind (wpAny_setField e rfl (by simp) (wpAny_bind (wpAny_setField (put_at e) rfl (by simp) (wpAny_pure ⟨_, rfl, wpAny_pure (q _ ((Heap.SameBut.update ..).trans (Heap.SameBut.update ..)) (.few b _ n1 (put_on (put_at e)) v0 (.inr ⟨by omega, fun k hk => ?_⟩)))⟩))))
      rw [hj] at hk
      cases hk
      exact Nat.lt_succ_self _
    · omega
theorem stop_it {α : Type} {Q : Option Value → Shared → Prop} {R : α → Shared → Prop} (hh : A.handled = none) (q : ∀ h', (∀ b o, s.heap.get? b = some o → h'.get? b = some o) → Q none { s with heap := h' }) :
    wpAny (model prog w) A.in1 (newExc (.type "StopIteration") [] >>= fun e => raiseNew e) R (fun e s' => wpAny (model prog w) A (isInstance e (.type "StopIteration") >>= fun b => if b = true then pure none else throw e) Q E s') s := by
  refine wpAny_bind ?_
  simp only [newExc, newTuple]
  refine wpAny_bind (wpAny_newObj_type (wpAny_bind (m := firstArgMember _ _) (wpAny_of_eq (a := Value.none) (by first | rfl | (simp only [firstArgMember]; rfl)) (wpAny_newObj_type ?_ (by size_fits)))) (by size_fits))
  simp only [raiseNew]
  refine wpAny_bind (wpAny_handled ?_)
  rw [show A.in1.handled = none from hh]
  refine wpAny_bind (wpAny_pure (wpAny_throw (show wpAny _ _ _ _ _ _ from ?_)))
  refine wpAny_bind (wpAny_isInstance (b := true) (show Shared.TypeIs _ _ "StopIteration" from ⟨_, Heap.get?_push_size _ rfl, rfl⟩) isSubtype_stop ?_)
  exact wpAny_pure (q _ fun b o e => Heap.get?_push_of_some _ (Heap.get?_push_of_some _ e))
theorem set_done {Q : Option Value → Shared → Prop} (hh : A.handled = none) (ho : s.heap.get? a = some (setObj es ep t)) (hf : t.fits es.size = true) (led : byText w = false → t.led = true) (x : SetAt w s.heap I a T es ep t vals es.size)
    (q : ∀ h', (∀ b o, b ≠ I → s.heap.get? b = some o → h'.get? b = some o) → Q none { s with heap := h' }) : wpAny (model prog w) A (pyNext (.ref I)) Q E s := by
  unfold pyNext
  refine wpAny_bind (wpAny_attempt (wpAny_callSpecial?_slot (name := Str.ofString "__next__") x.ty FS.slot_next (wpAny_call_entry FS.slot_next x.ty FS.entry_next ?_ (FS.args_next _))))
  show wpAny _ _ (fieldsOf (.ref I) >>= _) _ _ s
  have up : ∀ {h : Heap} {f : Obj → Obj}, (∀ b o, b ≠ I → s.heap.get? b = some o → h.get? b = some o) → ∀ b o, b ≠ I → s.heap.get? b = some o → (h.update I f).get? b = some o := fun k b o n e => (Heap.get?_update_other _ _ n.symm).trans (k b o n e)
  have id0 : ∀ b o, b ≠ I → s.heap.get? b = some o → s.heap.get? b = some o := fun _ _ _ e => e
  cases x with
  | txt b e v0 =>
    refine wpAny_bind (wpAny_fieldsOf e rfl ?_)
    dsimp only
    refine wpAny_bind (wpAny_setEntries_of ho rfl hf ?_)
    rw [if_neg (by simp)]
    refine wpAny_bind (next_txt ho hf b ?_)
    have hx : (pickOrder (w.params.setOrder a ep) es)[es.size]? = none := by
      apply Array.getElem?_eq_none
      have := (pick_perm (w.params.setOrder a ep) es).length_eq
      rw [Array.length_toList, Array.length_toList] at this
      omega
    show wpAny _ _ (match Option.map (fun e => (e.2, 0)) (pickOrder (w.params.setOrder a ep) es)[es.size]? with | some (x, next) => _ | none => _) _ _ s
    rw [hx]
    dsimp only [Option.map]
    exact wpAny_bind (wpAny_setField e rfl (by simp) (stop_it hh fun h' k => q h' fun b o n z => k b o (up id0 b o n z)))
  | drw b ord e tp pm v0 =>
    obtain ⟨o, hoT, hcT, nTl, hdT⟩ := id tp
    refine wpAny_bind (wpAny_fieldsOf e rfl ?_)
    dsimp only
    refine wpAny_bind (wpAny_setEntries_of ho rfl hf ?_)
    rw [if_neg (by simp)]
    refine wpAny_bind (wpAny_seqItems hoT hdT ?_)
    have hl : ord.length = es.size := by rw [pm.length_eq, List.length_range]
    show wpAny _ _ (match (ord.map fun (j : Nat) => Value.int j 0).toArray[es.size]? with | some (.int place _) => _ | some _ => _ | none => _) _ _ s
    have hp : (ord.map fun (j : Nat) => Value.int j 0).toArray[es.size]? = none := by
      rw [List.getElem?_toArray]
      exact List.getElem?_eq_none (by rw [List.length_map]; omega)
    rw [hp]
    dsimp only
    exact wpAny_bind (wpAny_setField e rfl (by simp) (wpAny_bind (wpAny_setField (put_at e) rfl (by simp) (stop_it hh fun h' k => q h' fun b o n z => k b o (up (up id0) b o n z)))))
  | few b sl n1 e v0 p =>
    have hpl := fits_place hf
    refine wpAny_bind (wpAny_fieldsOf e rfl ?_)
    dsimp only
    refine wpAny_bind (wpAny_setEntries_of ho rfl hf ?_)
    rw [if_neg (by simp)]
    refine wpAny_bind (next_few (sl := sl) ho hf b n1 (led b) ?_)
    have hb : SetTable.below t.place sl = es.size := by
      rcases p with ⟨h0, rfl⟩ | ⟨_, h1⟩
      · rw [below1 (by omega), h0]
      · rw [below0 (by omega) h1, hpl]
    rw [hb, show es[es.size]? = none from Array.getElem?_eq_none (Nat.le_refl _)]
    dsimp only
    exact wpAny_bind (wpAny_setField e rfl (by simp) (stop_it hh fun h' k => q h' fun b o n z => k b o (up id0 b o n z)))
theorem set_self {Q : Value → Shared → Prop} (x : SetAt w s.heap I a T es ep t vals i) (q : Q (.ref I) s) : wpAny (model prog w) A (pyIter (.ref I)) Q E s := by
  refine wpAny_pyIter_slot x.ty FS.slot_self (wpAny_call_entry FS.slot_self x.ty FS.entry_self ?_ (FS.args_self _))
  show wpAny _ _ (ret (.ref I)) _ _ s
  exact wpAny_pure ⟨_, rfl, "set_iterator", _, x.ty, FS.slot_next.lookup, q⟩
/-- the walk, as the library asks for it -/
theorem set_walks (hh : A.handled = none) (hf : t.fits es.size = true) (led : byText w = false → t.led = true) (na : a ≠ I) (nT : T ≠ I) (hl : vals.length = es.size) :
    WalksS prog w A I [I, a, T] [I] (fun a b => b = a) es.size (fun i v => vals[i]? = some v) (fun i s => s.heap.get? a = some (setObj es ep t) ∧ SetAt w s.heap I a T es ep t vals i) where
  sub := fun b hb => by rw [List.mem_singleton.mp hb]; exact List.mem_cons_self
  grefl := fun _ => rfl
  gtrans := fun _ _ _ h1 h2 => h2.trans h1
  frame := fun i s h' tk st _ k => ⟨k a (by simp) _ st.1, st.2.move k⟩
  item := fun i s Q E hi st q => by
    obtain ⟨v, hv⟩ : ∃ v, vals[i]? = some v := ⟨_, List.getElem?_eq_getElem (by omega)⟩
    refine set_item st.1 hf led nT st.2 hv fun h' sb x' => q v _ hv ⟨?_, x'⟩ ⟨fun b o n e => ?_, rfl, rfl, rfl, Nat.le_refl _⟩
    · rw [show ({ s with heap := h' } : Shared).heap = h' from rfl, sb.2 a na]
      exact st.1
    · rw [show ({ s with heap := h' } : Shared).heap = h' from rfl, sb.2 b (by simpa using n)]
      exact e
  done := fun s Q E st q => set_done hh st.1 hf led st.2 fun h' k => q _ ⟨fun b o n e => k b o (by simpa using n) e, rfl, rfl, rfl, Nat.le_refl _⟩
  self := fun i s Q E st q => set_self st.2 q
end
section
variable {prog : Program} {w : World} {A : Around} {E : Value → Shared → Prop} {s : Shared} {a : Addr} {es : Array (Int × Value)} {ep : Nat} {t : SetTable}
/-- iter(set) -/
theorem set_iter {Q : Value → Shared → Prop} (ho : s.heap.get? a = some (setObj es ep t)) (hf : t.fits es.size = true) (few : es.size < scanBound) (pl : es.size ≠ 0 → t.plain = false)
    (q : ∀ h' I T vals d, SetAt w h' I a T es ep t vals 0 → I < h'.objs.size → T < h'.objs.size → s.heap.objs.size ≤ I → T ≠ I → (T = a ∨ s.heap.objs.size ≤ T) → (∀ b o, s.heap.get? b = some o → h'.get? b = some o) → Q (.ref I) { s with heap := h', drawn := d }) :
    wpAny (model prog w) A (pyIter (.ref a)) Q E s := by
  have hT : s.TypeIs (.ref a) "set" := ⟨_, ho, rfl⟩
  have ha : a < s.heap.objs.size := Heap.lt_size ho
  refine wpAny_pyIter_slot hT F.slot_set_iter (wpAny_call_entry F.slot_set_iter hT FS.entry_iter ?_ (F.args_set_iter_1 _))
  show wpAny _ _ (Builtin.Frozenset.sizeOf a >>= _) _ _ s
  unfold Builtin.Frozenset.sizeOf
  refine wpAny_bind (wpAny_bind (wpAny_setEntries_of ho rfl hf (wpAny_pure ?_)))
  refine wpAny_bind (m := setDrawn a) ?_
  unfold setDrawn
  refine wpAny_bind (wpAny_setState_of ho rfl hf (wpAny_bind (by_text (wpAny_pure ?_))))
  have fits : es.size ≤ sizeLine := fits_of_scanBound few
  dsimp only
  have wrap : ∀ {first : Value} {s' : Shared} {R : Fin → Shared → Prop}, s'.heap.get? a = some (setObj es ep t) → R (.done (.ret (.ref s'.heap.objs.size))) { s' with heap := s'.heap.push (setIt first 0 a es.size ep) } →
      wpAny (model prog w) A.in1 (setEpoch a >>= fun n => newFields "set_iterator" [first, rawInt 0, .ref a, rawInt es.size, rawInt n] >>= fun v => ret v) R E s' :=
    fun h1 h2 => wpAny_bind (wpAny_setEpoch_of h1 rfl hf (wpAny_bind (wpAny_newObj_type (wpAny_pure h2))))
  have got : ∀ {h : Heap} {o : Obj}, o.isFreed = false → (h.push o).get? h.objs.size = some o := fun f => Heap.get?_push_size _ f
  split
  · rename_i z
    have z' : (!byText w && (!t.plain && decide (es.size > 1))) = true := z
    have hb : byText w = false := by
      cases hbt : byText w with
      | false => rfl
      | true => rw [hbt] at z'; cases z'
    refine wpAny_bind (draw_order es.size _ _ _ (by rw [List.length_range]) fun ord d pm => ?_)
    have hlo : (ord.map fun (i : Nat) => rawInt i).length ≤ sizeLine := by rw [List.length_map, pm.length_eq, List.length_range]; exact fits
    refine wpAny_bind (m := newTuple _) ?_
    unfold newTuple
    refine wpAny_newObj_type ?_ (by show (ord.map fun (i : Nat) => rawInt i).toArray.size ≤ sizeLine; rw [List.size_toArray]; exact hlo)
    refine wrap (Heap.get?_push_of_some _ ho) ⟨_, rfl, "set_iterator", _, ⟨_, got rfl, rfl⟩, FS.slot_next.lookup, ?_⟩
    refine q _ _ s.heap.objs.size (ord.map fun j => (es.getD j (0, .none)).2) d (.drw hb ord (got rfl) ⟨_, Heap.get?_push_of_some _ (got rfl), rfl, _, rfl⟩ pm rfl) ?_ ?_ ?_ ?_ (.inr (Nat.le_refl _)) fun b o e => Heap.get?_push_of_some _ (Heap.get?_push_of_some _ e)
    · simp only [Heap.size_push]; exact Nat.lt_succ_self _
    · simp only [Heap.size_push]; exact Nat.lt_succ_of_lt (Nat.lt_succ_self _)
    · simp only [Heap.size_push]; exact Nat.le_succ _
    · simp only [Heap.size_push]; exact Nat.ne_of_lt (Nat.lt_succ_self _)
  · rename_i z
    have z' : ¬ (!byText w && (!t.plain && decide (es.size > 1))) = true := z
    refine wpAny_bind (wpAny_pure (wrap ho ⟨_, rfl, "set_iterator", _, ⟨_, got rfl, rfl⟩, FS.slot_next.lookup, ?_⟩))
    have sz : s.heap.objs.size < (s.heap.push (setIt (rawInt 0) 0 a es.size ep)).objs.size := by rw [Heap.size_push]; exact Nat.lt_succ_self _
    have at_ : SetAt w (s.heap.push (setIt (rawInt 0) 0 a es.size ep)) s.heap.objs.size a a es ep t (if byText w = true then (pickOrder (w.params.setOrder a ep) es).toList.map (·.2) else es.toList.map (·.2)) 0 := by
      cases hbt : byText w with
      | true => exact .txt hbt (got rfl) rfl
      | false =>
        rw [hbt] at z'
        refine .few hbt 0 ?_ (got rfl) rfl (.inl ⟨rfl, rfl⟩)
        by_cases h0 : es.size = 0
        · omega
        · rw [pl h0] at z'
          simp at z'
          omega
    exact q _ _ a _ s.drawn at_ sz (Nat.lt_trans ha sz) (Nat.le_refl _) (Nat.ne_of_lt ha) (.inl rfl) fun b o e => Heap.get?_push_of_some _ e
theorem wp_pos {α : Type} {c : Prop} [Decidable c] {m n : Sem α} {Q : α → Shared → Prop} (hc : c) (h : wpAny (model prog w) A m Q E s) : wpAny (model prog w) A (if c then m else n) Q E s := by rw [if_pos hc]; exact h
abbrev lst0 (c : Nat) : Obj := { cls := .type "list", dict := none, data := .seq #[] c, slots := #[] }
theorem touch {L : Addr} {c0 : Nat} {Q : Unit → Shared → Prop} (e : s.heap.get? L = some (lst0 c0)) (q : ∀ h' c, h'.get? L = some (lst0 c) → (∀ b o, b ≠ L → s.heap.get? b = some o → h'.get? b = some o) → Q () { s with heap := h' }) : wpAny (model prog w) A (Builtin.List.listTouch (.ref L)) Q E s := by
  refine (wpAny_bind (m := updateSeq L (·.push .none)) (wpAny_updateSeq e rfl (show wpAny _ _ (updateSeq L (·.pop)) _ _ _ from ?_)) : wpAny _ _ (updateSeq L (·.push .none) >>= fun _ => updateSeq L (·.pop)) _ _ _)
  have e2 := Heap.get?_update_self (Obj.mapSeq (·.push Value.none)) e rfl
  refine wpAny_updateSeq e2 rfl (q _ _ (Heap.get?_update_self (Obj.mapSeq (·.pop)) e2 rfl) fun b o n z => ?_)
  exact (Heap.get?_update_other _ _ n.symm).trans ((Heap.get?_update_other _ _ n.symm).trans z)
theorem no_hint {Q : Bool → Shared → Prop} (ho : s.heap.get? a = some (setObj es ep t)) (q : Q false s) : wpAny (model prog w) A (Builtin.List.listLengthHint (.ref a)) Q E s := by
  have hT : s.TypeIs (.ref a) "set" := ⟨_, ho, rfl⟩
  unfold Builtin.List.listLengthHint
  refine wpAny_bind (wpAny_specialOf hT F.slot_set_len.lookup ?_)
  have hs : splitId "set.__len__" = some ("set", "__len__") := by kernel_rfl
  dsimp only
  rw [hs]
  dsimp only
  refine wpAny_bind (wpAny_isInstance hT sub_set_self ?_)
  rw [if_neg (by simp)]
  exact wp_pos (by decide +kernel) (wpAny_bind (wpAny_typeOf hT (wpAny_pure q)))
/-- list(set), as far as the items -/
theorem set_collect {ks : List Str} {Q : List Value → Shared → Prop} (hh : A.handled = none) (tx : TxtSet prog w s.heap a ks)
    (q : ∀ s' vs, (∀ b o, s.heap.get? b = some o → s'.heap.get? b = some o) → s'.gens = s.gens → s'.os = s.os → s.heap.objs.size ≤ s'.heap.objs.size → (∀ v ∈ vs, ∃ tk, v = .str (txtOf v) tk) → (vs.map txtOf).Perm ks → vs.length < scanBound → Q vs s') :
    wpAny (model prog w) A (collect (.ref a)) Q E s := by
  obtain ⟨es, ep, t, ho, el, pm, nd, few, fit, led, pl⟩ := tx
  have hT : s.TypeIs (.ref a) "set" := ⟨_, ho, rfl⟩
  have ha : a < s.heap.objs.size := Heap.lt_size ho
  unfold collect
  refine wpAny_bind (wpAny_runValue (codeAny_builtin F.entry_proto_collect ?_))
  rw [Around.under_plainId F.plain_proto_collect _]
  refine show wpAny _ A.in1 (newList [] >>= fun l => again (.builtin "list.__iadd__" ⟨[l, .ref a], []⟩)) _ _ s from wpAny_bind (wpAny_newObj_type (wpAny_pure ⟨plainId_quiet F.plain_list_iadd _, codeAny_builtin F.entry_list_iadd ?_⟩))
  rw [Around.under_plainId F.plain_list_iadd _]
  refine show wpAny _ A.in1 (Builtin.List.listExtendWith (.ref s.heap.objs.size) (.ref a) (.ref s.heap.objs.size)) _ _ _ from ?_
  have ho1 : (s.heap.push (lst0 0)).get? a = some (setObj es ep t) := Heap.get?_push_of_some _ ho
  unfold Builtin.List.listExtendWith
  refine wpAny_bind (wpAny_typeOf (T := "set") ⟨_, ho1, rfl⟩ ?_)
  have n1 : Builtin.List.listSameRef (.ref s.heap.objs.size) (.ref a) = false := by simp [Builtin.List.listSameRef]; exact Nat.ne_of_gt ha
  rw [n1, if_neg (by decide)]
  refine wpAny_bind (set_iter (s := { s with heap := s.heap.push (lst0 0) }) ho1 fit few pl fun h' I T vals d x hI hTs hIs hTI hTa kp => ?_)
  have ho2 := kp _ _ ho1
  have hLL : (s.heap.push (lst0 0)).get? s.heap.objs.size = some (lst0 0) := Heap.get?_push_size _ rfl
  have hIs' : s.heap.objs.size < I := by
    have z : (s.heap.push (lst0 0)).objs.size ≤ I := hIs
    rw [Heap.size_push] at z
    exact z
  refine wpAny_bind (wpAny_holding (no_hint ho2 ?_))
  dsimp only
  refine wp_pos (by decide +kernel) (wpAny_bind (wpAny_rule (wpAny_bind (touch (kp _ _ hLL) fun h2 c e2 k2 => ?_))))
  have hlen : vals.length = es.size := by rw [x.perm.length_eq, List.length_map, Array.length_toList]
  have nLT : T ≠ s.heap.objs.size := by
    rcases hTa with z | z
    · rw [z]; exact Nat.ne_of_lt ha
    · have z : (s.heap.push (lst0 0)).objs.size ≤ T := z
      rw [Heap.size_push] at z
      exact Nat.ne_of_gt z
  have nLI : s.heap.objs.size ≠ I := Nat.ne_of_lt hIs'
  have naL : a ≠ s.heap.objs.size := Nat.ne_of_lt ha
  have led' : byText w = false → t.led = true := fun b => by rw [led, b]; rfl
  have W := set_walks (prog := prog) (A := A.in1) (ep := ep) (by simp [hh]) fit led' (Nat.ne_of_lt (Nat.lt_trans ha hIs')) hTI hlen
  have nin : s.heap.objs.size ∉ [I, a, T] := by
    simp only [List.mem_cons, List.not_mem_nil, or_false, not_or]
    exact ⟨nLI, naL.symm, nLT.symm⟩
  refine wpAny_pure ⟨plainId_quiet F.plain_extend_loop _, codeAny_extend_loopS W (fits_of_scanBound few) _ nin _ es.size 0 _ _ _ rfl (Nat.zero_le _) ⟨k2 a _ naL ho2, x.move fun b hb o e => k2 b o (fun z => nin (z ▸ hb)) e⟩ e2 (ItemsOf.nil _) fun s' acc c' mv hS it => ?_⟩
  refine wpAny_bind (wpAny_load hS (wpAny_pure ?_))
  have ev : acc.toList = vals := by
    apply List.ext_getElem?
    intro j
    by_cases hj : j < acc.size
    · have z : acc[j]? = some acc[j] := Array.getElem?_eq_getElem hj
      rw [Array.getElem?_toList, z]
      exact (it.2 j _ z).symm
    · rw [List.getElem?_eq_none (by rw [Array.length_toList]; omega), List.getElem?_eq_none (by have := it.1; omega)]
  rw [ev]
  have old : ∀ b o, s.heap.get? b = some o → s'.heap.get? b = some o := fun b o e => by
    have hb : b < s.heap.objs.size := Heap.lt_size e
    refine mv.heap b o ?_ (k2 b o (Nat.ne_of_lt hb) (kp b o (Heap.get?_push_of_some _ e)))
    simp only [List.mem_cons, List.not_mem_nil, or_false, not_or]
    exact ⟨Nat.ne_of_lt hb, Nat.ne_of_lt (Nat.lt_trans hb hIs')⟩
  refine q s' vals old mv.gens mv.os (Nat.le_of_lt (Heap.lt_size hS)) (fun v hv => ?_) ((x.perm.map txtOf).trans (by rw [List.map_map]; exact pm)) (by omega)
  obtain ⟨e, he, rfl⟩ := List.mem_map.mp (x.perm.mem_iff.mp hv)
  exact txt_el el he
end
end NC
/-! ### set(xs), sorted(set), sorted(xs): texts, as rules -/
namespace NC
open PySem PySem.Spec PyProof.Rows L2
/-- a set of texts, tracked -/
def SetX (P : Program) (w : World) (a : Addr) (ks : List Str) : HO := .ext fun h => TxtSet P w h a ks
theorem setX_ok {P : Program} {w : World} {H : Hp} {h : Heap} {a : Addr} {ks : List Str} (x : TxtSet P w h a ks) : ObjOk P w H h a (SetX P w a ks) :=
  ⟨x, (by cases x; exact ⟨_, by assumption⟩), fun _ _ y k => y.moved k⟩
theorem inv_drw {X : Cx} {pins : List (Addr × Obj)} {σ : List (Option V)} {H : Hp} {s s' : Shared} (I : Inv X pins σ H s) (h1 : s'.heap = s.heap) (h2 : s'.gens = s.gens) (h3 : s'.os = s.os) : Inv X pins σ H s' := by
  obtain ⟨h, g, d, t, o⟩ := s'
  cases h1; cases h2; cases h3
  exact ⟨I.ok, I.os, I.bare, I.base, I.loc, I.cell, I.free, I.freeC, I.pin, I.hok, I.len⟩
section
variable {X : Cx}
inductive RSetI (P : Program) (w : World) (vs : List V) (H : Hp) (Q : VK) : Prop where
  | mk (l : Addr) (ws : List Str) (c1 : vs = [.ref l]) (c2 : H l = some (.lst (ws.map V.str))) (c3 : ws.length ≤ 4000) (c4 : ∀ a ks H', ks.Nodup → (∀ k, k ∈ ks ↔ k ∈ ws) → ks.length ≤ ws.length → H a = none → Same H H' → H' a = some (SetX P w a ks) → Q (.ref a) H')
theorem TxtSet.nodup {P : Program} {w : World} {h : Heap} {a : Addr} {ks : List Str} (x : TxtSet P w h a ks) : ks.Nodup := by cases x; assumption
theorem call_setT (hh : X.A.handled = none) : CallR X (.type "set") (RSetI X.prog X.w) := by
  intro pins s σ H xs us Q I r h
  obtain ⟨l, ws, rfl, hH, hw, k⟩ := h
  obtain ⟨u, rfl, ru⟩ := vals1 r
  cases (show u = Value.ref l from ru)
  obtain ⟨z, its, n, rv, hl, e⟩ := I.lstM hH
  have hlen : its.length = ws.length := by rw [← hl, List.length_map]
  have hL : s.heap.IsList l its.toArray := ⟨_, e, rfl, n, rfl⟩
  have hv : ∀ (i : Nat) (v : Value), its.toArray[i]? = some v → ∃ t, v = Value.str (ws.getD i ⟨#[]⟩) t := fun i v q => by
    have q' : its[i]? = some v := by simpa using q
    have hi : i < its.length := (List.getElem?_eq_some_iff.mp q').1
    obtain ⟨t, ht⟩ := str_at rv i hi (by omega)
    refine ⟨t, ?_⟩
    have e1 : its[i] = v := (List.getElem?_eq_some_iff.mp q').2
    rw [← e1, ht, List.getD_eq_getElem?_getD, List.getElem?_eq_getElem (by omega)]
    rfl
  have hf : H s.heap.objs.size = none := I.hok.fresh (Nat.le_refl _)
  refine call_set_txt hh hL hv (by rw [List.size_toArray]; unfold scanBound; omega) fun h' tk tx kp => ?_
  have I' : Inv X pins σ (upd H s.heap.objs.size (SetX X.prog X.w s.heap.objs.size _)) { s with heap := h', toks := tk } := I.laid (t' := tk) (fun b o q => kp b o (Heap.lt_size q) q) (Nat.le_refl _) (setX_ok tx)
  refine ⟨.ref _, _, I', rfl, k _ _ _ tx.nodup (fun x => ?_) ?_ hf (same_new hf) upd_same⟩
  · rw [mem_metK]
    constructor
    · rintro ⟨i, hi, rfl⟩
      rw [List.size_toArray] at hi
      rw [List.getD_eq_getElem?_getD, List.getElem?_eq_getElem (by omega)]
      exact List.getElem_mem _
    · intro hx
      obtain ⟨i, hi, rfl⟩ := List.getElem_of_mem hx
      exact ⟨i, by rw [List.size_toArray]; omega, by rw [List.getD_eq_getElem?_getD, List.getElem?_eq_getElem hi]; rfl⟩
  · have := metK_len (fun i => ws.getD i ⟨#[]⟩) its.toArray.size
    rw [List.size_toArray] at this ⊢
    omega
theorem strs_vals : ∀ {out : List Value} {ss : List Str}, StrsAre out ss → Vals (ss.map V.str) out
  | _, _, .nil => .nil
  | _, _, .cons x t h => .cons ⟨t, rfl⟩ (strs_vals h)
inductive RSortSI (P : Program) (w : World) (vs : List V) (H : Hp) (Q : VK) : Prop where
  | mk (a : Addr) (ks : List Str) (c1 : vs = [.ref a]) (c2 : H a = some (SetX P w a ks)) (c3 : ks.length < 64) (c4 : ∀ ss l H', ss.Perm ks → sortedS ss = true → H l = none → Same H H' → H' l = some (.lst (ss.map V.str)) → Q (.ref l) H')
theorem strsAre_txt : ∀ (vs : List Value), (∀ v ∈ vs, ∃ tk, v = .str (txtOf v) tk) → StrsAre vs (vs.map txtOf)
  | [], _ => .nil
  | v :: vs, h => by
    obtain ⟨t, e⟩ := h v List.mem_cons_self
    rw [List.map_cons]
    have r := strsAre_txt vs fun u hu => h u (List.mem_cons_of_mem _ hu)
    rw [e]
    exact .cons _ t r
theorem sorted_new {h : Heap} {vs : List Value} {out : Array Value} : (∃ e, (sortedHeap (h.push (seqObj "list" vs.toArray 0)) h.objs.size vs out).get? h.objs.size = some (seqObj "list" out e)) ∧ ∀ b o, h.get? b = some o → (sortedHeap (h.push (seqObj "list" vs.toArray 0)) h.objs.size vs out).get? b = some o := by
  have g0 : (h.push (seqObj "list" vs.toArray 0)).get? h.objs.size = some (seqObj "list" vs.toArray 0) := Heap.get?_push_size _ rfl
  have g1 := Heap.get?_update_self (Obj.mapSeq fun _ => #[]) g0 rfl
  unfold sortedHeap
  refine ⟨⟨_, Heap.get?_update_self (Obj.mapSeq fun _ => out) (Heap.get?_push_of_some _ (Heap.get?_push_of_some _ g1)) rfl⟩, fun b o e => ?_⟩
  have n : h.objs.size ≠ b := Nat.ne_of_gt (Heap.lt_size e)
  exact (Heap.get?_update_other _ _ n).trans (Heap.get?_push_of_some _ (Heap.get?_push_of_some _ ((Heap.get?_update_other _ _ n).trans (Heap.get?_push_of_some _ e))))
theorem call_sortS (hh : X.A.handled = none) : CallR X (.builtin "sorted") (RSortSI X.prog X.w) := by
  intro pins s σ H xs us Q I r h
  obtain ⟨a, ks, rfl, hH, h64, k⟩ := h
  obtain ⟨u, rfl, ru⟩ := vals1 r
  cases (show u = Value.ref a from ru)
  have tx : TxtSet X.prog X.w s.heap a ks := (I.hok a _ hH).1
  refine Calls.call_function_entry kind_sorted plain_sorted entry_sorted (args_sorted1 _) (show wpAny _ _ (Builtin.«sorted» _) _ _ _ from ?_)
  unfold Builtin.«sorted»
  refine wpAny_bind (m := checkCount "sorted" 1 1 _) (wpAny_pure (wpAny_bind (set_collect (by simp [hh]) tx fun s' vs old g o sz hv pm few => ?_)))
  have hlen : vs.length = ks.length := by rw [← pm.length_eq, List.length_map]
  have hS := strsAre_txt vs hv
  refine wpAny_bind (wpAny_newList ?_ (by rw [sizeLine_eq]; omega))
  have hoL : (s'.heap.push (seqObj "list" vs.toArray 0)).get? s'.heap.objs.size = some (seqObj "list" vs.toArray 0) := Heap.get?_push_size _ rfl
  refine wpAny_bind (wpAny_holding (wpAny_call_entry slot_list_sort ⟨_, hoL, rfl⟩ entry_list_sort (list_sort_treeK (s := { s' with heap := s'.heap.push (seqObj "list" vs.toArray 0) }) strKind_oneLt hoL hS.keysOf (fun v₁ v₂ rest e => keyKind_strs (by rw [← e]; exact hS)) (by omega) fun st' a1 a2 => ⟨_, rfl, ?_⟩) (args_list_sort _)))
  obtain ⟨ss, q1, q2, q3⟩ := sorted_out_str hS a1 a2
  have hD : s.heap.objs.size ≤ s'.heap.objs.size := sz
  have hf : H s'.heap.objs.size = none := I.hok.fresh hD
  generalize ((arrOf st').map (·.2)) = out at q1
  have nw := sorted_new (h := s'.heap) (vs := vs) (out := out)
  refine wpAny_pure ⟨_, rfl, ⟨.ref _, _, ?_, rfl, k ss s'.heap.objs.size _ (q2.trans pm) q3 hf (same_new hf) upd_same⟩⟩
  have I2 := I.laid (a := s'.heap.objs.size) (o := .lst (ss.map V.str)) (t' := s'.toks) (h' := sortedHeap (s'.heap.push (seqObj "list" vs.toArray 0)) s'.heap.objs.size vs out) (fun b o q => nw.2 b o (old b o q)) hD
    ⟨by rw [List.length_map, q2.length_eq, List.length_map, sizeLine_eq]; omega, out.toList, _, strs_vals q1, by simpa using nw.1.choose_spec⟩
  exact inv_drw I2 rfl g o
end
end NC
/-! ### list(dict), sorted(xs) of texts, isinstance of several classes -/
namespace NC
open PySem PySem.Spec PyProof.Rows L2
section
variable {prog : Program} {w : World} {K : Type} [DecidableEq K] {knd : PySem.KeyKind prog w K} {A : Around} {E : Value → Shared → Prop} {s : Shared}
end
section
variable {X : Cx}
/-- (list, tuple), just made -/
def LtX (p : Addr) : HO := .ext fun h => h.get? p = some { cls := .type "tuple", data := .seq [Value.type "list", Value.type "tuple"].toArray }
inductive RIsLtI (vs : List V) (H : Hp) (Q : VK) : Prop where
  | lst (a p : Addr) (xs : List V) (c1 : vs = [.ref a, .ref p]) (c2 : H p = some (LtX p)) (c3 : H a = some (.lst xs)) (c4 : Q (.bl true) H)
  | str (x : Str) (p : Addr) (c1 : vs = [.str x, .ref p]) (c2 : H p = some (LtX p)) (c4 : Q (.bl false) H)
end
end NC
/-! ### texts: join, parts, the signs one by one; raise where it is not reached -/
namespace NC
open PySem PySem.Spec PyProof.Rows L2
section
variable {X : Cx}
end
/-- the signs of a text -/
def Its (x : Str) : It := ⟨fun i _ => i < x.cps.size, fun i H v H' => H' = H ∧ ∃ c, x.cps[i]? = some c ∧ v = .str ⟨#[c]⟩, fun i _ => x.cps.size ≤ i⟩
theorem turn_text {P : Program} {w : World} {K : PySem.W.Frag} {tg : Expr} (it : Addr) (x : Str) (t : Tok) : Turn P w K tg (Its x) [it] it (fun i h => i ≤ x.cps.size ∧ h.IsStrIter it "str_ascii_iterator" x t i) where
  mem := by simp
  obj := fun i h st b hb => by
    have e : b = it := by simpa using hb
    subst e
    obtain ⟨_, o, e, c, d⟩ := st
    exact ⟨o, e, fun v z => by rw [d] at z; cases z⟩
  keep := fun i h h' st k => ⟨st.1, by
    obtain ⟨o, e, c, d⟩ := st.2
    exact ⟨o, k it (by simp) _ e, c, d⟩⟩
  item := by
    intro X hP hw hK hc i pins s σ H E I hf st hg
    subst hP hw hK
    obtain ⟨f0, f1, f2, f3, f4, f5⟩ := hf it (by simp)
    have W := Walks.strAscii (prog := X.prog) (w := X.w) (A := X.A) (I.ok.hd hc) it x t
    refine W.item i s _ _ hg st.2 fun v h' tk hv st' kk => ?_
    obtain ⟨c, u, hcx, rfl⟩ := hv
    have I1 : Inv X pins σ H { s with heap := h', toks := tk } := I.turned (fun b o hb e => kk b o (by simpa using hb) e) f0 f1 f3 f4 f5
    obtain ⟨o, e, cc, d⟩ := id st'
    exact ⟨_, rfl, go_of (s := { s with heap := h', toks := tk }) e cc d (by decide) ⟨.str ⟨#[c]⟩, H, I1, ⟨u, rfl⟩, ⟨rfl, c, hcx, rfl⟩, ⟨hg, st'⟩, fun b hb => (hf b hb).1⟩⟩
  done := by
    intro X hP hw hK hc i pins s σ H E I hf st hg
    subst hP hw hK
    obtain ⟨f0, f1, f2, f3, f4, f5⟩ := hf it (by simp)
    have W := Walks.strAscii (prog := X.prog) (w := X.w) (A := X.A) (I.ok.hd hc) it x t
    have hi : i = x.cps.size := Nat.le_antisymm st.1 hg
    subst hi
    refine W.done s _ _ st.2 fun h' tk kk => ⟨rfl, I.turned (fun b o hb e => kk b o (by simpa using hb) e) f0 f1 f3 f4 f5⟩
  self := fun _ _ _ _ _ st h => wpAny_pyIter_striter_ascii st.2 h
section
variable {X : Cx} {tg : Expr}
inductive ITextI (R : It → Hp → Prop) (x : V) (H1 : Hp) : Prop where
  | mk (z : Str) (c1 : x = .str z) (c2 : z.cps.all (· < 128) = true) (c3 : R (Its z) H1)
def iText (te : TE) : TI := fun σ H R => te σ H fun x H1 => ITextI R x H1
/-- for c in a text -/
theorem pi_text {e : Expr} {te : TE} (he : PE X e te) : PI X tg e (iText te) := by
  intro pins s σ H R I h
  refine thn (he pins s σ H _ I h) fun v s1 ⟨x, H1, I1, r1, z, ez, ha, q⟩ => ?_
  subst ez
  obtain ⟨t, rfl⟩ := r1
  refine wpAny_pyIter_ascii ha ?_
  refine ⟨s1.heap.objs.size, [s1.heap.objs.size], _, _, H1, rfl, I1.kept (t' := s1.toks) fun b o e => Heap.get?_push_of_some _ e, turn_text _ z t, ⟨Nat.zero_le _, ⟨_, Heap.get?_push_size _ rfl, rfl, rfl⟩⟩, fun b hb => ?_, q⟩
  have e : b = s1.heap.objs.size := by simpa using hb
  subst e
  exact I1.fpOk (Nat.le_refl _) (I1.hok.fresh (Nat.le_refl _))
end
end NC
namespace NC
open PySem PySem.Spec PyProof.Rows L2
section
variable {X : Cx} {CX : CXT} {k : Nat} {C : Addr} {m : Str} {ps : List Str} {sp : Sp} {E : XK} {o : Expr} {ta : TE} {apos pos : Pos}
end
end NC
namespace NC
open PySem PySem.Spec PyProof.Rows L2
section
variable {X : Cx} {o e : Expr} {to te : TE} {apos cpos : Pos}
end
theorem cps_append (a b : Str) : (a ++ b).cps.toList = a.cps.toList ++ b.cps.toList := by
  show (a.cps ++ b.cps).toList = _
  simp
/-- a sign among the letters -/
theorem in_letters : ∀ c : Nat, c < 128 → (!(Builtin.Str.occurrences (Str.ofString "abcdefghijklmnopqrstuvwxyz") ⟨#[c]⟩ 0 (Str.ofString "abcdefghijklmnopqrstuvwxyz").length 1).isEmpty) = decide (97 ≤ c ∧ c ≤ 122) := by
  decide +kernel
end NC
/-! ### named terms in the heap -/
namespace NC
open PySem PySem.Spec PyProof.Rows L2
inductive NamedAt (H : Hp) : V → NT → Prop where
  | name {a : Addr} {w : Str} (h : H a = some (.tup [.str "name", .str w])) : NamedAt H (.ref a) (.name w)
  | form {a : Addr} {w : Str} {v : V} {b : NT} (h : H a = some (.tup [.str "form", .str w, v])) (hb : NamedAt H v b) : NamedAt H (.ref a) (.form w b)
  | call {a : Addr} {v u : V} {x y : NT} (h : H a = some (.tup [.str "call", v, u])) (hx : NamedAt H v x) (hy : NamedAt H u y) : NamedAt H (.ref a) (.call x y)
theorem NamedAt.mono {H H' : Hp} {v : V} {t : NT} (h : NamedAt H v t) (k : Tups H H') : NamedAt H' v t := by
  induction h with
  | name h => exact .name (k _ _ h)
  | form h _ ih => exact .form (k _ _ h) ih
  | call h _ _ i1 i2 => exact .call (k _ _ h) i1 i2
theorem NamedAt.same {H H' : Hp} {v : V} {t : NT} (h : NamedAt H v t) (k : Same H H') : NamedAt H' v t := h.mono (.of_same k)
theorem NamedAt.ref {H : Hp} {v : V} {t : NT} (h : NamedAt H v t) : ∃ a, v = .ref a := by
  cases h with
  | name _ => exact ⟨_, rfl⟩
  | form _ _ => exact ⟨_, rfl⟩
  | call _ _ _ => exact ⟨_, rfl⟩
theorem nameds_mono {H H' : Hp} {vs : List V} {ts : List NT} (h : Paired (NamedAt H) vs ts) (k : Tups H H') : Paired (NamedAt H') vs ts := paired_imp (fun _ _ z => z.mono k) h
/-- what is begun, in the heap -/
def BgAt (H : Hp) (v : V) : Bg → Prop
  | .form w => ∃ a, v = .ref a ∧ H a = some (.tup [.str "form", .str w])
  | .one _ => ∃ a, v = .ref a ∧ H a = some (.tup [.str "call"])
  | .two t => ∃ a u, v = .ref a ∧ H a = some (.tup [.str "call", u]) ∧ NamedAt H u t
theorem BgAt.mono {H H' : Hp} {v : V} {b : Bg} (h : BgAt H v b) (k : Tups H H') : BgAt H' v b := by
  cases b with
  | form w => obtain ⟨a, e, q⟩ := h; exact ⟨a, e, k _ _ q⟩
  | one t => obtain ⟨a, e, q⟩ := h; exact ⟨a, e, k _ _ q⟩
  | two t => obtain ⟨a, u, e, q, r⟩ := h; exact ⟨a, u, e, k _ _ q, r.mono k⟩
theorem kp1_tups {H H' : Hp} {l : Addr} {xs : List V} (k : Keep [l] H H') (h : H l = some (.lst xs)) : Tups H H' := fun b ys e => k b _ (fun z => by rw [List.mem_singleton.mp z, h] at e; cases e) e
end NC
/-! ### named parts and the words round them, in the heap -/
namespace NC
open PySem PySem.Spec PyProof.Rows L2
/-- the words round a part: pairs, None behind the outermost -/
def ArAt (H : Hp) : List Str → V → Prop
  | [], v => v = .non
  | w :: ws, v => ∃ a u, v = .ref a ∧ H a = some (.tup [.str w, u]) ∧ ArAt H ws u
theorem ArAt.mono {H H' : Hp} (k : Tups H H') : ∀ {ws : List Str} {v : V}, ArAt H ws v → ArAt H' ws v
  | [], _, h => h
  | w :: ws, _, h => let ⟨a, u, e, q, r⟩ := h; ⟨a, u, e, k _ _ q, ArAt.mono k r⟩
inductive NPairAtI (H : Hp) (v : V) (q : NT × List Str) : Prop where
  | mk (a : _) (tv : _) (av : _) (c1 : v = .ref a) (c2 : H a = some (.tup [tv, av])) (c3 : NamedAt H tv q.1) (c4 : ArAt H q.2 av)
def NPairAt (H : Hp) (v : V) (q : NT × List Str) : Prop := NPairAtI H v q
theorem NPairAt.mono {H H' : Hp} {v : V} {q : NT × List Str} (h : NPairAt H v q) (k : Tups H H') : NPairAt H' v q := let ⟨a, tv, av, e, h1, h2, h3⟩ := h; ⟨a, tv, av, e, k _ _ h1, h2.mono k, h3.mono k⟩
def pendN (its : List (NT × List Str)) : List (NT × List Str) := its.reverse.flatMap fun q => q.1.parts q.2
theorem pendN_snoc (its : List (NT × List Str)) (q : NT × List Str) : pendN (its ++ [q]) = q.1.parts q.2 ++ pendN its := by
  unfold pendN
  rw [List.reverse_append]
  rfl
def sizesQ (its : List (NT × List Str)) : Nat := (its.map fun q => q.1.size).sum
theorem sizesQ_snoc (its : List (NT × List Str)) (q : NT × List Str) : sizesQ (its ++ [q]) = sizesQ its + q.1.size := by
  unfold sizesQ
  rw [List.map_append, List.sum_append]
  simp
theorem len_sizesQ : ∀ its : List (NT × List Str), its.length ≤ sizesQ its
  | [] => Nat.le_refl _
  | q :: its => by
    have h1 := len_sizesQ its
    have h2 := NT.size_pos q.1
    unfold sizesQ at *
    rw [List.map_cons, List.sum_cons, List.length_cons]
    omega
end NC
/-! ### exceptions of own classes: raised, passed on, caught -/
namespace NC
open PySem PySem.Spec PyProof.Rows L2
/-- an exception of the class at C flies, behind a call -/
structure Fly (P : Program) (w : World) (outer : List Env) (H H' : Hp) (s s' : Shared) (e C : Addr) : Prop where
  os : s'.os = s.os
  bare : AllBare s'.gens
  un : Un (frs outer) [] H H' s.heap s'.heap
  hok : HOk P w H' s'.heap
  fl : ∃ B a0, Heap.FlyingW B outer e (.ref C) a0 s'.heap ∧ (∀ b u, H' b = some u → ∃ o, B.get? b = some o) ∧ (∀ b o, s.heap.get? b = some o → H b = none → b ∉ frs outer → B.get? b = some o) ∧
    ∀ b o, s.heap.get? b = some o → b ∉ frs outer → ∃ o', B.get? b = some o'
def CXE (P : Program) (w : World) : CXT := fun outer H s E e s' => ∃ ea C H', e = .ref ea ∧ Fly P w outer H H' s s' ea C ∧ E e (some C) H'
/-- a def's own body: its frame is the innermost one -/
structure Own (X : Cx) : Prop where
  stk : X.stack = X.env :: X.outer
  fr : X.env.frame = some X.env.locals
  ex : X.ex = []
section
variable {X : Cx} {pins : List (Addr × Obj)} {σ : L2.St} {H1 : Hp} {s1 : Shared}
/-- all but the frames that run -/
def noFrames (X : Cx) (h : Heap) : Heap := PySem.W.hideAll h (frs X.stack)
theorem stk_ne (I : Inv X pins σ H1 s1) (O : Own X) {b : Addr} {o : Obj} (e : X.s₀.heap.get? b = some o) (hb : b ∉ X.fs) : b ∉ frs X.stack := fun z => by
  rcases List.mem_cons.mp (I.stkSub b z) with q | q
  · rw [q] at e
    exact absurd (Nat.lt_of_lt_of_le (Heap.lt_size e) I.ok.above) (Nat.lt_irrefl _)
  · exact hb q
theorem frs_stack (O : Own X) : frs X.stack = X.env.locals :: X.fs := by
  rw [O.stk]
  unfold frs
  rw [List.filterMap_cons, O.fr]
  rfl
theorem fly_made {h2 : Heap} {e C : Addr} {vs : List Value} {M : Model} {E : Value → Shared → Prop} (I : Inv X pins σ H1 s1) (O : Own X) (hx : Heap.MadeExcOf s1.heap h2 e (.ref C) vs) :
    wpAny M X.A (leaving X.env (.ref e)) (fun _ s'' => Fly X.prog X.w X.outer X.H₀ H1 X.s₀ s'' e C) E { s1 with heap := h2 } := by
  have hfrs : ∀ env ∈ X.stack, ∀ a, env.frame = some a → a ∈ frs X.stack := fun env he a ha => List.mem_filterMap.mpr ⟨env, he, ha⟩
  have kB : ∀ b o, s1.heap.get? b = some o → b ∉ frs X.stack → (noFrames X s1.heap).get? b = some o := fun b o e n => PySem.W.hideAll_get _ e n
  have hl : s1.heap.FunFrames (noFrames X s1.heap) X.stack := PySem.W.funFrames_hide I.stack hfrs
  rw [O.stk] at hl
  refine wpAny_leaves_madeW (base := noFrames X s1.heap) (h := s1.heap) (by rw [I.ok.frames, O.stk]) O.fr (fun b o q => PySem.W.of_hideAll _ q) hl hx fun h' t x1 x2 x3 x4 => ?_
  have st : ∀ b o, (noFrames X s1.heap).get? b = some o → h'.get? b = some o := x1.1
  have fr' : ∀ b ∈ frs X.stack, ∀ o, s1.heap.get? b = some o → ∃ sl, h'.get? b = some { o with slots := sl } := fun b hb o e => by
    obtain ⟨_, o', e', nd⟩ := I.stack.mem hb
    rw [e] at e'
    cases e'
    exact x4 b o (hx.keeps _ _ e) nd
  have nT : ∀ b u, H1 b = some u → b ∉ frs X.stack := fun b u e z => by rw [I.stkFree b z] at e; cases e
  have un := I.base
  rw [O.ex] at un
  refine ⟨I.os, I.bare, ⟨fun b o e n hb hx' => ?_, fun b o e n hb hx' => ?_, un.free, fun b o e hx' => ?_, un.tups, un.frzs, un.tbls⟩, fun b u e => ?_, ⟨_, _, x1, fun b u e => ?_, fun b o e n hb => ?_, fun b o e hb => ?_⟩⟩
  · exact st b o (kB b o (un.keep b o e n hb hx') (stk_ne I O e hb))
  · obtain ⟨sl, q⟩ := un.slot b o e n hb hx'
    obtain ⟨sl', q'⟩ := fr' b (by rw [frs_stack O]; exact List.mem_cons_of_mem _ hb) _ q
    exact ⟨sl', q'⟩
  · obtain ⟨o', q⟩ := un.there b o e hx'
    by_cases hs : b ∈ frs X.stack
    · obtain ⟨sl, q'⟩ := fr' b hs _ q
      exact ⟨_, q'⟩
    · exact ⟨o', st b o' (kB b o' q hs)⟩
  · refine (I.hok b u e).stay (fun c v hc q => st c v (kB c v q ?_)) (fun _ q => q) fun _ _ q => q
    rcases hc with z | z
    · rw [z]; exact nT b u e
    · exact nT c _ z
  · obtain ⟨o, q⟩ := objok_there (I.hok b u e)
    exact ⟨o, kB b o q (nT b u e)⟩
  · exact kB b o (un.keep b o e n hb (by simp)) (stk_ne I O e hb)
  · obtain ⟨o', q⟩ := un.there b o e (by simp)
    exact ⟨o', kB b o' q (stk_ne I O e hb)⟩
end
end NC
namespace NC
open PySem PySem.Spec PyProof.Rows L2
section
variable {P : Program} {w : World} {K : PySem.W.Frag} {mg : Str → Option Value} {base : Heap} {N : List Str} {qual : Str} {scope : Scope} {f : Addr} {cd : Value} {A : Around} {outer : List Env} {s : Shared} {H : Hp} {E : XK}
/-- the body of a def that may raise -/
abbrev cxE (P : Program) (w : World) (K : PySem.W.Frag) (mg : Str → Option Value) (base : Heap) (N : List Str) (qual : Str) (scope : Scope) (f : Addr) (cd : Value) (A : Around) (outer : List Env) (s : Shared) (H : Hp) (E : XK) : Cx := cxOf (CXE P w) P w K mg base N qual scope f cd A outer s H E
theorem own_cxE : Own (cxE P w K mg base N qual scope f cd A outer s H E) := ⟨rfl, rfl, rfl⟩
/-- an own exception class without methods, as the top made it -/
structure ExcC (x : Str) (C : Addr) (mg : Str → Option Value) (h : Heap) : Prop where
  own : OwnCls x C [.type "ValueError", .type "Exception", .type "BaseException", .type "object"] "ValueError.__new__" mg h
theorem ExcC.keeps {x : Str} {C : Addr} {h h' : Heap} (O : ExcC x C mg h) (k : ∀ b o, h.get? b = some o → h'.get? b = some o) : ExcC x C mg h' := ⟨O.own.keeps k⟩
/-- raise C(text) -/
def tRaise (E : XK) (C : Addr) (te : TE) : TS := fun _ σ H => te σ H fun v H1 => ([v] : List V).length = 1 ∧ ∀ e, E (.ref e) (some C) H1
theorem ps_raise {x : Str} {C : Addr} {e₀ : Expr} {te : TE} {np cpos pos : Pos} (O : ExcC x C mg base) (hh : A.handled = none) (hg : Gl (cxE P w K mg base N qual scope f cd A outer s H E) x) (he : PE (cxE P w K mg base N qual scope f cd A outer s H E) e₀ te)
    (h : plainE e₀ = true := by rfl) (hdb : (x == ("__debug__" : Str)) = false := by decide) :
    PS (cxE P w K mg base N qual scope f cd A outer s H E) (.Raise (some (.Call (.Name x np) [e₀] [] cpos)) none pos) (tRaise E C te) := by
  intro pins s1 σ H1 D I hw
  obtain ⟨tl, Nn, nm, q, bs, hdct, sn, sub, ab, col, dd, k0, k1, k2, k3, k5, mN, hC, hN, hni, T⟩ := O.own.obj
  have ha : PA (cxE P w K mg base N qual scope f cd A outer s H E) [e₀] (tCons te tNil) := pa_c he pa_nil h
  refine wpAny_Raise_call_subT (C := C) (nm := nm) (q := q) (N := Nn) (bs := bs) (bm := tl) (hdct := hdct) (sn := sn) (sub := sub) (ab := ab) (col := col) (dd := dd) (k0 := k0) (k1 := k1) (k2 := k2) (k3 := k3) (k5 := k5)
    PySem.F.excBase_ValueError (mN := mN) (T.hasType PySem.F.excBase_ValueError.hasBase) hh (by rw [star_plain h]; rfl) hni (ld_glob I hg O.own.bound ⟨rfl, ?_⟩ hdb)
  have e1 := ha cpos pins s1 σ H1 (fun vs H2 => vs.length = 1 ∧ ∀ e, E (.ref e) (some C) H2) I hw
  rw [star_plain h] at e1 ⊢
  refine Calls.evalArgs_plain (thn e1 fun us s2 ⟨vs, H2, I2, r, q1, q2⟩ => ⟨rfl, ?_, I2.bk _ _ hC, hN.keeps I2.bk, T.keeps I2.bk, fun h' e hm => ?_⟩)
  · rw [← r.length, q1]; decide
  · show wpAny (model P w) _ (leaving _ (.ref e)) _ _ _
    exact thn (fly_made I2 own_cxE hm) fun _ s'' F' => ⟨e, C, H2, rfl, F', q2 e⟩
end
end NC
/-! ### a caught exception: its class, try -/
namespace NC
open PySem PySem.Spec PyProof.Rows L2
/-- an exception of the class at D stands at x -/
def ExcAt (x D : Addr) (h : Heap) : Prop := ∃ o, h.get? x = some o ∧ o.cls = .ref D ∧ PySem.W.notCls o = true
/-- what isinstance asks of the exception's class -/
structure ClsE (K : PySem.W.Frag) (D : Addr) : Prop where
  ga : PySem.W.findIn K (.ref D) "__getattribute__" = some (some (.builtin "BaseException.__getattribute__"))
  gt : PySem.W.findIn K (.ref D) "__getattr__" = some none
  hb : PySem.W.mroIn K D (.type "BaseException") = some true
  hd : PySem.W.hasDictIn K D = true
  ha : PySem.W.findIn K (.ref D) "__class__" = some (some (.builtin "object.__class__"))
  hn : PySem.W.specialIn K (.builtin "object.__class__") "__get__" = some (some (.builtin "getset_descriptor.__get__"))
  ht : PySem.W.takesIn K (.builtin "object.__class__") = some true
  hm : PySem.W.mroIn K D (.type "object") = some true
section
variable {prog : Program} {w : World} {A : Around} {E : Value → Shared → Prop} {s : Shared} {K : PySem.W.Frag} {x D : Addr}
theorem ExcAt.type {M : Model} {h : Heap} (I : ExcAt x D h) : PySem.W.Looks M h (typeOf (.ref x)) (.ref D) := by
  obtain ⟨o, h1, h2, _⟩ := I
  exact h2 ▸ (PySem.W.Looks.ld h1).andThen .now
open PySem.W Builtin.ObjectAttr in
theorem exc_find {M : Model} {h : Heap} (c : ClsE K D) (X : K.In h) : Looks M h (find (.ref x) (.ref D) "__class__") (.bind (.builtin "getset_descriptor.__get__") (.builtin "object.__class__")) := by
  have L1 := looks_findIn (M := M) X c.ha
  have L2 : Looks M h (getOf (some (.builtin "object.__class__"))) (some (.builtin "getset_descriptor.__get__")) := looks_specialIn X c.hn
  have L3 := looks_takesIn (M := M) X c.ht
  exact L1.andThen (L2.andThen ((show Looks M h (dataDescriptor? (some (.builtin "object.__class__")) (some (.builtin "getset_descriptor.__get__"))) (some (.builtin "getset_descriptor.__get__", .builtin "object.__class__")) from L3.andThen .now).andThen (Looks.tag .now)))
open PySem.W PySem.Calls Builtin Builtin.ObjectAttr Builtin.Getset_descriptor in
theorem exc_get {tp : Value} {R : Result → Shared → Prop} (X : K.In s.heap) (I : ExcAt x D s.heap) (hm : mroIn K D (.type "object") = some true)
    (h : R (.ok (.ret (.ref D))) s) : codeAny (model prog w) A (.call (.builtin "getset_descriptor.__get__") ⟨[.builtin "object.__class__", .ref x, tp], []⟩) R s := by
  obtain ⟨hh, g, dr, t, os⟩ := s
  have L0 := I.type (M := model prog w)
  have L1 := looks_mroIn (M := model prog w) X hm
  refine codeAny_call_builtin KF.slot_gs.plain KF.entry_gs (KF.slot_gs.check _ _ _ _ _ _ _ _ KF.type_class (KF.args_gs _ _ _) ?_)
  unfold Builtin.«getset_descriptor.__get__» descrGet
  rw [dga_obj]
  refine wpAny_bind (wpAny_pure ?_)
  unfold descrGetter descrCheckInstance descrNameAndClass isInstance
  simp only [KF.owner_class]
  repeat lk
  refine ⟨Code.quiet_builtin _ (by decide +kernel), codeAny_builtin KF.entry_class ?_⟩
  unfold Builtin.«object.__class__» shownTypeOf
  repeat lk
  exact h
open PySem.W PySem.Calls Builtin.ObjectAttr in
theorem exc_getattr {tk : Tok} {R : Result → Shared → Prop} (c : ClsE K D) (X : K.In s.heap) (I : ExcAt x D s.heap) (h : R (.ok (.ret (.ref D))) s) :
    codeAny (model prog w) A (.call (.builtin "BaseException.__getattribute__") ⟨[.ref x, .str "__class__" tk], []⟩) R s := by
  obtain ⟨hh, g, d, t, os⟩ := s
  have L0 := I.type (M := model prog w)
  have L1 := looks_mroIn (M := model prog w) X c.hb
  have L3 := exc_find (M := model prog w) (x := x) c X
  have hk : builtinKind "BaseException.__getattribute__" = some .slot := by decide +kernel
  have hsplit : splitId "BaseException.__getattribute__" = some ("BaseException", "__getattribute__") := by decide +kernel
  have ha := F.args_bexc_ga (.ref x) (.str "__class__" tk)
  refine codeAny_call_builtin F.excAttr_ValueError.ga.plain F.entry_bexc_ga ?_
  simp only [checkBuiltinCall, hk, hsplit]
  refine wpAny_bind ?_
  unfold isInstance
  refine wpAny_bind (L0.at (L1.at ?_))
  rw [if_neg (by decide)]
  repeat (any_goals (first | assumption | with_reducible refine L0.at ?_ | with_reducible refine L3.at ?_ | wp_step))
  exact exc_get (s := ⟨hh, g, d, t, os⟩) X I c.hm (wpAny_pure h)
open PySem.W PySem.Calls in
theorem exc_class {Q : Option Value → Shared → Prop} (c : ClsE K D) (X : K.In s.heap) (I : ExcAt x D s.heap) (h : Q (some (.ref D)) { s with toks := s.toks + 1 }) : wpAny (model prog w) A (getAttr? (.ref x) "__class__") Q E s := by
  obtain ⟨hh, g, d, t, os⟩ := s
  have L0 := I.type (M := model prog w)
  have L1 := looks_findIn (M := model prog w) X c.ga
  have L2 := looks_findIn (M := model prog w) X c.gt
  have f3 := F.excAttr_ValueError.ga.bind (.ref x)
  unfold getAttr? getAttrBy? getAttrBy
  refine wpAny_bind (wpAny_mkText (wpAny_bind (wpAny_attempt (wpAny_holding (wpAny_bind (L0.at (wpAny_bind (L1.at ?_))))))))
  have hx2 : (Value.builtin "BaseException.__getattribute__" == Value.builtin "object.__getattribute__") = false := by decide +kernel
  have hx1 : (onTheHeap (Value.ref D) && Value.builtin "BaseException.__getattribute__" == Value.builtin "object.__getattribute__") = false := by rw [hx2]; rfl
  dsimp only
  rw [if_neg (by rw [hx1]; exact Bool.false_ne_true)]
  unfold getAttrByItsOwn hookBefore
  rw [if_pos (show onTheHeap (Value.ref D) = true from rfl)]
  refine wpAny_bind (L2.at (wpAny_bind (wpAny_attempt (wpAny_holding ?_))))
  show wpAny _ _ (boundAndCalled _ _ _) _ _ _
  unfold boundAndCalled
  rw [f3]
  refine wpAny_bind (wpAny_pure (wpAny_call (exc_getattr (s := ⟨hh, g, d, t + 1, os⟩) c X I ?_)))
  exact handed_on rfl (wpAny_pure h)
open PySem.W in
theorem kitx_exc (c : ClsE K D) : KitX K (.ref x) (.ref D) (ExcAt x D) where
  ty := fun _ _ _ I => I.type
  it := fun _ _ X _ => by
    obtain ⟨cdD, hcD, _⟩ := any_some c.hd
    unfold clsIn at hcD
    split at hcD
    · rename_i c' d' cd' sl' ho
      intro A' Q' E' s' k q
      unfold isType loadHead
      exact wpAny_bind (wpAny_loadPart (k _ _ (X _ _ ho)) (wpAny_pure q))
    · cases hcD
  ne := fun h tp dd its n sl X htp => by
    obtain ⟨cdD, hcD, _⟩ := any_some c.hd
    refine Bool.eq_false_iff.mpr fun q => ?_
    have e : D = tp := Value.ref.inj (beq_iff_eq.mp q)
    subst e
    unfold clsIn at hcD
    split at hcD
    · rename_i c' d' cd' sl' ho
      have z := (X _ _ ho).symm.trans htp
      cases z
    · cases hcD
  ca := fun X I k => exc_class c X I k
end
section
variable {X : Cx} {pins : List (Addr × Obj)} {σ : L2.St} {H1 H2 : Hp} {s1 s2 : Shared}
/-- isinstance of a caught exception -/
def rIsE (K : PySem.W.Frag) (ea D : Addr) : List V → Hp → VK → Prop := fun xs H Q => (∃ C b, xs = [.ref ea, .ref C] ∧ PySem.W.kitOne K (.ref D) (.ref C) = some b ∧ Q (.bl b) H) ∨ ∃ n b, xs = [.ref ea, .ty n] ∧ PySem.W.kitOne K (.ref D) (.type n) = some b ∧ Q (.bl b) H
theorem call_isE {ea D : Addr} {oe : Obj} (hp : (ea, oe) ∈ X.pn) (hc : oe.cls = .ref D) (hn : PySem.W.notCls oe = true) (c : ClsE X.K D) : CallR X (.builtin "isinstance") (rIsE X.K ea D) := by
  intro pins s σ H xs us Q I r h
  have hE : ExcAt ea D s.heap := ⟨oe, (I.pin _ (List.mem_append_left _ hp)).1, hc, hn⟩
  rcases h with ⟨C, b, rfl, h2, q⟩ | ⟨n, b, rfl, h2, q⟩
  · obtain ⟨u, w', rfl, r1, r2⟩ := vals2 r
    cases (show u = Value.ref ea from r1)
    cases (show w' = Value.ref C from r2)
    exact PySem.W.kia_one (kitx_exc c) I.kIn hE h2 (fun z => nomatch z) fun tk => ⟨.bl b, H, I.tok tk, rfl, q⟩
  · obtain ⟨u, w', rfl, r1, r2⟩ := vals2 r
    cases (show u = Value.ref ea from r1)
    cases (show w' = Value.type n from r2)
    exact PySem.W.kia_one (kitx_exc c) I.kIn hE h2 (fun z => nomatch z) fun tk => ⟨.bl b, H, I.tok tk, rfl, q⟩
/-- behind a caught exception the def goes on -/
theorem inv_land {B : Heap} {ea C : Addr} {h' : Heap} (I : Inv X pins σ H1 s1) (O : Own X) (F : Fly X.prog X.w X.stack H1 H2 s1 s2 ea C) (stB : ∀ b o, B.get? b = some o → s2.heap.get? b = some o)
    (hB1 : ∀ b u, H2 b = some u → ∃ o, B.get? b = some o) (hB2 : ∀ b o, s1.heap.get? b = some o → H1 b = none → b ∉ frs X.stack → B.get? b = some o)
    (hB3 : ∀ b o, s1.heap.get? b = some o → b ∉ frs X.stack → ∃ o', B.get? b = some o') (st : ∀ b o, B.get? b = some o → h'.get? b = some o) (up : s2.heap.UpToSlots h') : Inv X pins σ H2 { s2 with heap := h' } := by
  have J := I.call' (s' := s2) (ch := []) F.os F.un F.hok F.bare (fun b z => nomatch z)
  have fr' : ∀ b ∈ frs X.stack, ∀ o, s2.heap.get? b = some o → ∃ sl, h'.get? b = some { o with slots := sl } := fun b hb o e => by
    obtain ⟨_, o', e', nd⟩ := J.stack.mem hb
    rw [e] at e'
    cases e'
    exact up b o e nd
  have un := J.base
  have unI := I.base
  rw [O.ex] at un unI
  have oldB : ∀ b o, X.s₀.heap.get? b = some o → X.H₀ b = none → b ∉ X.fs → B.get? b = some o := fun b o e n hb =>
    hB2 b o (unI.keep b o e n hb (by simp)) (unI.free b o e n (by simp)) (stk_ne I O e hb)
  have old3 : ∀ b o, X.s₀.heap.get? b = some o → b ∉ X.fs → ∃ o', B.get? b = some o' := fun b o e hb => by
    obtain ⟨o1, q⟩ := unI.there b o e (by simp)
    exact hB3 b o1 q (stk_ne I O e hb)
  have cellK : ∀ c v, s2.heap.IsCell c v → h'.IsCell c v := fun c v ⟨o, ho, hd⟩ => by
    obtain ⟨sl, q⟩ := up c o ho fun vs z => by rw [hd] at z; cases z
    exact ⟨_, q, hd⟩
  refine ⟨J.ok, J.os, J.bare, ?_, ?_, fun x c e => ?_, J.free, J.freeC, fun p hp => ?_, fun b u e => ?_, J.len⟩
  · rw [O.ex]
    refine ⟨fun b o e n hb hx' => st b o (oldB b o e n hb), fun b o e n hb hx' => ?_, un.free, fun b o e hx' => ?_, un.tups, un.frzs, un.tbls⟩
    · obtain ⟨sl, q⟩ := un.slot b o e n hb hx'
      obtain ⟨sl', q'⟩ := fr' b (by rw [frs_stack O]; exact List.mem_cons_of_mem _ hb) _ q
      exact ⟨sl', q'⟩
    · obtain ⟨o', q⟩ := un.there b o e hx'
      by_cases hs : b ∈ frs X.stack
      · obtain ⟨sl, q'⟩ := fr' b hs _ q
        exact ⟨_, q'⟩
      · obtain ⟨ob, z⟩ := old3 b o e fun z => hs (by rw [frs_stack O]; exact List.mem_cons_of_mem _ z)
        exact ⟨ob, st b ob z⟩
  · obtain ⟨m, ns, f⟩ := J.loc
    refine ⟨m, up.ns ns, fun i x v a b c => ?_⟩
    obtain ⟨u, r, q⟩ := f i x v a b c
    refine ⟨u, r, ?_⟩
    rcases q with q | ⟨q1, c', q2, q3⟩
    · exact .inl q
    · exact .inr ⟨q1, c', q2, cellK _ _ q3⟩
  · obtain ⟨v, q⟩ := J.cell x c e
    exact ⟨v, cellK _ _ q⟩
  · obtain ⟨p1, p2, p3, p4, p5⟩ := I.pin p hp
    refine ⟨st _ _ (hB2 _ _ p1 p2 ?_), (J.pin p hp).2.1, p3, p4, p5⟩
    rw [frs_stack O]
    intro z
    rcases List.mem_cons.mp z with q | q
    · exact p3 q
    · exact p4 q
  · refine (F.hok b u e).stay (fun c v hc q => ?_) (fun _ q => q) fun _ _ q => q
    have hc' : ∃ y, H2 c = some y := by
      rcases hc with z | z
      · rw [z]; exact ⟨u, e⟩
      · exact ⟨_, z⟩
    obtain ⟨y, hy⟩ := hc'
    obtain ⟨ob, z⟩ := hB1 c y hy
    rw [stB c ob z] at q
    cases q
    exact st c _ z
/-- in a handler's suite -/
def _root_.L2.Cx.hnd (X : Cx) (ea : Addr) (l : List (Addr × Obj)) : Cx := { X with A := X.A.mark (some (.ref ea)), calm := false, pn := l ++ X.pn, xe := fun _ _ => False }
theorem inv_hnd {H : Hp} {s : Shared} {ea : Addr} {l : List (Addr × Obj)} (I : Inv X pins σ H s) (hl : ∀ p ∈ l, s.heap.get? p.1 = some p.2 ∧ H p.1 = none ∧ p.1 ≠ X.env.locals ∧ p.1 ∉ X.fs ∧ ∀ v, p.2.data ≠ .cell v) : Inv (X.hnd ea l) pins σ H s := by
  have ok := I.ok
  refine ⟨⟨ok.mod, ok.kind, ok.glob, ok.blt, ok.above, ok.inj, ok.has, ok.cab, (fun z => nomatch z), ok.frames, ok.stk, ok.exf, ok.bs, ok.bsz, ok.noex, ok.exfs, ok.funs, ok.frf⟩, I.os, I.bare, I.base, I.loc, I.cell, I.free, I.freeC, fun p hp => ?_, I.hok, I.len⟩
  rw [show (X.hnd ea l).pn = l ++ X.pn from rfl, List.append_assoc] at hp
  rcases List.mem_append.mp hp with q | q
  · exact hl p q
  · exact I.pin p q
theorem inv_unhnd {H : Hp} {s : Shared} {ea : Addr} {l : List (Addr × Obj)} (ok : X.Ok) (I : Inv (X.hnd ea l) pins σ H s) : Inv X pins σ H s :=
  ⟨ok, I.os, I.bare, I.base, I.loc, I.cell, I.free, I.freeC, fun p hp => I.pin p (by rw [show (X.hnd ea l).pn = l ++ X.pn from rfl, List.append_assoc]; exact List.mem_append_right _ hp), I.hok, I.len⟩
theorem call_isH {ea D : Addr} {oe : Obj} {l : List (Addr × Obj)} (hp : (ea, oe) ∈ l) (hc : oe.cls = .ref D) (hn : PySem.W.notCls oe = true) (c : ClsE X.K D) : CallR (X.hnd ea l) (.builtin "isinstance") (rIsE X.K ea D) := call_isE (X := X.hnd ea l) (List.mem_append_left _ hp) hc hn c
/-- an expression that may raise -/
def PEx (X : Cx) (e : Expr) (t : XK → TE) : Prop :=
  ∀ (E : XK) (pins : List (Addr × Obj)) (s : Shared) (σ : L2.St) (H : Hp) (Q : VK), Inv X pins σ H s → t E σ H Q →
    wpAny (model X.prog X.w) X.A (eval e X.env) (EP X pins σ Q) (fun v s' => ∃ H1 s1, Inv X pins σ H1 s1 ∧ CXE X.prog X.w X.stack H1 s1 E v s') s
theorem pex_call {k : Nat} {f : Addr} {fd : FuncData} {ps : List Str} {sp : Sp} {x : Str} {p pos : Pos} {e : Expr} {es : List Expr} {t : TA} (F : FnOk X.prog X.w X.K X.mg X.base (CXE X.prog X.w) k f fd ps sp) (hr : Room k X.A) (hg : Gl X x) (hm : X.mg x = some (.ref f)) (hk : PySem.W.keepIn X.K (.ref f) = true) (hb : Binds X.K fd ps [])
    (ha : PA X.nox (e :: es) t) (hdb : (x == ("__debug__" : Str)) = false := by decide) (he : starEach (e :: es) X.env = (false, eval e X.env) :: starEach es X.env := by rfl) (hpl : (backTo pos (starEach es X.env)).any (·.1) = false := by rfl) :
    PEx X (.Call (.Name x p) (e :: es) [] pos) (fun E => tCall sp [] E t) := by
  intro E pins s σ H Q I h
  refine wpAny_Call_Name_kw (ld_glob I hg hm ?_ hdb)
  refine PySem.W.callWith_K (h₀ := X.base) I.ok.mod.kin hk (wpAny_mono (ha pos pins s σ H _ (I.wish _) h) (fun us s1 ⟨vs, H1, I1', r, q⟩ => ⟨I1'.kIn, ?_⟩) fun _ _ z => False.elim z) he hpl
  have I1 := I1'.unwish
  have hl : us.length = ps.length := by
    rw [← r.length]
    have := F.len _ _ _ _ q
    rwa [List.append_nil] at this
  have hb1 := hb s1 us I1.kIn (by rw [List.append_nil]; exact hl)
  have q : sp (vs ++ []) H1 Q E := q
  rw [List.append_nil] at hb1 q
  refine wpAny_call (codeAny_mono (F.run X.A X.stack s1 H1 ⟨us, []⟩ us vs Q E hr I1.env0 hb1 r q) fun r s' hq => ?_)
  cases r with
  | error e => exact ⟨H1, s1, I1, hq⟩
  | ok fl =>
    cases fl with
    | ret u => exact I1.after hq
    | next => exact False.elim hq
    | brk => exact False.elim hq
    | cont => exact False.elim hq
theorem pex_gf {k : Nat} {ps : List Str} {sp : Sp} {x : Str} {p pos : Pos} {e : Expr} {es : List Expr} {t : TA} (G : GF X.prog X.w X.K X.mg X.base (CXE X.prog X.w) k x ps sp) (hr : Room k X.A) (hg : Gl X x) (ha : PA X.nox (e :: es) t) (h : (e :: es).all plainE = true := by rfl) (hdb : (x == ("__debug__" : Str)) = false := by decide) :
    PEx X (.Call (.Name x p) (e :: es) [] pos) (fun E => tCall sp [] E t) := by
  obtain ⟨f, fd, F, hm, hk, hb⟩ := G
  rw [List.all_cons, Bool.and_eq_true] at h
  exact pex_call F hr hg hm hk hb ha hdb (star_plain h.1) (star_any h.2)
/-- what the try wants of an exception: the handler's class takes it, the suite goes on -/
def Caught (K : PySem.W.Frag) (CH : Addr) (R : Addr → Addr → Hp → Prop) : XK := fun v C H' => ∃ ea C0, v = .ref ea ∧ C = some C0 ∧ PySem.W.exmOne K (.ref C0) (.ref CH) = some true ∧ R ea C0 H'
theorem looks_fly {M : Model} {B h : Heap} {l : List Env} {e C : Addr} {a0 : Value} (x : Heap.FlyingW B l e (.ref C) a0 h) : PySem.W.Looks M h (typeOf (.ref e)) (.ref C) := by
  obtain ⟨ob, h1, h2⟩ := x.there
  exact h2 ▸ (PySem.W.Looks.ld h1).andThen .now
section
variable {i : Nat} {x cn n : Str} {CH : Addr} {e : Expr} {t : XK → TE} {ts : TS} {b₀ : Stmt} {bs : List Stmt} {p1 p2 p3 p4 p5 : Pos}
/-- try: x = e, except C: suite -/
def tTryA (K : PySem.W.Frag) (CH : Addr) (i : Nat) (t : XK → TE) (ts : TS) : TS := fun D σ H => t (Caught K CH fun _ _ H' => ts D σ H') σ H fun v H1 => D.nx (σ.set i (some v)) H1
theorem ps_tryA (O : Own X) (hN : X.N.Nodup) (hi : X.N[i]? = some x) (hx : Loc X.env.scope x) (he : PEx X e t) (hgl : Gl X cn) (hm : X.mg cn = some (.ref CH)) (hs : ∀ ea, PSs (X.hnd ea []) (b₀ :: bs) ts)
    (hsw : swapsWith e (some (.Name x p1)) p2.line X.env = pure false := by rfl) (hf : X.fn x = true ∨ X.env.scope.names.lookup x = some .local := by first | exact .inl rfl | exact .inr rfl | assumption) (hdb : (cn == ("__debug__" : Str)) = false := by decide) :
    PS X (.Try [.Assign [.Name x p1] e p2] [.ExceptHandler (some (.Name cn p3)) none (b₀ :: bs) p4] [] [] p5) (tTryA X.K CH i t ts) := by
  intro pins s σ H D I h
  refine wpAny_Try_except (wpAny_execs_cons (wpAny_Assign_Name (wpAny_mono (he _ pins s σ H _ I h) (fun v s1 ⟨y, H1, I1, r1, q1⟩ => ?_) fun ev s1 hx' => ?_) hsw))
  · exact store_ok I1 hN hi hx r1 (fun s2 I2 => wpAny_execs_nil (wpAny_execs_nil ⟨_, H1, I2, q1⟩)) hf
  · obtain ⟨H1, s0, I1, ea, C, H2, rfl, F, ea', C0, e1, e2, hex, hts⟩ := hx'
    cases e1
    cases e2
    obtain ⟨B, a0, hfl, hB1, hB2, hB3⟩ := F.fl
    have hfl' := hfl
    rw [O.stk] at hfl'
    refine wpAny_looks_onW (by rw [I1.ok.frames, O.stk]) O.fr hfl' fun h2 held up2 => wpAny_landsW held fun h3 fl3 up3 => ?_
    have J := inv_land I1 O F hfl.1 hB1 hB2 hB3 fl3.1 (up2.trans up3)
    refine wpAny_handleBy_cons (codeAny_handlers_test ?_) (by intro q; cases q)
    refine ld_glob (X := X.hnd ea []) (inv_hnd J fun p hp => nomatch hp) hgl hm ?_ hdb
    refine (PySem.W.exm_one (J.kIn) (looks_fly fl3) hex).here ?_
    refine codeAny_handlers_suite (lands_againW fl3 fun h4 fl4 up4 => ?_)
    have J4 := inv_land I1 O F hfl.1 hB1 hB2 hB3 fl4.1 ((up2.trans up3).trans up4)
    refine wpAny_mono (hs ea pins _ σ H2 D (inv_hnd J4 fun p hp => nomatch hp) hts) (fun f s' q => ?_) fun _ _ z => z.elim
    cases f with
    | next => obtain ⟨σ', H', I', q⟩ := q; exact ⟨σ', H', inv_unhnd I.ok I', q⟩
    | brk => obtain ⟨σ', H', I', q⟩ := q; exact ⟨σ', H', inv_unhnd I.ok I', q⟩
    | cont => obtain ⟨σ', H', I', q⟩ := q; exact ⟨σ', H', inv_unhnd I.ok I', q⟩
    | ret u => obtain ⟨v, σ', H', I', r, q⟩ := q; exact ⟨v, σ', H', inv_unhnd I.ok I', r, q⟩
/-- the names forgotten -/
theorem inv_forget {H : Hp} {s : Shared} {h' : Heap} {m' : Str → Option Value} {tk : Nat} (I : Inv X pins σ H s) (ns : h'.Ns X.env.locals m') (sb : Heap.SameBut X.env.locals s.heap h') : Inv X pins (List.replicate X.N.length none) H { s with heap := h', toks := tk } := by
  have other : ∀ b, b ≠ X.env.locals → h'.get? b = s.heap.get? b := fun b hb => sb.2 b hb
  have neL : ∀ b o, X.s₀.heap.get? b = some o → b ≠ X.env.locals := fun b o e => Nat.ne_of_lt (Nat.lt_of_lt_of_le (Heap.lt_size e) I.ok.above)
  have trL : ∀ b u, H b = some u → b ≠ X.env.locals := fun b u e z => by rw [z, I.free] at e; cases e
  refine ⟨I.ok, I.os, I.bare, ⟨fun b o e n hb hx' => ?_, fun b o e n hb hx' => ?_, I.base.free, fun b o e hx' => ?_, I.base.tups, I.base.frzs, I.base.tbls⟩, ⟨m', ns, fun i x v a b c => ?_⟩, fun x c e => ?_, I.free, I.freeC, fun p hp => ?_, fun b u e => ?_, by simp⟩
  · exact (other b (neL b o e)).trans (I.base.keep b o e n hb hx')
  · obtain ⟨sl, q⟩ := I.base.slot b o e n hb hx'
    exact ⟨sl, (other b (neL b o e)).trans q⟩
  · obtain ⟨o', q⟩ := I.base.there b o e hx'
    exact ⟨o', (other b (neL b o e)).trans q⟩
  · rw [List.getElem?_replicate] at b
    split at b <;> cases b
  · obtain ⟨v, o, ho, hd⟩ := I.cell x c e
    exact ⟨v, o, (other c (I.cne x c e)).trans ho, hd⟩
  · obtain ⟨a1, a2, a3, a4, a5⟩ := I.pin p hp
    exact ⟨(other _ a3).trans a1, a2, a3, a4, a5⟩
  · refine (I.hok b u e).stay (fun c v hc q => ?_) (fun _ q => q) fun _ _ q => q
    have hc' : c ≠ X.env.locals := by
      rcases hc with z | z
      · rw [z]; exact trL b u e
      · exact trL c _ z
    exact (other c hc').trans q
/-- try: e, except C as n: a suite that returns -/
def tTryB (K : PySem.W.Frag) (CH CN : Addr) (i : Nat) (t : XK → TE) (ts : Addr → TS) : TS := fun D σ H => t (Caught K CH fun ea C0 H' => C0 = CN ∧ ts ea { nx := fun _ _ => False, bk := fun _ _ => False, ct := fun _ _ => False, rt := D.rt } (σ.set i (some (.ref ea))) H') σ H fun _ H1 => D.nx σ H1
theorem ps_tryB {CN : Addr} {tsf : Addr → TS} (O : Own X) (hN : X.N.Nodup) (hi : X.N[i]? = some n) (hx : X.env.scope.names.lookup n = some .local) (he : PEx X e t) (hgl : Gl X cn) (hm : X.mg cn = some (.ref CH))
    (hs : ∀ ea oe, oe.cls = .ref CN → PySem.W.notCls oe = true → PSs (X.hnd ea [(ea, oe)]) (b₀ :: bs) (tsf ea))
    (hsw : swapsWith e none p2.line X.env = pure false := by rfl) (hdb : (cn == ("__debug__" : Str)) = false := by decide) :
    PS X (.Try [.Expr e p2] [.ExceptHandler (some (.Name cn p3)) (some n) (b₀ :: bs) p4] [] [] p5) (tTryB X.K CH CN i t tsf) := by
  intro pins s σ H D I h
  refine wpAny_Try_except (wpAny_execs_cons (wpAny_Expr_any (wpAny_mono (he _ pins s σ H _ I h) (fun v s1 ⟨y, H1, I1, r1, q1⟩ => ?_) fun ev s1 hx' => ?_) I.quiet hsw))
  · exact wpAny_execs_nil (wpAny_execs_nil ⟨_, H1, I1, q1⟩)
  · obtain ⟨H1, s0, I1, ea, C, H2, rfl, F, ea', C0, e1, e2, hex, e3, hts⟩ := hx'
    cases e1
    cases e2
    subst e3
    obtain ⟨B, a0, hfl, hB1, hB2, hB3⟩ := F.fl
    have hfl' := hfl
    rw [O.stk] at hfl'
    refine wpAny_looks_onW (by rw [I1.ok.frames, O.stk]) O.fr hfl' fun h2 held up2 => wpAny_landsW held fun h3 fl3 up3 => ?_
    have J := inv_land I1 O F hfl.1 hB1 hB2 hB3 fl3.1 (up2.trans up3)
    refine wpAny_handleBy_cons (codeAny_handlers_test ?_) (by intro q; cases q)
    refine ld_glob (X := X.hnd ea []) (inv_hnd J fun p hp => nomatch hp) hgl hm ?_ hdb
    refine (PySem.W.exm_one (J.kIn) (looks_fly fl3) hex).here ?_
    refine codeAny_handlers_suite_as (lands_againW fl3 fun h4 fl4 up4 => ?_)
    have J4 := inv_land I1 O F hfl.1 hB1 hB2 hB3 fl4.1 ((up2.trans up3).trans up4)
    obtain ⟨oe, vs, f1, f2, f3, _⟩ := fl4.first
    have hne : ∀ b u, H2 b = some u → b ≠ ea := fun b u q z => by
      obtain ⟨o, q'⟩ := hB1 b u q
      rw [z, fl4.2.1] at q'
      cases q'
    have hfree : H2 ea = none := by
      cases q : H2 ea with
      | none => rfl
      | some u => exact absurd rfl (hne ea u q)
    have J5 : Inv (X.hnd ea [(ea, oe)]) pins σ H2 _ := inv_hnd J4 fun p hp => by
      cases List.mem_singleton.mp hp
      refine ⟨f1, hfree, fun z => ?_, fun z => ?_, fun v z => by rw [f3] at z; cases z⟩
      · obtain ⟨m, ns, _⟩ := J4.loc
        obtain ⟨oL, es, ep, hL, hd, _⟩ := ns
        have z : ea = X.env.locals := z
        rw [← z, f1] at hL
        cases hL
        rw [f3] at hd
        cases hd
      · have z : ea ∈ frs X.stack := by rw [frs_stack O]; exact List.mem_cons_of_mem _ z
        obtain ⟨_, o', e', nd⟩ := J4.stack.mem z
        rw [f1] at e'
        cases e'
        exact nd vs f3
    refine store_ok (X := X.hnd ea [(ea, oe)]) J5 hN hi (.inl hx) (v := .ref ea) rfl (fun s5 J6 => ?_) (.inr hx)
    refine wpAny_mono (hs ea oe f2 (by unfold PySem.W.notCls; rw [f3]) pins s5 _ H2 _ J6 hts) (fun f s' q => ?_) fun _ _ z => z.elim
    cases f with
    | next => obtain ⟨_, _, _, q⟩ := q; exact q.elim
    | brk => obtain ⟨_, _, _, q⟩ := q; exact q.elim
    | cont => obtain ⟨_, _, _, q⟩ := q; exact q.elim
    | ret u =>
      obtain ⟨v, σ', H', I', r, q⟩ := q
      have I7 := inv_unhnd I.ok I'
      obtain ⟨m, ns, _⟩ := I7.loc
      exact wpAny_nameGoes hx ns (by rw [I.ok.kind]; rfl) fun h' m' ns' sb => ⟨v, _, H', inv_forget I7 ns' sb, r, q⟩
end
end
end NC
namespace NC
open PySem PySem.Spec PyProof.Rows L2
section
variable {P : Program} {w : World} {K : PySem.W.Frag} {mg : Str → Option Value} {base : Heap}
/-- a class of exceptions as the fragment has it -/
theorem exc_of {x : Str} {C : Addr} (X : K.In base) (hm : mg x = some (.ref C)) (q : PySem.W.excIn K C [.type "ValueError", .type "Exception", .type "BaseException", .type "object"] "ValueError.__new__" = true) : ExcC x C mg base := by
  refine ⟨⟨hm, ?_⟩⟩
  unfold PySem.W.excIn at q
  split at q
  · rename_i dd cd sl ho
    split at q
    · rename_i C' bm k0 k1 k2 k3 n k5 hm hs
      simp only [Bool.and_eq_true, beq_iff_eq, Bool.not_eq_true'] at q
      obtain ⟨⟨⟨⟨⟨rfl, rfl⟩, hdel⟩, ht⟩, hok⟩, hni⟩ := q
      obtain ⟨nm, bs, mro, ns, qn, hd, sn, sub, ab, col, del⟩ := cd
      dsimp only at hm hdel hok hni
      subst hm hdel
      have hsl : sl = #[k0, k1, k2, k3, some (.builtin "ValueError.__new__"), k5] := by
        obtain ⟨l⟩ := sl
        simp only at hs
        rw [hs]
      subst hsl
      exact ⟨bm, ns, nm, qn, bs, hd, sn, sub, ab, col, dd, k0, k1, k2, k3, k5, _, X _ _ ho, .of_isNs (PySem.W.isNs_of_in X hok), PySem.W.nsMap_none_of_in X hok hni, PySem.W.tail_of_in X ht⟩
    · cases q
  · cases q
end
end NC
/-! ### x = [.. for ..]: the store lies within the comprehension -/
namespace NC
open PySem PySem.Spec PyProof.Rows L2
end NC
/-! ### lambdas where the code's table holds several -/
namespace NC
open PySem PySem.Spec PyProof.Rows L2
/-- the j-th argument of the call that the i-th statement sets a name to -/
def asgArg (s : Stmt) (i j : Nat) : Expr := match (defBody s).getD i (.Pass ⟨0, 0, 0, 0⟩) with
  | .Assign _ (.Call f es _ _) _ => es.getD j f
  | _ => .Name "" ⟨0, 0, 0, 0⟩
section
inductive TLamGI (P : Addr) (pos : Pos) (qual : Str) (params : Arguments) (body : Expr) (scope : Scope) (clos : List (Str × Addr)) (H : Hp) (Q : VK) : Prop where
  | new (ps : Array Value) (t : H P = some (.tbl ps)) (ok : TriplesOk ps.toList) (no : codeAmong pos ps.toList = none)
      (k : ∀ f c H', H f = none → SameX H H' → H' P = some (.tbl (ps ++ #[rawInt pos.line, rawInt pos.col, .ref c])) → H' c = some (CodeX c qual) → H' f = some (FnObjL f c qual params body scope clos) →
        (∀ Q : Addr, Q ≠ P → ∀ ps, H Q = some (.tbl ps) → H' Q = some (.tbl ps)) → Q (.ref f) H')
  | old (ps : Array Value) (c : Addr) (t : H P = some (.tbl ps)) (ok : TriplesOk ps.toList) (hit : codeAmong pos ps.toList = some (.ref c)) (tc : H c = some (CodeX c qual))
      (k : ∀ f H', H f = none → Same H H' → H' f = some (FnObjL f c qual params body scope clos) → Q (.ref f) H')
def tLamG (P : Addr) (pos : Pos) (qual : Str) (params : Arguments) (body : Expr) (scope : Scope) (clos : List (Str × Addr)) : TE := fun _ H Q => TLamGI P pos qual params body scope clos H Q
variable {X : Cx} {pins : List (Addr × Obj)} {σ : L2.St} {H : Hp} {s : Shared}
theorem pe_lamG {qual : Str} {params : Arguments} {body : Expr} {scope : Scope} {pos : Pos} {c0 P : Addr} {clos : List (Str × Addr)} (hcode : X.env.code = .ref c0) (hC : PySem.W.codeHdIn X.K c0 P = true) (BB : BltAt X.base X.mg)
    (hcl : closureFor scope X.env = pure clos) (hq : X.env.qual ++ "<lambda>" = qual) (hdef : defaultsOf params X.env = ([], []) := by rfl) :
    PE X (.Lambda params body scope pos) (tLamG P pos qual params body scope clos) := by
  intro pins s σ H Q I h
  refine PySem.W.kla_eval hdef ?_
  rw [hq]
  have hg : s.heap.Ns mainGlobals X.mg := I.mod.glob.keeps I.bk
  have CH : PySem.W.CodeHd s.heap c0 P := PySem.W.codeHd_of_K I.kIn hC
  obtain ⟨bm, ob, b1, b2, b3, b4, b5, b6⟩ := BB
  have trk : ∃ ps, H P = some (.tbl ps) := by
    cases h with
    | new ps t _ _ _ => exact ⟨_, t⟩
    | old ps c t _ _ _ _ => exact ⟨_, t⟩
  have nP : ∀ b o, X.base.get? b = some o → b ≠ P := fun b o e z => by
    obtain ⟨ps, t⟩ := trk
    rw [z] at e
    rw [(I.bs P o e).2] at t
    cases t
  have hgP : mainGlobals ≠ P := by
    obtain ⟨o, es, ep, e, _⟩ := I.mod.glob
    exact nP _ _ e
  have hbG : bm ≠ mainGlobals := fun q => by
    obtain ⟨o, es, ep, e, hd, _⟩ := I.mod.glob
    rw [q, e] at b3
    cases b3
    rw [hd] at b6
    cases b6
  have hB : s.heap.BuiltinsAt X.mg P := ⟨bm, ob, b1, b2, hbG, nP _ _ b3, I.bk _ _ b3, b4, b5, b6⟩
  cases h with
  | new ps t ok no k =>
    have hP : s.heap.get? P = some (PySem.W.tabObj ps) := tbl_at I t
    refine PySem.W.kla_makeFunction (mg := X.mg) hcl I.ok.glob hg hcode CH hP ok no hgP hB fun c' ctv h' tk hx' hge hlt hrec htb => ?_
    have szf : s.heap.objs.size ≤ h'.objs.size := Nat.le_trans hge (Nat.le_of_lt hlt)
    have oldP : ∀ b o, b ≠ P → s.heap.get? b = some o → (h'.push (PySem.W.kla_obj "<lambda>" qual params body scope clos ((X.mg "__name__").getD .none) c' ctv)).get? b = some o := fun b o n e => Heap.get?_push_of_some _ (hx' b o n e)
    have nc : ∀ b o, s.heap.get? b = some o → b ≠ c' := fun b o e => Nat.ne_of_lt (Nat.lt_of_lt_of_le (Heap.lt_size e) hge)
    have nf : ∀ b o, s.heap.get? b = some o → b ≠ h'.objs.size := fun b o e => Nat.ne_of_lt (Nat.lt_of_lt_of_le (Heap.lt_size e) szf)
    have tr : ∀ b u, H b = some u → ∃ o, s.heap.get? b = some o := fun b u e => objok_there (I.hok b u e)
    have hcf : c' ≠ h'.objs.size := Nat.ne_of_lt hlt
    have H'b : ∀ b o, b ≠ P → (∃ ob, s.heap.get? b = some ob) → H b = o → (upd (upd (upd H P (.tbl (ps ++ #[rawInt pos.line, rawInt pos.col, .ref c']))) c' (CodeX c' qual)) h'.objs.size (FnObjL h'.objs.size c' qual params body scope clos)) b = o := fun b o n ⟨ob, e⟩ q => by
      rw [upd_ne (nf b ob e), upd_ne (nc b ob e), upd_ne n, q]
    have nfree : ∀ b, H b = none → b ≠ P := fun b n z => by rw [z, t] at n; cases n
    have eP : (upd (upd (upd H P (.tbl (ps ++ #[rawInt pos.line, rawInt pos.col, .ref c']))) c' (CodeX c' qual)) h'.objs.size (FnObjL h'.objs.size c' qual params body scope clos)) P = some (.tbl (ps ++ #[rawInt pos.line, rawInt pos.col, .ref c'])) := by
      rw [upd_ne (nf P _ hP), upd_ne (nc P _ hP), upd_same]
    have eC : (upd (upd (upd H P (.tbl (ps ++ #[rawInt pos.line, rawInt pos.col, .ref c']))) c' (CodeX c' qual)) h'.objs.size (FnObjL h'.objs.size c' qual params body scope clos)) c' = some (CodeX c' qual) := by
      rw [upd_ne hcf, upd_same]
    have I' : Inv X pins σ (upd (upd (upd H P (.tbl (ps ++ #[rawInt pos.line, rawInt pos.col, .ref c']))) c' (CodeX c' qual)) h'.objs.size (FnObjL h'.objs.size c' qual params body scope clos))
        { s with heap := h'.push (PySem.W.kla_obj "<lambda>" qual params body scope clos ((X.mg "__name__").getD .none) c' ctv), toks := tk } := by
      refine I.step (g' := s.gens) (d' := s.drawn) (ch := []) (fun _ z => nomatch z) (fun b o _ _ _ e n => oldP b o (nfree b n) e) (fun b o _ _ _ e n => ⟨o.slots, oldP b o (nfree b n) e⟩) (fun b o _ e n => H'b b none (nfree b n) ⟨o, e⟩ n)
        (fun b o _ e => ?_) (fun b xs e => H'b b _ (fun z => by rw [z, t] at e; cases e) (tr b _ e) e) (fun b ob u e => H'b b _ (fun z => by rw [z, t] at e; cases e) (tr b _ e) e) (fun b qs e => ?_) (fun m hm => ?_) (fun b u e => ?_) I.bare
      · by_cases hb : b = P
        · subst hb
          exact ⟨_, Heap.get?_push_of_some _ htb⟩
        · exact ⟨o, oldP b o hb e⟩
      · by_cases hb : b = P
        · subst hb
          rw [t] at e
          cases e
          exact ⟨#[rawInt pos.line, rawInt pos.col, .ref c'], eP⟩
        · exact ⟨#[], by rw [H'b b _ hb (tr b _ e) e]; simp⟩
      · obtain ⟨o, es, ep, e, r⟩ := hm
        exact ⟨o, es, ep, oldP _ o (nfree _ I.free) e, r⟩
      · by_cases h1 : b = h'.objs.size
        · subst h1
          rw [upd_same] at e
          cases e
          exact fnObjL_ok (Heap.get?_push_size _ rfl)
        · rw [upd_ne h1] at e
          by_cases h2 : b = c'
          · subst h2
            rw [upd_same] at e
            cases e
            exact codeX_ok (hrec.keeps fun b o q => Heap.get?_push_of_some _ q)
          · rw [upd_ne h2] at e
            by_cases h3 : b = P
            · subst h3
              rw [upd_same] at e
              cases e
              show (h'.push _).get? _ = some _
              exact Heap.get?_push_of_some _ htb
            · rw [upd_ne h3] at e
              refine (I.hok b u e).stay (fun d v hd q => oldP d v ?_ q) (fun d q => H'b d _ (fun z => by rw [z, t] at q; cases q) (tr d _ q) q) fun d xs q => H'b d _ (fun z => by rw [z, t] at q; cases q) (tr d _ q) q
              rcases hd with rfl | hd
              · exact h3
              · intro z; rw [z, t] at hd; cases hd
    refine ⟨.ref h'.objs.size, _, I', rfl, k h'.objs.size c' _ (I.hok.fresh szf) (fun b o n q => ?_) eP eC upd_same fun Q hQ qs q => ?_⟩
    · exact H'b b _ (fun z => by rw [z, t] at q; cases q; exact n _ rfl) (tr b _ q) q
    · exact H'b Q _ hQ (tr Q _ q) q
  | old ps c t ok hit tc k =>
    have hP : s.heap.get? P = some (PySem.W.tabObj ps) := tbl_at I t
    refine PySem.W.kla_makeFunctionHit (mg := X.mg) (cv := .ref c) hcl I.ok.glob hg hcode CH hP ok hit hB fun ctv h' tk hk hsz => ?_
    have hfr : H h'.objs.size = none := I.hok.fresh hsz
    have I' : Inv X pins σ (upd H h'.objs.size (FnObjL h'.objs.size c qual params body scope clos)) { s with heap := h'.push (PySem.W.kla_obj "<lambda>" qual params body scope clos ((X.mg "__name__").getD .none) c ctv), toks := tk } :=
      I.laid (fun b o e => Heap.get?_push_of_some _ (hk b o e)) hsz (fnObjL_ok (Heap.get?_push_size _ rfl))
    have sm : Same H (upd H h'.objs.size (FnObjL h'.objs.size c qual params body scope clos)) := same_new hfr
    exact ⟨.ref h'.objs.size, _, I', rfl, k h'.objs.size _ hfr sm upd_same⟩
end
end NC
/-! ### defs within defs where the code's table holds several -/
namespace NC
open PySem PySem.Spec PyProof.Rows L2
section
inductive TDefGI (P : Addr) (pos : Pos) (i : Nat) (name qual : Str) (params : Arguments) (body : List Stmt) (scope : Scope) (clos : List (Str × Addr)) (D : Ends) (σ : L2.St) (H : Hp) : Prop where
  | new (ps : Array Value) (t : H P = some (.tbl ps)) (ok : TriplesOk ps.toList) (no : codeAmong pos ps.toList = none)
      (k : ∀ f c H', H f = none → SameX H H' → H' P = some (.tbl (ps ++ #[rawInt pos.line, rawInt pos.col, .ref c])) → H' c = some (CodeX c qual) → H' f = some (FnObj f c name qual params body scope clos) →
        (∀ Q : Addr, Q ≠ P → ∀ ps, H Q = some (.tbl ps) → H' Q = some (.tbl ps)) → D.nx (σ.set i (some (.ref f))) H')
  | old (ps : Array Value) (c : Addr) (t : H P = some (.tbl ps)) (ok : TriplesOk ps.toList) (hit : codeAmong pos ps.toList = some (.ref c)) (tc : H c = some (CodeX c qual))
      (k : ∀ f H', H f = none → Same H H' → H' f = some (FnObj f c name qual params body scope clos) → D.nx (σ.set i (some (.ref f))) H')
def tDefG (P : Addr) (pos : Pos) (i : Nat) (name qual : Str) (params : Arguments) (body : List Stmt) (scope : Scope) (clos : List (Str × Addr)) : TS := fun D σ H => TDefGI P pos i name qual params body scope clos D σ H
variable {X : Cx} {pins : List (Addr × Obj)} {σ : L2.St} {H : Hp} {s : Shared}
theorem ps_defG {name qual : Str} {params : Arguments} {body : List Stmt} {scope : Scope} {pos : Pos} {i : Nat} {c0 P : Addr} {clos : List (Str × Addr)} (hcode : X.env.code = .ref c0) (hC : PySem.W.codeHdIn X.K c0 P = true) (BB : BltAt X.base X.mg)
    (hN : X.N.Nodup) (hi : X.N[i]? = some name) (hx : Loc X.env.scope name) (hcl : closureFor scope X.env = pure clos) (hq : qualnameIn X.env name name = qual) (hd0 : params.defaults = [] := by rfl) (hk0 : params.kw_defaults = [] := by rfl)
    (ha : annTrees params none X.env = [] := by rfl) (hf : X.fn name = true ∨ X.env.scope.names.lookup name = some .local := by first | exact .inl rfl | exact .inr rfl) :
    PS X (.FunctionDef name params body [] none [] scope none name pos) (tDefG P pos i name qual params body scope clos) := by
  intro pins s σ H D I h
  refine PySem.W.nestDef_K hd0 hk0 ha ?_
  rw [hq]
  have hg : s.heap.Ns mainGlobals X.mg := I.mod.glob.keeps I.bk
  have CH : PySem.W.CodeHd s.heap c0 P := PySem.W.codeHd_of_K I.kIn hC
  obtain ⟨bm, ob, b1, b2, b3, b4, b5, b6⟩ := BB
  have trk : ∃ ps, H P = some (.tbl ps) := by
    cases h with
    | new ps t _ _ _ => exact ⟨_, t⟩
    | old ps c t _ _ _ _ => exact ⟨_, t⟩
  have nP : ∀ b o, X.base.get? b = some o → b ≠ P := fun b o e z => by
    obtain ⟨ps, t⟩ := trk
    rw [z] at e
    rw [(I.bs P o e).2] at t
    cases t
  have hgP : mainGlobals ≠ P := by
    obtain ⟨o, es, ep, e, _⟩ := I.mod.glob
    exact nP _ _ e
  have hbG : bm ≠ mainGlobals := fun q => by
    obtain ⟨o, es, ep, e, hd, _⟩ := I.mod.glob
    rw [q, e] at b3
    cases b3
    rw [hd] at b6
    cases b6
  have hB : s.heap.BuiltinsAt X.mg P := ⟨bm, ob, b1, b2, hbG, nP _ _ b3, I.bk _ _ b3, b4, b5, b6⟩
  cases h with
  | new ps t ok no k =>
    have hP : s.heap.get? P = some (PySem.W.tabObj ps) := tbl_at I t
    refine PySem.W.makeFunction_K (mg := X.mg) hcl I.ok.glob hg hcode CH hP ok no hgP hB fun c' ctv doc h' tk hx' hge hlt hrec htb => ?_
    have szf : s.heap.objs.size ≤ h'.objs.size := Nat.le_trans hge (Nat.le_of_lt hlt)
    have oldP : ∀ b o, b ≠ P → s.heap.get? b = some o → (h'.push (fnObjX name qual params body scope clos doc ((X.mg "__name__").getD .none) c' ctv)).get? b = some o := fun b o n e => Heap.get?_push_of_some _ (hx' b o n e)
    have nc : ∀ b o, s.heap.get? b = some o → b ≠ c' := fun b o e => Nat.ne_of_lt (Nat.lt_of_lt_of_le (Heap.lt_size e) hge)
    have nf : ∀ b o, s.heap.get? b = some o → b ≠ h'.objs.size := fun b o e => Nat.ne_of_lt (Nat.lt_of_lt_of_le (Heap.lt_size e) szf)
    have tr : ∀ b u, H b = some u → ∃ o, s.heap.get? b = some o := fun b u e => objok_there (I.hok b u e)
    have hcf : c' ≠ h'.objs.size := Nat.ne_of_lt hlt
    have H'b : ∀ b o, b ≠ P → (∃ ob, s.heap.get? b = some ob) → H b = o → (upd (upd (upd H P (.tbl (ps ++ #[rawInt pos.line, rawInt pos.col, .ref c']))) c' (CodeX c' qual)) h'.objs.size (FnObj h'.objs.size c' name qual params body scope clos)) b = o := fun b o n ⟨ob, e⟩ q => by
      rw [upd_ne (nf b ob e), upd_ne (nc b ob e), upd_ne n, q]
    have nfree : ∀ b, H b = none → b ≠ P := fun b n z => by rw [z, t] at n; cases n
    have hPb : (∃ ob, s.heap.get? P = some ob) := ⟨_, hP⟩
    have eP : (upd (upd (upd H P (.tbl (ps ++ #[rawInt pos.line, rawInt pos.col, .ref c']))) c' (CodeX c' qual)) h'.objs.size (FnObj h'.objs.size c' name qual params body scope clos)) P = some (.tbl (ps ++ #[rawInt pos.line, rawInt pos.col, .ref c'])) := by
      rw [upd_ne (nf P _ hP), upd_ne (nc P _ hP), upd_same]
    have eC : (upd (upd (upd H P (.tbl (ps ++ #[rawInt pos.line, rawInt pos.col, .ref c']))) c' (CodeX c' qual)) h'.objs.size (FnObj h'.objs.size c' name qual params body scope clos)) c' = some (CodeX c' qual) := by
      rw [upd_ne hcf, upd_same]
    have I' : Inv X pins σ (upd (upd (upd H P (.tbl (ps ++ #[rawInt pos.line, rawInt pos.col, .ref c']))) c' (CodeX c' qual)) h'.objs.size (FnObj h'.objs.size c' name qual params body scope clos))
        { s with heap := h'.push (fnObjX name qual params body scope clos doc ((X.mg "__name__").getD .none) c' ctv), toks := tk } := by
      refine I.step (g' := s.gens) (d' := s.drawn) (ch := []) (fun _ z => nomatch z) (fun b o _ _ _ e n => oldP b o (nfree b n) e) (fun b o _ _ _ e n => ⟨o.slots, oldP b o (nfree b n) e⟩) (fun b o _ e n => H'b b none (nfree b n) ⟨o, e⟩ n)
        (fun b o _ e => ?_) (fun b xs e => H'b b _ (fun z => by rw [z, t] at e; cases e) (tr b _ e) e) (fun b ob u e => H'b b _ (fun z => by rw [z, t] at e; cases e) (tr b _ e) e) (fun b qs e => ?_) (fun m hm => ?_) (fun b u e => ?_) I.bare
      · by_cases hb : b = P
        · subst hb
          exact ⟨_, Heap.get?_push_of_some _ htb⟩
        · exact ⟨o, oldP b o hb e⟩
      · by_cases hb : b = P
        · subst hb
          rw [t] at e
          cases e
          exact ⟨#[rawInt pos.line, rawInt pos.col, .ref c'], eP⟩
        · exact ⟨#[], by rw [H'b b _ hb (tr b _ e) e]; simp⟩
      · obtain ⟨o, es, ep, e, r⟩ := hm
        exact ⟨o, es, ep, oldP _ o (nfree _ I.free) e, r⟩
      · by_cases h1 : b = h'.objs.size
        · subst h1
          rw [upd_same] at e
          cases e
          exact fnObj_ok (Heap.get?_push_size _ rfl)
        · rw [upd_ne h1] at e
          by_cases h2 : b = c'
          · subst h2
            rw [upd_same] at e
            cases e
            exact codeX_ok (hrec.keeps fun b o q => Heap.get?_push_of_some _ q)
          · rw [upd_ne h2] at e
            by_cases h3 : b = P
            · subst h3
              rw [upd_same] at e
              cases e
              show (h'.push _).get? _ = some _
              exact Heap.get?_push_of_some _ htb
            · rw [upd_ne h3] at e
              refine (I.hok b u e).stay (fun d v hd q => oldP d v ?_ q) (fun d q => H'b d _ (fun z => by rw [z, t] at q; cases q) (tr d _ q) q) fun d xs q => H'b d _ (fun z => by rw [z, t] at q; cases q) (tr d _ q) q
              rcases hd with rfl | hd
              · exact h3
              · intro z; rw [z, t] at hd; cases hd
    refine store_ok I' hN hi hx (v := .ref h'.objs.size) rfl (fun s' I2 => ⟨_, _, I2, k h'.objs.size c' _ (I.hok.fresh szf) (fun b o n q => ?_) eP eC upd_same fun Q hQ qs q => ?_⟩) hf
    · exact H'b b _ (fun z => by rw [z, t] at q; cases q; exact n _ rfl) (tr b _ q) q
    · exact H'b Q _ hQ (tr Q _ q) q
  | old ps c t ok hit tc k =>
    have hP : s.heap.get? P = some (PySem.W.tabObj ps) := tbl_at I t
    refine PySem.W.makeFunction_hit (mg := X.mg) (cv := .ref c) hcl I.ok.glob hg hcode CH hP ok hit hB fun ctv doc h' tk hk hsz => ?_
    have hfr : H h'.objs.size = none := I.hok.fresh hsz
    have I' : Inv X pins σ (upd H h'.objs.size (FnObj h'.objs.size c name qual params body scope clos)) { s with heap := h'.push (fnObjX name qual params body scope clos doc ((X.mg "__name__").getD .none) c ctv), toks := tk } :=
      I.laid (fun b o e => Heap.get?_push_of_some _ (hk b o e)) hsz (fnObj_ok (Heap.get?_push_size _ rfl))
    have sm : Same H (upd H h'.objs.size (FnObj h'.objs.size c name qual params body scope clos)) := same_new hfr
    exact store_ok I' hN hi hx (v := .ref h'.objs.size) rfl (fun s' I2 => ⟨_, _, I2, k h'.objs.size _ hfr sm upd_same⟩) hf
end
end NC
/-! ### comprehensions with names of the def round them -/
namespace NC
open PySem PySem.Spec PyProof.Rows L2
def compCxC (X : Cx) (N : List Str) (scope : Scope) (cl : List (Str × Addr)) (C : Addr) (s : Shared) (H : Hp) : Cx where
  prog := X.prog
  w := X.w
  K := X.K
  mg := X.mg
  base := X.base
  A := X.A
  N := N
  s₀ := s
  H₀ := H
  env := compEnvC scope cl C X.env
  outer := X.stack
  stack := X.stack
  ex := []
  calm := X.calm
  fn := fun _ => false
  pn := []
  xe := fun _ _ => False
/-- a comprehension's scope: its own names N, names fs of the def round it -/
structure CompScopeC (N fs : List Str) (sc : Scope) : Prop where
  kind : sc.kind = .function
  nd : (N ++ fs).Nodup
  nocell : ∀ y ∈ sc.names, y.2 ≠ .cell
  loc : ∀ y ∈ sc.names, y.2 = .local → sc.names.lookup y.1 = some .local
  fre : ∀ x ∈ fs, sc.names.lookup x = some .free
  all : ∀ y ∈ sc.names, y.2 = .free → y.1 ∈ fs
theorem look_map (f : Str → NameKind → NameKind) : ∀ (l : List (Str × NameKind)) (x : Str) (k : NameKind), (l.map fun p => (p.1, f p.1 p.2)).lookup x = some k → ∃ k', l.lookup x = some k' ∧ f x k' = k
  | [], _, _, h => by cases h
  | (n, k0) :: r, x, k, h => by
    rw [List.map_cons] at h
    cases hx : x == n with
    | true =>
      simp only [List.lookup_cons, hx] at h ⊢
      have e : x = n := by simpa using hx
      subst e
      exact ⟨k0, rfl, Option.some.inj h⟩
    | false =>
      simp only [List.lookup_cons, hx] at h ⊢
      exact look_map f r x k h
theorem look_map' (f : Str → NameKind → NameKind) : ∀ (l : List (Str × NameKind)) (x : Str) (k : NameKind), l.lookup x = some k → (l.map fun p => (p.1, f p.1 p.2)).lookup x = some (f x k)
  | [], _, _, h => by cases h
  | (n, k0) :: r, x, k, h => by
    rw [List.map_cons]
    cases hx : x == n with
    | true =>
      simp only [List.lookup_cons, hx] at h ⊢
      have e : x = n := by simpa using hx
      subst e
      cases h
      rfl
    | false =>
      simp only [List.lookup_cons, hx] at h ⊢
      exact look_map' f r x k h
def relK (env : Env) (n : Str) (k : NameKind) : NameKind := if (k == .free && env.scope.kind == .function && env.kindOf n == some .cell) = true then .cell else k
theorem relabel_names (scope : Scope) (env : Env) : (relabel scope env).names = scope.names.map fun p => (p.1, relK env p.1 p.2) := by
  unfold relabel relK
  apply List.map_congr_left
  rintro ⟨n, k⟩ _
  show (if (k == .free && env.scope.kind == .function && env.kindOf n == some .cell) = true then (n, NameKind.cell) else (n, k)) = _
  split <;> rfl
theorem relK_free {env : Env} {n : Str} : relK env n .free = .cell ∨ relK env n .free = .free := by
  unfold relK
  split
  · exact .inl rfl
  · exact .inr rfl
theorem relK_not {env : Env} {n : Str} {k : NameKind} (h : k ≠ .free) : relK env n k = k := by
  unfold relK
  rw [if_neg]
  intro z
  simp only [Bool.and_eq_true] at z
  exact h (by simpa using z.1.1)
/-- what a comprehension is handed: the cells of fs are cells round it -/
structure CompClos (X : Cx) (fs : List Str) (cl : List (Str × Addr)) : Prop where
  at_ : ∀ x c, cl.lookup x = some c → X.env.cells.lookup x = some c
  has : ∀ x ∈ fs, ∃ c, cl.lookup x = some c
  only : ∀ x c, cl.lookup x = some c → x ∈ fs
  kd : ∀ x ∈ fs, X.env.kindOf x ≠ some .local
theorem compC_ok {X : Cx} {pins : List (Addr × Obj)} {σ : L2.St} {H : Hp} {s : Shared} {N fs : List Str} {scope : Scope} {cl : List (Str × Addr)} {C : Addr} (I : Inv X pins σ H s) (S : CompScopeC N fs scope) (L : CompClos X fs cl) (hC : s.heap.objs.size ≤ C) : (compCxC X (N ++ fs) scope cl C s H).Ok where
  mod := I.ok.mod
  kind := S.kind
  glob := I.ok.glob
  blt := I.ok.blt
  above := hC
  inj := fun x y c h1 h2 => I.ok.inj x y c (L.at_ _ _ h1) (L.at_ _ _ h2)
  has := fun x h => by
    have q : ∃ k, (relabel scope X.env).names.lookup x = some k ∧ (k = .cell ∨ k = .free) := by
      rcases h with h | h
      · exact ⟨_, h, .inl rfl⟩
      · exact ⟨_, h, .inr rfl⟩
    obtain ⟨k, hk, hkk⟩ := q
    rw [relabel_names] at hk
    obtain ⟨k', h1, h2⟩ := look_map _ _ _ _ hk
    have hm := PySem.mem_of_lookup h1
    by_cases hf : k' = .free
    · rw [hf] at hm
      exact L.has x (S.all _ hm rfl)
    · rw [relK_not hf] at h2
      rcases hkk with e | e
      · exact absurd (h2.trans e) (S.nocell _ hm)
      · exact absurd (h2.trans e) hf
  cab := fun x c h _ => by cases h
  hd := I.ok.hd
  frames := I.ok.frames
  stk := .inl rfl
  exf := fun b hb => nomatch hb
  bs := I.bs
  bsz := Nat.le_trans I.ok.bsz I.sz
  noex := fun _ _ _ hb => nomatch hb
  exfs := fun b hb => nomatch hb
  funs := I.stack
  frf := I.stkFree
def tCompC (K : PySem.W.Frag) (n : Nat) (js : List Nat) (ti : TE) (tg : Addr → Shared → Hp → TG) (tt : Addr → Shared → Hp → TT) (te : Addr → Shared → Hp → TE) : TE := fun σ H Q => ti σ H fun x H1 => ∃ a xs, x = .ref a ∧ SqL K H1 a xs ∧ ∀ D, H1 D = none → ∃ W : Nat → L2.St → Hp → Prop, W 0 (List.replicate n none ++ js.map fun j => (σ[j]?).getD none) (upd H1 D (.lst [])) ∧
  (∀ i σ' H', i ≤ xs.length → W i σ' H' → SqL K H' a xs) ∧
  (∀ C s0 H0 i x σ' H', xs[i]? = some x → W i σ' H' → tg C s0 H0 x σ' H' fun σ2 H2 => tt C s0 H0 σ2 H2 fun b H3 => if b = true then te C s0 H0 σ2 H3 fun y H4 => ∃ ys, H4 D = some (.lst ys) ∧ ys.length < sizeLine ∧ W (i + 1) σ2 (upd H4 D (.lst (ys ++ [y]))) else W (i + 1) σ2 H3) ∧
  ∀ σ' H', W xs.length σ' H' → Q (.ref D) H'
theorem pe_compC {X : Cx} {elt target iter : Expr} {ifs : List Expr} {scope : Scope} {pos : Pos} {N fs : List Str} {js : List Nat} {cl : List (Str × Addr)} {ti : TE} {te : Addr → Shared → Hp → TE} {tg : Addr → Shared → Hp → TG} {tt : Addr → Shared → Hp → TT} (hc : X.calm = true) (S : CompScopeC N fs scope) (hclos : closureFor scope X.env = pure cl) (L : CompClos X fs cl)
    (hjs : js.map (fun j => X.N[j]?) = fs.map some) (hvis : ∀ x ∈ fs, Vis X.env.scope x) (hi : PE X iter ti)
    (hb : ∀ C s H, PG (compCxC X (N ++ fs) scope cl C s H) target (tg C s H) ∧ PF (compCxC X (N ++ fs) scope cl C s H) ifs (tt C s H) ∧ PE (compCxC X (N ++ fs) scope cl C s H) elt (te C s H)) (hs : ∀ x, foldedSetIterable iter X.env x = pure x := by intro _; rfl) :
    PE X (.ListComp elt [⟨target, iter, ifs, 0⟩] scope pos) (tCompC X.K N.length js ti tg tt te) := by
  intro pins s σ H Q I h
  rw [eval_ListComp]
  refine wpAny_comprehension_free (use := none) rfl hs hclos S.kind S.loc (thn (hi pins s σ H _ I h) fun xv s1 ⟨x, H1, I1, r1, a, xs, e, hq, q⟩ => ?_)
  subst e
  cases (show xv = Value.ref a from r1)
  obtain ⟨its, rv, p, hz⟩ := I1.list hq
  refine wpAny_pyIter_list p.isList (wpAny_newObj_type (hd := by size_fits) (wpAny_newFunctionEnv S.nocell (by intro y hy; simp at hy) (fun h1 hns hsb => ?_) S.kind))
  dsimp only at hns hsb ⊢
  generalize hH1 : s1.heap.push { cls := .type "list_iterator", data := .fields #[.ref a, .int 0 0] } = G1 at hns hsb ⊢
  have hD : G1.objs.size = s1.heap.objs.size + 1 := by rw [← hH1, Heap.size_push]
  generalize hH2 : G1.push { cls := .type "list", dict := none, data := .seq ([] : List Value).toArray } = G2 at hns hsb ⊢
  have hC : G2.objs.size = s1.heap.objs.size + 2 := by rw [← hH2, Heap.size_push, hD]
  have old2 : ∀ b o, G2.get? b = some o → h1.get? b = some o := fun b o e => hsb.extBut b o (Nat.ne_of_lt (Heap.lt_size e)) (Heap.get?_push_of_some _ e)
  have old : ∀ b o, s1.heap.get? b = some o → h1.get? b = some o := fun b o e => old2 b o (hH2 ▸ Heap.get?_push_of_some _ (hH1 ▸ Heap.get?_push_of_some _ e))
  have hit : h1.IsListIter s1.heap.objs.size a 0 := ⟨_, old2 _ _ (hH2 ▸ Heap.get?_push_of_some _ (hH1 ▸ Heap.get?_push_size _ rfl)), rfl, rfl⟩
  have hacc : h1.get? G1.objs.size = some { cls := .type "list", dict := none, data := .seq ([] : List Value).toArray } := old2 _ _ (hH2 ▸ Heap.get?_push_size _ rfl)
  have nD : H1 G1.objs.size = none := I1.hok.fresh (by rw [hD]; exact Nat.le_succ _)
  have nIt : H1 s1.heap.objs.size = none := I1.hok.fresh (Nat.le_refl _)
  have nC : H1 G2.objs.size = none := I1.hok.fresh (by rw [hC]; exact Nat.le_add_right _ _)
  obtain ⟨W, w0, wl, ws, wd⟩ := q G1.objs.size nD
  have itD : s1.heap.objs.size ≠ G1.objs.size := by rw [hD]; exact Nat.ne_of_lt (Nat.lt_succ_self _)
  have CD : G2.objs.size ≠ G1.objs.size := by rw [hC, hD]; exact Nat.ne_of_gt (Nat.lt_succ_self _)
  have itC : s1.heap.objs.size ≠ G2.objs.size := by rw [hC]; exact Nat.ne_of_lt (Nat.lt_succ_of_lt (Nat.lt_succ_self _))
  have J0 : Inv (compCxC X (N ++ fs) scope cl G2.objs.size s1 H1) [] (List.replicate N.length none ++ js.map fun j => (σ[j]?).getD none) (upd H1 G1.objs.size (.lst [])) { s1 with heap := h1, toks := s1.toks + ([] : List (Str × Value)).length } := by
    refine ⟨compC_ok I1 S L (by rw [hC]; exact Nat.le_add_right _ _), rfl, I1.bare, Un.laid old (by rw [hD]; exact Nat.le_succ _) nD, ⟨_, hns, fun i x v e1 e2 hv => ?_⟩, fun x c e => ?_, ?_, fun x c e => ?_, (fun p hp => nomatch hp), I1.hok.laid (a := G1.objs.size) (o := .lst []) old (by rw [hD]; exact Nat.le_succ _) ⟨Nat.zero_le _, [], _, .nil, hacc⟩, ?_⟩
    · have e1 : (N ++ fs)[i]? = some x := e1
      by_cases hi : i < N.length
      · rw [List.getElem?_append_left (by rw [List.length_replicate]; exact hi), List.getElem?_replicate] at e2
        split at e2 <;> cases e2
      · rw [List.getElem?_append_right (by rw [List.length_replicate]; omega), List.length_replicate, List.getElem?_map] at e2
        rw [List.getElem?_append_right (by omega)] at e1
        cases hj : js[i - N.length]? with
        | none => rw [hj] at e2; cases e2
        | some j =>
          rw [hj] at e2
          have e2 : (σ[j]?).getD none = some v := Option.some.inj e2
          have hx : x ∈ fs := List.mem_of_getElem? e1
          have hNj : X.N[j]? = some x := by
            have z : (js.map fun j => X.N[j]?)[i - N.length]? = some (X.N[j]?) := by rw [List.getElem?_map, hj]; rfl
            rw [hjs, List.getElem?_map, e1] at z
            exact (Option.some.inj z).symm
          have hσ : σ[j]? = some (some v) := by
            cases hq : σ[j]? with
            | none => rw [hq] at e2; cases e2
            | some o => rw [hq] at e2; exact congrArg some e2
          obtain ⟨m, _, lk⟩ := I1.loc
          obtain ⟨u, ru, l⟩ := lk j x v hNj hσ (hvis x hx)
          refine ⟨u, ru, ?_⟩
          rcases l with ⟨z, _⟩ | ⟨_, c, hcc, hcell⟩
          · exact absurd z (L.kd x hx)
          · obtain ⟨c', hc'⟩ := L.has x hx
            have e : c' = c := Option.some.inj ((L.at_ _ _ hc').symm.trans hcc)
            subst e
            have hk : (relabel scope X.env).names.lookup x = some (relK X.env x .free) := by
              rw [relabel_names]
              exact look_map' _ _ _ _ (S.fre x hx)
            refine .inr ⟨?_, c', hc', ?_⟩
            · rcases relK_free (env := X.env) (n := x) with z | z
              · exact .inl (hk.trans (congrArg some z))
              · exact .inr (hk.trans (congrArg some z))
            · obtain ⟨o, ho, r⟩ := hcell
              exact ⟨o, old _ _ ho, r⟩
    · obtain ⟨v, o, ho, r⟩ := I1.cell x c (L.at_ x c e)
      exact ⟨v, o, old _ _ ho, r⟩
    · show upd H1 G1.objs.size _ G2.objs.size = none
      rw [upd_ne CD]; exact nC
    · obtain ⟨v, o, ho, r⟩ := I1.cell x c (L.at_ x c e)
      show upd H1 G1.objs.size _ c = none
      rw [upd_ne fun z => by
        have := Heap.lt_size ho
        rw [z, hD] at this
        exact absurd this (Nat.not_lt.mpr (Nat.le_succ _))]
      exact I1.freeC x c (L.at_ x c e)
    · show (List.replicate N.length none ++ js.map fun j => (σ[j]?).getD none).length = (N ++ fs).length
      have := congrArg List.length hjs
      rw [List.length_map, List.length_map] at this
      rw [List.length_append, List.length_append, List.length_replicate, List.length_map, this]
  have T := turn_list (P := X.prog) (w := X.w) (K := X.K) (tg := target) a s1.heap.objs.size
  have fpk : ∀ {H' : Hp}, H' s1.heap.objs.size = none → ∀ b ∈ [s1.heap.objs.size], FpOk (compCxC X (N ++ fs) scope cl G2.objs.size s1 H1) [] H' b := fun hn b hb => by
    rw [List.mem_singleton.mp hb]
    exact ⟨hn, itC, fun z => (by obtain ⟨_, o, ho, _⟩ := I1.stack.mem z; exact absurd (Heap.lt_size ho) (Nat.lt_irrefl _)), .inr (Nat.le_refl _), fun x c e => (by obtain ⟨v, o, ho, r⟩ := I1.cell x c (L.at_ x c e); exact Nat.ne_of_lt (Heap.lt_size ho)), (fun p hp => nomatch hp)⟩
  -- the loop
  have loop : ∀ s2 : Shared, Inv (compCxC X (N ++ fs) scope cl G2.objs.size s1 H1) [] (List.replicate N.length none ++ js.map fun j => (σ[j]?).getD none) (upd H1 G1.objs.size (.lst [])) s2 → s2.heap.IsListIter s1.heap.objs.size a 0 →
      codeAny (model X.prog X.w) X.A (.compLoop (.ListComp elt [⟨target, iter, ifs, 0⟩] scope pos) 0 (.ref s1.heap.objs.size) (.ref G1.objs.size) (compEnvC scope cl G2.objs.size X.env))
        (compPost (model X.prog X.w) X.A X.xe none (EP X pins σ Q) (.ref G1.objs.size) G2.objs.size) s2 := by
    intro s2 J2 st2
    refine compLoop_any (fun n s' => ∃ i σ' H', n = xs.length - i ∧ i ≤ xs.length ∧ Inv (compCxC X (N ++ fs) scope cl G2.objs.size s1 H1) [] σ' H' s' ∧ s'.heap.IsListIter s1.heap.objs.size a i ∧ H' s1.heap.objs.size = none ∧ W i σ' H') ?_ xs.length ⟨0, _, _, rfl, Nat.zero_le _, J2, st2, by rw [upd_ne itD]; exact nIt, w0⟩
    rintro n s3 ⟨i, σ3, H3, rfl, hil, J3, st3, fr3, w3⟩
    have hsq := wl i σ3 H3 hil w3
    by_cases hlt : i < xs.length
    · have hx : xs[i]? = some xs[i] := List.getElem?_eq_getElem hlt
      refine thn (T.item (compCxC X (N ++ fs) scope cl G2.objs.size s1 H1) rfl rfl rfl hc i [] s3 σ3 H3 _ J3 (fpk fr3) st3 ⟨xs, _, hsq, hx⟩) fun r s4 ⟨u, hr, h4⟩ => ?_
      subst hr
      refine thn h4 fun _ s5 ⟨x, H5, J5, r5, ⟨e5, y5⟩, st5, fr5⟩ => ?_
      subst e5
      have ex := y5 xs hsq
      have J5' := J5.pinned (fpk (fr5 _ (by simp))) (T.obj _ _ st5)
      obtain ⟨hg, ht, hel⟩ := hb G2.objs.size s1 H1
      have back : ∀ {σ7 : L2.St} {H7 : Hp} {s7 : Shared}, Inv (compCxC X (N ++ fs) scope cl G2.objs.size s1 H1) ([] ++ pinsAt [s1.heap.objs.size] s5.heap) σ7 H7 s7 → W (i + 1) σ7 H7 →
          ∃ m, m < xs.length - i ∧ ∃ i σ' H', m = xs.length - i ∧ i ≤ xs.length ∧ Inv (compCxC X (N ++ fs) scope cl G2.objs.size s1 H1) [] σ' H' s7 ∧ s7.heap.IsListIter s1.heap.objs.size a i ∧ H' s1.heap.objs.size = none ∧ W i σ' H' := fun {σ7 H7 s7} J7 w7 => by
        refine ⟨xs.length - (i + 1), by omega, i + 1, σ7, H7, rfl, hlt, J7.unpinned, T.keep _ _ _ st5 fun b hb o e => (J7.pin (b, o) (List.mem_append_right _ (List.mem_append_right _ (mem_pinsAt hb e)))).1, ?_, w7⟩
        obtain ⟨o, e, d⟩ := T.obj _ _ st5 _ (List.mem_singleton.mpr rfl)
        exact (J7.pin (_, o) (List.mem_append_right _ (List.mem_append_right _ (mem_pinsAt (List.mem_singleton.mpr rfl) e)))).2.1
      refine thn (hg _ s5 σ3 H5 x u _ J5' r5 (ws G2.objs.size s1 H1 i x σ3 H5 ex w3)) fun _ s6 ⟨σ6, H6, J6, q6⟩ => ?_
      refine thn (ht _ s6 σ6 H6 _ J6 q6) fun ok s7 ⟨H7, J7, q7⟩ => ?_
      cases ok with
      | false => exact back J7 q7
      | true =>
        refine thn (hel _ s7 σ6 H7 _ J7 q7) fun y s8 ⟨yv, H8, J8, ry, ys, hys, hyl, w8⟩ => ?_
        refine thn (mt_append (X := compCxC X (N ++ fs) scope cl G2.objs.size s1 H1) _ s8 σ6 H8 (.ref G1.objs.size) [yv] (.ref G1.objs.size) [y] (fun _ H9 => W (i + 1) σ6 H9) J8 rfl (.cons ry .nil) ⟨_, ys, yv, rfl, rfl, hys, hyl, w8⟩) fun z s9 ⟨_, H9, J9, _, w9⟩ => ?_
        exact back J9 w9
    · have hie : i = xs.length := by omega
      subst hie
      refine thn (T.done (compCxC X (N ++ fs) scope cl G2.objs.size s1 H1) rfl rfl rfl hc xs.length [] s3 σ3 H3 _ J3 (fpk fr3) st3 ⟨xs, hsq, Nat.le_refl _⟩) fun r s4 ⟨hr, J4⟩ => ?_
      subst hr
      obtain ⟨m, hm, _⟩ := J4.loc
      show ∃ m, Heap.Ns _ _ m ∧ _
      refine ⟨m, hm, fun h' sb => ?_⟩
      have neC : ∀ b o, s1.heap.get? b = some o → b ≠ G2.objs.size := fun b o e => Nat.ne_of_lt (Nat.lt_of_lt_of_le (Heap.lt_size e) (by rw [hC]; exact Nat.le_add_right _ _))
      have un := J4.base
      have trC : ∀ b v, H3 b = some v → b ≠ G2.objs.size := fun b v e z => by
        have := J4.free
        rw [z] at e
        rw [show H3 G2.objs.size = none from this] at e
        cases e
      refine ⟨.ref G1.objs.size, H3, I1.call' (s' := { s4 with heap := h' }) (ch := []) J4.os ⟨fun b o e n hb hx => (sb.2 b (neC b o e)).trans (un.keep b o e n hb hx), fun b o e n hb hx => ?_, un.free, fun b o e hx => ?_, un.tups, un.frzs, un.tbls⟩ (fun b v e => ?_) J4.bare (fun b z => nomatch z), rfl, wd σ3 H3 w3⟩
      · obtain ⟨sl, q⟩ := un.slot b o e n hb hx
        exact ⟨sl, (sb.2 b (neC b o e)).trans q⟩
      · obtain ⟨o', q⟩ := un.there b o e hx
        exact ⟨o', (sb.2 b (neC b o e)).trans q⟩
      · refine (J4.hok b v e).stay (fun c u hc q => (sb.2 c ?_).trans q) (fun _ q => q) fun _ _ q => q
        rcases hc with rfl | hc
        · exact trC _ _ e
        · exact trC _ _ hc
  exact codeAny_compStart_list (loop _ J0 hit) (wpAny_pyIter_listiter hit (loop _ J0 hit))
end NC
/-! ### dict(xs), xs a list of pairs -/
namespace NC
open PySem PySem.Spec PyProof.Rows L2
section
variable {prog : Program} {w : World} {A : Around} {E : Value → Shared → Prop}
theorem lk_keys : typeLookup (.type "list") "keys" = pure none := by rw [typeLookup_type, builtinLookup_eq_fast]; kernel_rfl
theorem no_keys {hp : Heap} {g : Array GenState} {d : Drawn} {tk : Nat} {os : OsState} {a : Addr} {xs : Array Value} {n : Nat} {Q : Option Value → Shared → Prop} (hA : A.handled = none) (hx : hp.get? a = some { cls := .type "list", dict := none, data := .seq xs n, slots := #[] })
    (q : ∀ h' t', (∀ b o, hp.get? b = some o → h'.get? b = some o) → Q none ⟨h', g, d, t', os⟩) : wpAny (model prog w) A (getAttr? (.ref a) "keys") Q E ⟨hp, g, d, tk, os⟩ := by
  have hT : ∀ t', (⟨hp, g, d, t', os⟩ : Shared).TypeIs (.ref a) "list" := fun _ => ⟨_, hx, rfl⟩
  have f1 := sub_AttributeError
  have f3 := F.slot_list_getattribute.lookup
  have f4 := F.slot_list_getattribute.bind (.ref a)
  have f5 := am_list_getattr_none
  unfold getAttr? getAttrBy? getAttrBy
  repeat (any_goals (first | assumption | exact hT _ | ((with_reducible show wpAny _ _ (call (Value.builtin "list.__getattribute__") _ _) _ _ _); refine call_meets F.slot_list_getattribute (hT _) am_entry_list_getattribute (F.args_list_getattribute_2 _ _) (meets_getattribute_miss_list a xs n #[] "keys" _ lk_keys (by decide +kernel) (by decide +kernel)) ⟨hx, hA, fun h' t' e he => ?_⟩) | wp_step))
  obtain ⟨t', u', hee⟩ := he.there
  show wpAny _ _ (getattributeRaised _ _ _ _ _ _ _) _ _ _
  unfold getattributeRaised
  repeat (any_goals (first | assumption | wp_step))
  exact q _ _ he.keeps
end
/-! #### the loop -/
abbrev trueOf (ks : List Str) : List (Key × Value) := ks.map fun k => (Sum.inr k, Value.bool true)
theorem stored_true (ks : List Str) (k : Str) : stored (trueOf ks) (Sum.inr k : Key) (.bool true) = trueOf (stepK ks k) := by
  unfold stored stepK trueOf
  by_cases h : k ∈ ks
  · rw [if_pos h, if_pos (by simpa using h), List.map_map]
    refine List.map_congr_left fun x _ => ?_
    show (if (Sum.inr x : Key) = Sum.inr k then _ else _) = _
    split
    · rfl
    · rfl
  · rw [if_neg h, if_neg (by simpa using h), List.map_append]
    rfl
theorem dict_moved {prog : Program} {w : World} {h h' : Heap} {a : Addr} {ks : List (Key × Value)} (x : h.DictOf (mixKind prog w) a ks) (k : ∀ o, h.get? a = some o → h'.get? a = some o) : h'.DictOf (mixKind prog w) a ks :=
  let ⟨o, es, ep, e, r⟩ := x
  ⟨o, es, ep, k _ e, r⟩
theorem entry_dupd : entryFor table "dict.update.loop" = some Builtin.«dict.update.loop» := entryFor_of_tree (by kernel_rfl)
theorem plain_dupd : plainId "dict.update.loop" = true := by decide +kernel
section
variable {prog : Program} {w : World} {A : Around} {R : Result → Shared → Prop} {I : Addr} {fp wr : List Addr} {G : Array GenState → Array GenState → Prop} {n : Nat} {P : Nat → Value → Prop} {St : Nat → Shared → Prop}
theorem dupd_loop (W : WalksS prog w A.in1 I fp wr G n P St) (S : Addr) (apart : S ∉ fp) (val : Nat → Str) (at' : Nat → Addr) (hval : ∀ i v, P i v → v = .ref (at' i)) (hb : n ≤ sizeLine) (k : Nat) :
    ∀ (i : Nat) (s : Shared), n - i = k → i ≤ n → St i s → s.heap.DictOf (mixKind prog w) S (trueOf (metK val i)) → (∀ j, j < n → at' j ∉ S :: wr ∧ ∃ t, IsTup s.heap (at' j) #[.str (val j) t, .bool true]) →
      (∀ s', Moved (S :: wr) G s s' → s'.heap.DictOf (mixKind prog w) S (trueOf (metK val n)) → R (.ok (.ret .none)) s') →
      codeAny (model prog w) A (.builtin "dict.update.loop" ⟨[.ref S, .ref I, rawInt i, .none], []⟩) R s := by
  have nw : S ∉ wr := fun z => apart (W.sub _ z)
  have sub : ∀ b ∈ wr, b ∈ S :: wr := fun b z => List.mem_cons_of_mem _ z
  induction k with
  | zero =>
    intro i s hk hi st tx tp fin
    obtain rfl : i = n := by omega
    refine codeAny_builtin entry_dupd ?_
    rw [Around.under_plainId plain_dupd _]
    show wpAny _ A.in1 (pyNext (.ref I) >>= _) _ _ s
    refine wpAny_bind (W.done s _ _ st fun s' mv => ?_)
    show wpAny _ A.in1 (Builtin.Dict.addKeywords S [] >>= _) _ _ s'
    exact wpAny_bind (wpAny_pure (wpAny_pure (fin s' (mv.mono sub) (dict_moved tx fun o e => mv.heap S o nw e))))
  | succ k ih =>
    intro i s hk hi st tx tp fin
    have lt : i < n := by omega
    refine codeAny_builtin entry_dupd ?_
    rw [Around.under_plainId plain_dupd _]
    show wpAny _ A.in1 (pyNext (.ref I) >>= _) _ _ s
    refine wpAny_bind (W.item i s _ _ lt st fun v s' hP st' mv => ?_)
    obtain rfl := hval i v hP
    have tx' := dict_moved tx fun o e => mv.heap S o nw e
    have tp' : ∀ j, j < n → at' j ∉ S :: wr ∧ ∃ t, IsTup s'.heap (at' j) #[.str (val j) t, .bool true] := fun j hj =>
      let ⟨q1, t, o, q2, q3⟩ := tp j hj
      ⟨q1, t, o, mv.heap _ _ (fun z => q1 (sub _ z)) q2, q3⟩
    obtain ⟨q1, t, o, q2, q3, m, q4⟩ := tp' i lt
    show wpAny _ A.in1 (holding [Value.ref (at' i)] _ >>= _) _ _ s'
    refine wpAny_bind (wpAny_holding (wpAny_bind (wpAny_tryCatch ?_)))
    unfold Builtin.Dict.pairItems
    refine wpAny_bind (wpAny_typeOf (T := "tuple") ⟨_, q2, q3⟩ ?_)
    rw [if_pos (by decide)]
    refine wpAny_bind (wpAny_seqItems q2 q4 (wpAny_pure ?_))
    show wpAny _ A.in1 (holding [Value.str (val i) t, .bool true] (dictSet S (.str (val i) t) (.bool true))) _ _ s'
    refine wpAny_holding ?_
    unfold dictSet
    refine wpAny_holding (wpAny_bind ((mixKind prog w).pyHash (k := Sum.inr (val i)) (show (mixKind prog w).is (Sum.inr (val i)) (.str (val i) t) = true by rw [mixKind_is]; exact strKind_is prog w (val i) t) ?_))
    have ln := metK_len val i
    refine wpAny_dictSetHashed_pairs (s := { s' with toks := s'.toks + 1 }) (k := Sum.inr (val i)) (show (mixKind prog w).is (Sum.inr (val i)) (.str (val i) t) = true by rw [mixKind_is]; exact strKind_is prog w (val i) t) tx' (fun h' tx2 sb => ?_) (by rw [List.length_map]; omega)
    rw [stored_true] at tx2
    refine wpAny_pure ⟨plainId_quiet plain_dupd _, ?_⟩
    refine ih (i + 1) _ (by omega) lt (W.frame _ s' _ _ st' (Nat.le_succ _) fun b hb o e => ?_) tx2 (fun j hj => ?_) fun s'' mv2 tx3 => ?_
    · rw [sb.2 b fun z : b = S => apart (z ▸ hb)]; exact e
    · obtain ⟨r1, t2, o2, r2, r3⟩ := tp' j hj
      exact ⟨r1, t2, o2, by rw [sb.2 _ fun z : at' j = S => r1 (z ▸ List.mem_cons_self)]; exact r2, r3⟩
    · refine fin s'' (Moved.trans W.gtrans ((mv.mono sub).then_heap (Nat.le_succ _) fun b o hb e => ?_) mv2) tx3
      rw [sb.2 b fun z : b = S => hb (z ▸ List.mem_cons_self)]; exact e
end
section
variable {prog : Program} {w : World} {A : Around} {E : Value → Shared → Prop} {s : Shared}
set_option maxHeartbeats 4000000 in
theorem call_dict_true {l : Addr} {items : Array Value} {nl : Nat} {val : Nat → Str} {at' : Nat → Addr} {Q : Value → Shared → Prop} (hh : A.handled = none) (ol : s.heap.get? l = some { cls := .type "list", dict := none, data := .seq items nl, slots := #[] })
    (hv : ∀ (i : Nat) (v : Value), items[i]? = some v → v = Value.ref (at' i)) (ht : ∀ j, j < items.size → ∃ t, IsTup s.heap (at' j) #[.str (val j) t, .bool true]) (hb : items.size ≤ sizeLine)
    (h : ∀ (h' : Heap) (tk : Nat), h'.DictOf (mixKind prog w) s.heap.objs.size (trueOf (metK val items.size)) → (∀ b o, s.heap.get? b = some o → h'.get? b = some o) → Q (.ref s.heap.objs.size) { s with heap := h', toks := tk }) :
    wpAny (model prog w) A (call (.type "dict") [.ref l]) Q E s := by
  obtain ⟨hp, g, d, tk, os⟩ := s
  refine callType_codes (Q₁ := fun obj s₁ => obj = .ref hp.objs.size ∧ s₁ = ⟨hp.push { cls := .type "dict", data := .dict #[] }, g, d, tk, os⟩) F.kt_called_dict (F.kt_typeCall_dict_1 _) F.entry_dict_init (kt_code_dict_new _ ⟨rfl, rfl⟩) ?_
  rintro obj s₁ ⟨rfl, rfl⟩
  have hnew : (hp.push { cls := .type "dict", data := .dict #[] }).DictOf (mixKind prog w) hp.objs.size [] := Heap.DictOf.new hp
  refine ⟨hnew.typeIs, F.args_dict_init_2 _ _, ?_⟩
  unfold Builtin.«dict.__init__»
  refine wpAny_bind ?_
  unfold Builtin.Dict.selfAndRest
  refine wpAny_bind (wpAny_notOrdered_dict hnew.typeIs ?_)
  show wpAny _ _ (pure (hp.objs.size, [Value.ref l])) _ _ _
  refine wpAny_pure ?_
  show wpAny _ _ (Builtin.Dict.updateFrom "dict.__init__" hp.objs.size (.ref l) [] .none) _ _ _
  have ol1 : (hp.push { cls := .type "dict", data := .dict #[] }).get? l = some { cls := .type "list", dict := none, data := .seq items nl, slots := #[] } := Heap.get?_push_of_some _ ol
  unfold Builtin.Dict.updateFrom
  refine wpAny_bind (wpAny_typeOf (T := "list") ⟨_, ol1, rfl⟩ ?_)
  rw [if_pos (by decide)]
  refine wpAny_bind (no_keys ?_ ol1 fun h2 t2 kp2 => ?_)
  · show A.in1.in1.handled = none; simp; exact hh
  rw [if_pos (show (none : Option Value).isNone = true from rfl)]
  refine wpAny_bind (wpAny_rule ?_)
  have ol2 := kp2 _ _ ol1
  have hl2 : h2.IsList l items := ⟨_, ol2, rfl, nl, rfl⟩
  have hd2 : h2.DictOf (mixKind prog w) hp.objs.size [] := dict_moved hnew fun o e => kp2 _ _ e
  have hds : hp.objs.size < h2.objs.size := by obtain ⟨o, _, _, e, _⟩ := hd2; exact Heap.lt_size e
  have lS : l < hp.objs.size := Heap.lt_size ol
  refine wpAny_bind (wpAny_pyIter_list hl2 (wpAny_pure ⟨plainId_quiet plain_dupd _, ?_⟩))
  have n4 : l ≠ h2.objs.size := Nat.ne_of_lt (Nat.lt_trans lS hds)
  have n5 : hp.objs.size ∉ [h2.objs.size, l] := by
    simp only [List.mem_cons, List.not_mem_nil, or_false, not_or]
    exact ⟨Nat.ne_of_lt hds, Nat.ne_of_gt lS⟩
  have hh3 : A.in1.in1.handled = none := by simp; exact hh
  have old : ∀ b o, hp.get? b = some o → b ∉ hp.objs.size :: [h2.objs.size] := fun b o e => by
    have := Heap.lt_size e
    simp only [List.mem_cons, List.not_mem_nil, or_false, not_or]
    exact ⟨Nat.ne_of_lt this, Nat.ne_of_lt (Nat.lt_trans this hds)⟩
  refine dupd_loop ((Walks.list hh3 _ l n4 items).toS) hp.objs.size n5 val at' hv hb (items.size - 0) 0 _ rfl (Nat.zero_le _) ⟨⟨_, Heap.get?_push_size _ rfl, rfl, rfl⟩, hl2.push _⟩ (dict_moved hd2 fun o e => Heap.get?_push_of_some _ e) (fun j hj => ?_) ?_
  · obtain ⟨t, o, e, r⟩ := ht j hj
    exact ⟨old _ _ e, t, o, Heap.get?_push_of_some _ (kp2 _ _ (Heap.get?_push_of_some _ e)), r⟩
  intro s' mv tx
  obtain ⟨h', g', d', tk', os'⟩ := s'
  obtain rfl : g' = g := mv.gens
  obtain rfl : d' = d := mv.drawn
  obtain rfl : os' = os := mv.os
  exact ⟨rfl, h h' tk' tx fun b o e => mv.heap b o (old b o e) (Heap.get?_push_of_some _ (kp2 _ _ (Heap.get?_push_of_some _ e)))⟩
end
/-- dict(xs), xs a list of pairs of a text and True -/
inductive RDictPI (vs : List V) (H : Hp) (Q : VK) : Prop where
  | mk (a : Addr) (ps : List (Addr × Str)) (c1 : vs = [.ref a]) (c2 : H a = some (.lst (ps.map fun p => .ref p.1))) (c3 : ∀ p ∈ ps, H p.1 = some (.tup [.str p.2, .bl true])) (c4 : ∀ (d : Addr) (ks : List Str) (H' : Hp), H d = none → ks.Nodup → ks.length ≤ ps.length → (∀ x, x ∈ ks ↔ x ∈ ps.map (·.2)) → Same H H' → H' d = some (.dK (ks.map fun k => (Sum.inr k, .bl true))) → Q (.ref d) H')
theorem kv_true : ∀ ks : List Str, KV (ks.map fun k => (Sum.inr k, V.bl true)) (trueOf ks)
  | [] => .nil
  | _ :: ks => .cons ⟨rfl, rfl⟩ (kv_true ks)
theorem metK_nodup (val : Nat → Str) : ∀ n, (metK val n).Nodup
  | 0 => List.nodup_nil
  | n + 1 => by
    show (stepK (metK val n) (val n)).Nodup
    unfold stepK
    split
    · exact metK_nodup val n
    · rename_i h
      exact List.nodup_append.mpr ⟨metK_nodup val n, List.pairwise_singleton _ _, fun x hx y hy z => h (by rw [← List.mem_singleton.mp hy, ← z]; exact hx)⟩
section
variable {X : Cx}
theorem call_dictP (hh : X.A.handled = none) : CallR X (.type "dict") RDictPI := by
  intro pins s σ H xs us Q I r h
  obtain ⟨a, ps, rfl, hH, hp, k⟩ := h
  obtain ⟨u, rfl, ru⟩ := vals1 r
  cases (show u = Value.ref a from ru)
  obtain ⟨z, its, n, rv, hl, e⟩ := I.lstM hH
  have hlen : its.length = ps.length := by rw [← hl, List.length_map]
  have hf : H s.heap.objs.size = none := I.hok.fresh (Nat.le_refl _)
  have gt : ∀ j : Nat, j < ps.length → (ps.map fun p => V.ref p.1)[j]? = some (.ref (ps.getD j (0, ⟨#[]⟩)).1) := fun j hj => by
    rw [List.getElem?_map, List.getD_eq_getElem?_getD, List.getElem?_eq_getElem hj]
    rfl
  have gm : ∀ j : Nat, j < ps.length → ps.getD j (0, ⟨#[]⟩) ∈ ps := fun j hj => by
    rw [List.getD_eq_getElem?_getD, List.getElem?_eq_getElem hj]
    exact List.getElem_mem hj
  refine call_dict_true (val := fun j => (ps.getD j (0, ⟨#[]⟩)).2) (at' := fun j => (ps.getD j (0, ⟨#[]⟩)).1) hh e (fun i v hv => ?_) (fun j hj => ?_) (by rw [List.size_toArray]; rw [List.length_map] at z; omega) fun h' tk hd kp => ?_
  · have hi : i < its.length := by
      rw [List.getElem?_toArray] at hv
      exact (List.getElem?_eq_some_iff.mp hv).1
    obtain ⟨u, hu, ru⟩ := Vals.get rv (gt i (by omega))
    rw [List.getElem?_toArray, hu] at hv
    exact (Option.some.inj hv).symm.trans ru
  · rw [List.size_toArray] at hj
    obtain ⟨_, its2, rv2, o, q1, q2⟩ := (show ObjOk X.prog X.w H s.heap _ _ from I.hok _ _ (hp _ (gm j (by omega))))
    obtain ⟨u1, us1, ⟨t, rfl⟩, rv3, rfl⟩ : ∃ u us, RelV (.str (ps.getD j (0, ⟨#[]⟩)).2) u ∧ Vals [.bl true] us ∧ its2 = u :: us := by
      cases rv2 with
      | cons r1 r2 => exact ⟨_, _, r1, r2, rfl⟩
    obtain ⟨u2, rfl, ru2⟩ := vals1 rv3
    cases (show u2 = Value.bool true from ru2)
    exact ⟨t, o, q1, q2⟩
  · rw [show its.toArray.size = ps.length from (List.size_toArray (as := its)).trans hlen] at hd
    have ln := metK_len (fun j => (ps.getD j (0, ⟨#[]⟩)).2) ps.length
    refine ⟨.ref _, _, I.laid (t' := tk) (o := .dK ((metK (fun j => (ps.getD j (0, ⟨#[]⟩)).2) ps.length).map fun k => (Sum.inr k, .bl true))) kp (Nat.le_refl _) ⟨by rw [List.length_map]; rw [List.length_map] at z; omega, ?_, _, kv_true _, hd⟩, rfl, k _ _ _ hf (metK_nodup _ _) ln (fun x => ?_) (same_new hf) upd_same⟩
    · have := I.big; exact beq_eq_false_iff_ne.mpr (Nat.ne_of_gt this)
    · rw [mem_metK]
      constructor
      · rintro ⟨i, hi, rfl⟩
        exact List.mem_map.mpr ⟨_, gm i hi, rfl⟩
      · intro hx
        obtain ⟨p, hp, rfl⟩ := List.mem_map.mp hx
        obtain ⟨i, hi, rfl⟩ := List.getElem_of_mem hp
        exact ⟨i, hi, by show (ps.getD i _).2 = _; rw [List.getD_eq_getElem?_getD, List.getElem?_eq_getElem hi]; rfl⟩
end
end NC
/-! ### max(xs), xs a list of ints -/
namespace NC
open PySem PySem.Spec PyProof.Rows L2
theorem vals_ints : ∀ {ns : List Int} {us : List Value}, Vals (ns.map V.int) us → IntsAre us ns
  | [], _, .nil => .nil
  | x :: ns, _, .cons r h => by
    obtain ⟨t, rfl⟩ := r
    exact .cons x t (vals_ints h)
inductive RMaxLI (vs : List V) (H : Hp) (Q : VK) : Prop where
  | mk (a : Addr) (ns : List Int) (c1 : vs = [.ref a]) (c2 : H a = some (.lst (ns.map V.int))) (c3 : 0 < ns.length) (c4 : ∀ M, M ∈ ns → (∀ x ∈ ns, x ≤ M) → Q (.int M) H)
section
variable {X : Cx}
theorem call_maxL (hh : X.A.handled = none) : CallR X (.builtin "max") RMaxLI := by
  intro pins s σ H xs us Q I r h
  obtain ⟨a, ns, rfl, hH, hn, k⟩ := h
  obtain ⟨u, rfl, ru⟩ := vals1 r
  cases (show u = Value.ref a from ru)
  obtain ⟨z, its, n, rv, hl, e⟩ := I.lstM hH
  have hi := vals_ints rv
  have hL : s.heap.IsList a its.toArray := ⟨_, e, rfl, n, rfl⟩
  obtain ⟨xs, ex⟩ := hi.allInts.items
  have hns : ns = xs.toList.map (·.1) := by
    rw [← hi.numsOf, ← nums_intItems, ← ex]
  have hsz : 0 < xs.size := by
    have h3 := hn; rw [hns, List.length_map, Array.length_toList] at h3; exact h3
  rw [ex] at hL
  refine max_intList hh hL hsz fun v h' tk hv hk => ?_
  obtain ⟨t, rfl⟩ := intItems_at hv
  obtain ⟨h1, h2⟩ := argBest_gt (PySem.numAt xs) (xs.size - 1)
  refine ⟨.int _, H, I.kept hk, ⟨t, rfl⟩, k _ ?_ fun a ha => ?_⟩
  · rw [hns, PySem.numAt_eq]; exact getD_mem (by rw [List.length_map, Array.length_toList]; omega)
  · rw [hns] at ha
    obtain ⟨j, hj, rfl⟩ := mem_getD ha
    rw [List.length_map, Array.length_toList] at hj
    rw [← PySem.numAt_eq]; exact h2 j (by omega)
end
end NC
/-! ### x = [.. for .. in a range or a zip] -/
namespace NC
open PySem PySem.Spec PyProof.Rows L2
theorem ps_compI {X : Cx} {i : Nat} {y : Str} {py spos : Pos} {elt target iter : Expr} {ifs : List Expr} {scope : Scope} {pos : Pos} {N : List Str} {wi : TI} {te : Addr → Shared → Hp → List Addr → TE} {tg : Addr → Shared → Hp → List Addr → TG} {tt : Addr → Shared → Hp → List Addr → TT} (hc : X.calm = true) (hN : X.N.Nodup) (hi0 : X.N[i]? = some y) (hy : X.env.scope.names.lookup y = some .local) (S : CompScope N scope) (hi : PI X target iter wi)
    (hb : ∀ C s H fp, PG (compCxI X N scope C s H fp) target (tg C s H fp) ∧ PF (compCxI X N scope C s H fp) ifs (tt C s H fp) ∧ PE (compCxI X N scope C s H fp) elt (te C s H fp)) (hsw : swapsWith (.ListComp elt [⟨target, iter, ifs, 0⟩] scope pos) (some (.Name y py)) spos.line X.env = pure true := by rfl) (hs : ∀ x, foldedSetIterable iter X.env x = pure x := by intro _; rfl) :
    PS X (.Assign [.Name y py] (.ListComp elt [⟨target, iter, ifs, 0⟩] scope pos) spos) (tAsg (tCompI N.length wi tg tt te) (gName i)) := by
  intro pins s σ H DD I h
  rw [exec_Assign_Name_used _ _ _ _ hsw]
  refine wpAny_bind (wpAny_standAt (wpAny_bind ?_))
  show wpAny _ X.A (do let _ ← comprehension (.ListComp elt [⟨target, iter, ifs, 0⟩] scope pos) scope X.env _ (newList []) false (eval iter X.env) (some (assign (.Name y py) X.env))) _ _ s
  refine wpAny_bind (wpAny_mono (wpAny_comprehension_use (Q := fun _ s' => SP X pins DD .next s') rfl hs S.nofree S.kind S.loc (thn (hi pins s σ H _ I h) fun v s0 h0 => thn h0 fun itv s1 h1 => ?_)) (fun _ s' hq => wpAny_pure (wpAny_pure hq)) fun _ _ e => e)
  obtain ⟨it, fp, tn, J, H1, e, I1, T, st1, f1, q⟩ := h1
  subst e
  have hlt : ∀ b ∈ fp, b < s1.heap.objs.size := fun b hb => by obtain ⟨o, e, _⟩ := T.obj _ _ st1 b hb; exact Heap.lt_size e
  refine wpAny_newObj_type (hd := by size_fits) (wpAny_newFunctionEnv S.nocell (by intro y hy; simp at hy) (fun h1 hns hsb => ?_) S.kind)
  dsimp only at hns hsb ⊢
  generalize hH2 : s1.heap.push { cls := .type "list", dict := none, data := .seq ([] : List Value).toArray } = G2 at hns hsb ⊢
  have hC : G2.objs.size = s1.heap.objs.size + 1 := by rw [← hH2, Heap.size_push]
  have old2 : ∀ b o, G2.get? b = some o → h1.get? b = some o := fun b o e => hsb.extBut b o (Nat.ne_of_lt (Heap.lt_size e)) (Heap.get?_push_of_some _ e)
  have old : ∀ b o, s1.heap.get? b = some o → h1.get? b = some o := fun b o e => old2 b o (hH2 ▸ Heap.get?_push_of_some _ e)
  have hacc : h1.get? s1.heap.objs.size = some { cls := .type "list", dict := none, data := .seq ([] : List Value).toArray } := old2 _ _ (hH2 ▸ Heap.get?_push_size _ rfl)
  have nD : H1 s1.heap.objs.size = none := I1.hok.fresh (Nat.le_refl _)
  have nC : H1 G2.objs.size = none := I1.hok.fresh (by rw [hC]; exact Nat.le_succ _)
  obtain ⟨W, ⟨m0, w0⟩, turn⟩ := q s1.heap.objs.size nD
  have CD : G2.objs.size ≠ s1.heap.objs.size := by rw [hC]; exact Nat.ne_of_gt (Nat.lt_succ_self _)
  have fD : ∀ b ∈ fp, b ≠ s1.heap.objs.size := fun b hb => Nat.ne_of_lt (hlt b hb)
  have J0 : Inv (compCxI X N scope G2.objs.size s1 H1 fp) [] (List.replicate N.length none) (upd H1 s1.heap.objs.size (.lst [])) { s1 with heap := h1, toks := s1.toks + ([] : List (Str × Value)).length } := by
    refine ⟨comp_okI I1 S (by rw [hC]; exact Nat.le_succ _) f1 hlt, rfl, I1.bare, Un.laid old (Nat.le_refl _) nD, ⟨_, hns, fun i x v e1 e2 _ => ?_⟩, fun x c e => ?_, ?_, fun x c e => ?_, (fun p hp => nomatch hp), I1.hok.laid (a := s1.heap.objs.size) (o := .lst []) old (Nat.le_refl _) ⟨Nat.zero_le _, [], _, .nil, hacc⟩, ?_⟩
    · exfalso
      rw [List.getElem?_replicate] at e2
      split at e2 <;> cases e2
    · cases e
    · show upd H1 s1.heap.objs.size _ G2.objs.size = none
      rw [upd_ne CD]; exact nC
    · cases e
    · exact List.length_replicate
  have fpk : ∀ {H' : Hp}, (∀ b ∈ fp, H' b = none) → ∀ b ∈ fp, FpOk (compCxI X N scope G2.objs.size s1 H1 fp) [] H' b := fun hn b hb => by
    refine ⟨hn b hb, ?_, fun z => ?_, .inl hb, fun x c e => (by cases e), (fun p hp => nomatch hp)⟩
    · show b ≠ G2.objs.size
      rw [hC]
      exact Nat.ne_of_lt (Nat.lt_succ_of_lt (hlt b hb))
    · obtain ⟨_, g1, g2, _⟩ := f1 b hb
      rcases List.mem_cons.mp (I1.stkSub b z) with y | y
      · exact g1 y
      · exact g2 y
  -- the loop
  have loop : ∀ s2 : Shared, Inv (compCxI X N scope G2.objs.size s1 H1 fp) [] (List.replicate N.length none) (upd H1 s1.heap.objs.size (.lst [])) s2 → tn 0 s2.heap →
      codeAny (model X.prog X.w) X.A (.compLoop (.ListComp elt [⟨target, iter, ifs, 0⟩] scope pos) 0 (.ref it) (.ref s1.heap.objs.size) (compEnv scope G2.objs.size X.env))
        (fun r s' => match r with
          | .ok _ => wpAny (model X.prog X.w) X.A (assign (.Name y py) X.env (.ref s1.heap.objs.size)) (fun _ s'' => ∃ m, s''.heap.Ns G2.objs.size m ∧ ∀ h', Heap.SameBut G2.objs.size s''.heap h' → SP X pins DD .next { s'' with heap := h' }) X.xe s'
          | .error x => ∃ m, s'.heap.Ns G2.objs.size m ∧ ∀ h', Heap.SameBut G2.objs.size s'.heap h' → wpAny (model X.prog X.w) X.A (passOn "comprehension.variables-let-go" x (compEnv scope G2.objs.size X.env)) (fun (_ : Value) s' => SP X pins DD .next s') X.xe { s' with heap := h' }) s2 := by
    intro s2 J2 st2
    refine compLoop_any (fun n s' => ∃ i σ' H', Inv (compCxI X N scope G2.objs.size s1 H1 fp) [] σ' H' s' ∧ tn i s'.heap ∧ (∀ b ∈ fp, H' b = none) ∧ W i n σ' H') ?_ m0 ⟨0, _, _, J2, st2, fun b hb => by rw [upd_ne (fD b hb)]; exact (f1 b hb).1, w0⟩
    rintro n s3 ⟨i, σ3, H3, J3, st3, fr3, w3⟩
    rcases turn i n σ3 H3 w3 with ⟨stop, qn⟩ | ⟨go, NN, hN, step⟩
    · refine thn (T.done (compCxI X N scope G2.objs.size s1 H1 fp) rfl rfl rfl hc i [] s3 σ3 H3 _ J3 (fpk fr3) st3 stop) fun r s4 ⟨hr, J4⟩ => ?_
      subst hr
      obtain ⟨m, hm, _⟩ := J4.loc
      have neC : ∀ b o, s1.heap.get? b = some o → b ≠ G2.objs.size := fun b o e => Nat.ne_of_lt (Nat.lt_of_lt_of_le (Heap.lt_size e) (by rw [hC]; exact Nat.le_succ _))
      have fC : H3 G2.objs.size = none := J4.free
      have trC : ∀ b v, H3 b = some v → b ≠ G2.objs.size := fun b v e z => by rw [z, fC] at e; cases e
      have I4 : Inv X pins σ H3 s4 := I1.call' (s' := s4) (ch := fp) J4.os J4.base J4.hok J4.bare (fun b hb => by
        obtain ⟨_, g1, g2, g3, g4, g5⟩ := f1 b hb
        exact ⟨g3, g1, g4, g5⟩)
      have lC : X.env.locals ≠ G2.objs.size := by obtain ⟨m1, ns1, _⟩ := I1.loc; obtain ⟨o, _, _, ho, _⟩ := ns1; exact neC _ o ho
      have cC : ∀ x c, X.env.cells.lookup x = some c → c ≠ G2.objs.size := fun x c e => by obtain ⟨v, o, ho, _⟩ := I1.cell x c e; exact neC _ o ho
      refine wpAny_assign_Name (store_ok2 I4 hN hi0 (.inl hy) (v := .ref s1.heap.objs.size) rfl (fun s5 I5 ⟨a5, sb5, ha5⟩ => ?_) (.inr hy))
      have a5C : a5 ≠ G2.objs.size := by
        rcases ha5 with z | z
        · rw [z]; exact lC
        · exact cC _ _ z
      refine ⟨m, hm.sameBut sb5 a5C.symm, fun h' sb => ⟨_, H3, ?_, qn⟩⟩
      have oth : ∀ b, b ≠ G2.objs.size → h'.get? b = s5.heap.get? b := fun b nb => sb.2 b nb
      refine I5.step (h' := h') (g' := s5.gens) (t' := s5.toks) (d' := s5.drawn) (ch := [G2.objs.size]) (fun b hb => ?_) (fun b o _ _ nb e _ => (oth b (by simpa using nb)).trans e) (fun b o _ _ nb e _ => ⟨o.slots, (oth b (by simpa using nb)).trans e⟩) (fun b o _ _ n => n) (fun b o nb e => ⟨o, (oth b (by simpa using nb)).trans e⟩) (fun _ _ e => e) (fun _ _ _ e => e) (fun b ps e => ⟨#[], by rw [e]; simp⟩) (fun m2 ns2 => ns2.sameBut sb lC) (fun b v e => ?_) I5.bare
      · rw [List.mem_singleton.mp hb]
        refine ⟨.inr (Nat.le_trans I1.sz (by rw [hC]; exact Nat.le_succ _)), lC.symm, cC, fun p hp => ?_⟩
        exact neC _ _ (I1.pin p hp).1
      · refine (I5.hok b v e).stay (fun c u hc q => (oth c ?_).trans q) (fun _ q => q) fun _ _ q => q
        rcases hc with rfl | hc
        · exact trC _ _ e
        · exact trC _ _ hc
    · refine thn (T.item (compCxI X N scope G2.objs.size s1 H1 fp) rfl rfl rfl hc i [] s3 σ3 H3 _ J3 (fpk fr3) st3 go) fun r s4 ⟨u, hr, h4⟩ => ?_
      subst hr
      refine thn h4 fun _ s5 ⟨x, H5, J5, r5, y5, st5, fr5⟩ => ?_
      have J5' := J5.pinned (fpk fr5) (T.obj _ _ st5)
      obtain ⟨hg, ht, hel⟩ := hb G2.objs.size s1 H1 fp
      have back : ∀ {σ7 : L2.St} {H7 : Hp} {s7 : Shared}, Inv (compCxI X N scope G2.objs.size s1 H1 fp) ([] ++ pinsAt fp s5.heap) σ7 H7 s7 → NN σ7 H7 →
          ∃ m, m < n ∧ ∃ i σ' H', Inv (compCxI X N scope G2.objs.size s1 H1 fp) [] σ' H' s7 ∧ tn i s7.heap ∧ (∀ b ∈ fp, H' b = none) ∧ W i m σ' H' := fun {σ7 H7 s7} J7 n7 => by
        obtain ⟨m', hm, w7⟩ := hN σ7 H7 n7
        refine ⟨m', hm, i + 1, σ7, H7, J7.unpinned, T.keep _ _ _ st5 fun b hb o e => (J7.pin (b, o) (List.mem_append_right _ (List.mem_append_right _ (mem_pinsAt hb e)))).1, fun b hb => ?_, w7⟩
        obtain ⟨o, e, d⟩ := T.obj _ _ st5 b hb
        exact (J7.pin (b, o) (List.mem_append_right _ (List.mem_append_right _ (mem_pinsAt hb e)))).2.1
      refine thn (hg _ s5 σ3 H5 x u _ J5' r5 (step G2.objs.size s1 H1 fp x H5 y5)) fun _ s6 ⟨σ6, H6, J6, q6⟩ => ?_
      refine thn (ht _ s6 σ6 H6 _ J6 q6) fun ok s7 ⟨H7, J7, q7⟩ => ?_
      cases ok with
      | false => exact back J7 q7
      | true =>
        refine thn (hel _ s7 σ6 H7 _ J7 q7) fun y s8 ⟨yv, H8, J8, ry, ys, hys, hyl, w8⟩ => ?_
        refine thn (mt_append (X := compCxI X N scope G2.objs.size s1 H1 fp) _ s8 σ6 H8 (.ref s1.heap.objs.size) [yv] (.ref s1.heap.objs.size) [y] (fun _ H9 => NN σ6 H9) J8 rfl (.cons ry .nil) ⟨_, ys, yv, rfl, rfl, hys, hyl, w8⟩) fun z s9 ⟨_, H9, J9, _, w9⟩ => ?_
        exact back J9 w9
  have st1' : tn 0 h1 := T.keep _ _ _ st1 fun b hb o e => old b o e
  exact codeAny_compStart_list (loop _ J0 st1') (T.self _ _ _ _ _ st1' (loop _ J0 st1'))
theorem clos1 {X : Cx} {x : Str} {c : Addr} (h : X.env.cells.lookup x = some c) (k : X.env.kindOf x = some .cell) : CompClos X [x] [(x, c)] where
  at_ := fun y d e => by
    have := PySem.mem_of_lookup e
    simp at this
    rw [this.1, this.2]
    exact h
  has := fun y hy => ⟨c, by rw [List.mem_singleton.mp hy]; simp⟩
  only := fun y d e => by
    have := PySem.mem_of_lookup e
    simp at this
    rw [this.1]
    exact List.mem_singleton.mpr rfl
  kd := fun y hy => by rw [List.mem_singleton.mp hy, k]; intro z; cases z
end NC
/-! ### words that no name has, terms told by words -/
namespace NC
open PySem
def lett (n : Nat) : Str := ⟨#[97 + n % 26]⟩
/-- the word with that number -/
def wordN (n : Nat) : Str := goW (n / 26) (lett n)
def dec (m : Nat) (l : List Nat) : Nat := l.foldl (fun a c => a * 26 + (c - 96)) m
theorem dec_goW : ∀ (m : Nat) (w : Str), dec 0 (goW m w).cps.toList = dec m w.cps.toList := by
  intro m
  induction m using Nat.strongRecOn with
  | _ m ih =>
    intro w
    by_cases hm : m = 0
    · subst hm; rw [goW_zero]
    · rw [goW_pos hm, ih ((m - 1) / 26) (by omega)]
      have e : ((⟨#[97 + (m - 1) % 26]⟩ : Str) ++ w).cps.toList = (97 + (m - 1) % 26) :: w.cps.toList := by
        show (#[97 + (m - 1) % 26] ++ w.cps).toList = _
        simp
      rw [e]
      show dec ((m - 1) / 26 * 26 + (97 + (m - 1) % 26 - 96)) w.cps.toList = _
      congr 1
      omega
theorem dec_wordN (n : Nat) : dec 0 (wordN n).cps.toList = n + 1 := by
  unfold wordN
  rw [dec_goW]
  show n / 26 * 26 + (97 + n % 26 - 96) = _
  omega
theorem wordN_inj {m n : Nat} (h : wordN m = wordN n) : m = n := by
  have := dec_wordN m
  rw [h, dec_wordN] at this
  omega
theorem wd_wordN {n : Nat} (h : n ≤ 100000) : Wd (wordN n) := by
  have e : (lett n).cps.toList = [97 + n % 26] := rfl
  refine goW_wd _ _ (fun z hz => ?_) (.inl (by rw [e]; exact Nat.le_refl _)) ?_ (by rw [e]; show 1 ≤ 50; decide)
  · rw [e] at hz
    rw [List.mem_singleton.mp hz]
    omega
  · rw [e]
    have : n / 26 ≤ 100000 := by omega
    show 26 ^ 1 * _ ≤ _
    exact Nat.le_trans (Nat.mul_le_mul_left _ this) (by decide +kernel)
theorem goW_step {m : Nat} (h : m ≠ 0) (w : Str) : goW m w = goW ((m - 1) / 26) (lett (m - 1) ++ w) := goW_pos h w
/-- the first so many words that are not used -/
def freeW (many : Nat) (used : List Str) : List Str := (((List.range (many + used.length)).map wordN).filter fun w => decide (w ∉ used)).take many
theorem words_nodup (n : Nat) : ((List.range n).map wordN).Nodup := by
  refine List.pairwise_map.mpr (List.Pairwise.imp (fun h => ?_) List.nodup_range)
  exact fun z => h (wordN_inj z)
theorem filter_split {α : Type} (p : α → Bool) (l : List α) : l.length = (l.filter p).length + (l.filter fun x => !p x).length := by
  induction l with
  | nil => rfl
  | cons x l ih =>
    cases h : p x <;> simp [List.filter_cons, h] <;> omega
theorem freeW_len (many : Nat) (used : List Str) : (freeW many used).length = many := by
  unfold freeW
  rw [List.length_take]
  refine Nat.min_eq_left ?_
  have h1 := filter_split (fun w => decide (w ∉ used)) ((List.range (many + used.length)).map wordN)
  rw [List.length_map, List.length_range] at h1
  have h2 : (((List.range (many + used.length)).map wordN).filter fun x => !decide (x ∉ used)).length ≤ used.length := by
    refine sub_len ((words_nodup _).sublist List.filter_sublist) fun x hx => ?_
    have := (List.mem_filter.mp hx).2
    simpa using this
  omega
theorem freeW_nodup (many : Nat) (used : List Str) : (freeW many used).Nodup :=
  ((words_nodup _).sublist List.filter_sublist).sublist (List.take_sublist _ _)
theorem freeW_mem {many : Nat} {used : List Str} {x : Str} (h : x ∈ freeW many used) : x ∉ used ∧ ∃ n, n < many + used.length ∧ x = wordN n := by
  have h := List.mem_of_mem_take h
  obtain ⟨h1, h2⟩ := List.mem_filter.mp h
  obtain ⟨n, hn, e⟩ := List.mem_map.mp h1
  exact ⟨by simpa using h2, n, List.mem_range.mp hn, e.symm⟩
/-! #### told by words -/
def T.nm (ws : List Str) : T Str → Nat → NT
  | .name w, _ => .name w
  | .place i, k => .name (ws.getD (k - 1 - i) ⟨#[]⟩)
  | .form b, k => .form (ws.getD k ⟨#[]⟩) (b.nm ws (k + 1))
  | .call a b, k => .call (a.nm ws k) (b.nm ws k)
def T.closed : T Str → Nat → Prop
  | .name _, _ => True
  | .place i, k => i < k
  | .form b, k => b.closed (k + 1)
  | .call a b, k => a.closed k ∧ b.closed k
def T.fits (n : Nat) : T Str → Nat → Prop
  | .form b, k => k < n ∧ b.fits n (k + 1)
  | .call a b, k => a.fits n k ∧ b.fits n k
  | _, k => k ≤ n
def T.has (w : Str) : T Str → Prop
  | .name u => u = w
  | .place _ => False
  | .form b => b.has w
  | .call a b => a.has w ∨ b.has w
theorem numAt_out {w : Str} : ∀ {ws : List Str} (n : Nat), w ∉ ws → numAt w ws n = .name w
  | [], _, _ => rfl
  | u :: ws, n, h => by
    unfold numAt
    rw [if_neg fun e => h (by rw [e]; exact List.mem_cons_self), numAt_out (n + 1) fun z => h (List.mem_cons_of_mem _ z)]
theorem numAt_in {w : Str} : ∀ {ws : List Str} (n j : Nat), ws.Nodup → ws[j]? = some w → numAt w ws n = .place (n + j)
  | [], _, _, _, h => by simp at h
  | u :: ws, n, 0, _, h => by
    unfold numAt
    rw [if_pos (Option.some.inj h)]
    rfl
  | u :: ws, n, j + 1, nd, h => by
    rw [List.nodup_cons] at nd
    have h : ws[j]? = some w := h
    unfold numAt
    rw [if_neg fun e => nd.1 (by rw [e]; exact List.mem_of_getElem? h), numAt_in (n + 1) j nd.2 h]
    congr 1
    omega
theorem take_rev {ws : List Str} {k : Nat} (h : k < ws.length) : (ws.take (k + 1)).reverse = ws.getD k ⟨#[]⟩ :: (ws.take k).reverse := by
  rw [List.take_add_one, List.getElem?_eq_getElem h, List.reverse_append, List.getD_eq_getElem?_getD, List.getElem?_eq_getElem h]
  rfl
theorem count_nm {ws : List Str} (nd : ws.Nodup) : ∀ (t : T Str) (k : Nat), t.closed k → t.fits ws.length k → (∀ w ∈ ws, ¬ t.has w) → (t.nm ws k).num byNum (ws.take k).reverse = t
  | .name w, k, _, _, h => numAt_out 0 fun z => h w (List.mem_of_mem_take (List.mem_reverse.mp z)) rfl
  | .place i, k, hc, hf, _ => by
    have hc : i < k := hc
    have hf : k ≤ ws.length := hf
    have hk : k - 1 - i < ws.length := by omega
    have e : ((ws.take k).reverse)[i]? = some (ws.getD (k - 1 - i) ⟨#[]⟩) := by
      have hl : (ws.take k).length = k := by rw [List.length_take]; omega
      rw [List.getElem?_reverse (by omega), hl, List.getElem?_take, if_pos (by omega), List.getD_eq_getElem?_getD, List.getElem?_eq_getElem hk]
      rfl
    have nd2 : ((ws.take k).reverse).Nodup := by
      refine List.pairwise_reverse.mpr (List.Pairwise.imp (fun h z => h z.symm) (nd.sublist (List.take_sublist _ _)))
    show numAt _ _ 0 = _
    rw [numAt_in 0 i nd2 e, Nat.zero_add]
  | .form b, k, hc, hf, h => by
    have ih := count_nm nd b (k + 1) hc hf.2 h
    rw [take_rev hf.1] at ih
    show T.form ((b.nm ws (k + 1)).num byNum (_ :: _)) = _
    rw [ih]
  | .call a b, k, hc, hf, h => by
    show T.call _ _ = _
    rw [count_nm nd a k hc.1 hf.1 fun w hw z => h w hw (.inl z), count_nm nd b k hc.2 hf.2 fun w hw z => h w hw (.inr z)]
theorem nm_size (ws : List Str) : ∀ (t : T Str) (k : Nat), (t.nm ws k).size = t.size
  | .name _, _ => rfl
  | .place _, _ => rfl
  | .form b, k => by show (b.nm ws (k + 1)).size + 1 = b.size + 1; rw [nm_size ws b]
  | .call a b, k => by show (a.nm ws k).size + (b.nm ws k).size + 1 = a.size + b.size + 1; rw [nm_size ws a, nm_size ws b]
theorem nm_ok {ws : List Str} (hw : ∀ w ∈ ws, Wd w) : ∀ (t : T Str) (k : Nat), t.closed k → t.fits ws.length k → (∀ w, t.has w → Wd w) → (t.nm ws k).ok
  | .name w, _, _, _, h => h w rfl
  | .place i, k, hc, hf, _ => by
    have hc : i < k := hc
    have hf : k ≤ ws.length := hf
    refine hw _ ?_
    rw [List.getD_eq_getElem?_getD, List.getElem?_eq_getElem (show k - 1 - i < ws.length by omega)]
    exact List.getElem_mem _
  | .form b, k, hc, hf, h => by
    refine ⟨hw _ ?_, nm_ok hw b (k + 1) hc hf.2 h⟩
    rw [List.getD_eq_getElem?_getD, List.getElem?_eq_getElem hf.1]
    exact List.getElem_mem _
  | .call a b, k, hc, hf, h => ⟨nm_ok hw a k hc.1 hf.1 fun w z => h w (.inl z), nm_ok hw b k hc.2 hf.2 fun w z => h w (.inr z)⟩
/-! #### what is told by numbers has no outer places -/
theorem num_closed : ∀ (t : NT) (ws : List Str), (t.num byNum ws).closed ws.length
  | .name w, ws => by
    show (numAt w ws 0).closed ws.length
    have h : ∀ (ws : List Str) (n : Nat), (numAt w ws n).closed (n + ws.length) := fun ws => by
      induction ws with
      | nil => exact fun n => trivial
      | cons u ws ih =>
        intro n
        unfold numAt
        split
        · show n < n + (ws.length + 1); omega
        · have := ih (n + 1)
          rw [show n + (u :: ws).length = n + 1 + ws.length by rw [List.length_cons]; omega]
          exact this
    have := h ws 0
    rwa [Nat.zero_add] at this
  | .form w b, ws => num_closed b (w :: ws)
  | .call a b, ws => ⟨num_closed a ws, num_closed b ws⟩
theorem num_has : ∀ (t : NT) (ws : List Str), t.ok → ∀ w, (t.num byNum ws).has w → Wd w
  | .name u, ws, ok, w, h => by
    have hh : ∀ (ws : List Str) (n : Nat), (numAt u ws n).has w → u = w := fun ws => by
      induction ws with
      | nil => exact fun n z => z
      | cons x ws ih =>
        intro n z
        unfold numAt at z
        split at z
        · exact z.elim
        · exact ih _ z
    rw [← hh ws 0 h]
    exact ok
  | .form u b, ws, ok, w, h => num_has b (u :: ws) ok.2 w h
  | .call a b, ws, ok, w, h => h.elim (num_has a ws ok.1 w) (num_has b ws ok.2 w)
/-! #### and what is put in -/
/-! #### over the parts -/
theorem closed_parts : ∀ (t : T Str) (k : Nat), t.closed k → ∀ q ∈ t.parts k, ∀ i, q.1 = .place i → i < q.2
  | .name _, k, _, q, h, i, e => by rw [List.mem_singleton.mp h] at e; cases e
  | .place j, k, c, q, h, i, e => by
    rw [List.mem_singleton.mp h] at e ⊢
    cases e
    exact c
  | .form b, k, c, q, h, i, e => by
    rcases List.mem_cons.mp (show q ∈ (T.form b, k) :: b.parts (k + 1) from h) with z | z
    · rw [z] at e; cases e
    · exact closed_parts b (k + 1) c q z i e
  | .call a b, k, c, q, h, i, e => by
    rcases List.mem_cons.mp (show q ∈ (T.call a b, k) :: (a.parts k ++ b.parts k) from h) with z | z
    · rw [z] at e; cases e
    · rcases List.mem_append.mp z with z | z
      · exact closed_parts a k c.1 q z i e
      · exact closed_parts b k c.2 q z i e
theorem closed_of : ∀ (t : T Str) (k : Nat), (∀ q ∈ t.parts k, ∀ i, q.1 = .place i → i < q.2) → t.closed k
  | .name _, _, _ => trivial
  | .place i, k, h => h (.place i, k) (List.mem_singleton.mpr rfl) i rfl
  | .form b, k, h => closed_of b (k + 1) fun q z => h q (List.mem_cons_of_mem _ z)
  | .call a b, k, h => ⟨closed_of a k fun q z => h q (List.mem_cons_of_mem _ (List.mem_append_left _ z)), closed_of b k fun q z => h q (List.mem_cons_of_mem _ (List.mem_append_right _ z))⟩
theorem parts_self (t : T Str) (k : Nat) : (t, k) ∈ t.parts k := by
  cases t <;> exact List.mem_cons_self
theorem form_parts {b : T Str} {m : Nat} : ∀ (t : T Str) (k : Nat), (T.form b, m) ∈ t.parts k → (b, m + 1) ∈ t.parts k
  | .name _, k, h => by cases List.mem_singleton.mp h
  | .place _, k, h => by cases List.mem_singleton.mp h
  | .form c, k, h => by
    rcases List.mem_cons.mp (show (T.form b, m) ∈ (T.form c, k) :: c.parts (k + 1) from h) with z | z
    · cases z
      exact List.mem_cons_of_mem _ (parts_self b (m + 1))
    · exact List.mem_cons_of_mem _ (form_parts c (k + 1) z)
  | .call x y, k, h => by
    rcases List.mem_cons.mp (show (T.form b, m) ∈ (T.call x y, k) :: (x.parts k ++ y.parts k) from h) with z | z
    · cases z
    · rcases List.mem_append.mp z with z | z
      · exact List.mem_cons_of_mem _ (List.mem_append_left _ (form_parts x k z))
      · exact List.mem_cons_of_mem _ (List.mem_append_right _ (form_parts y k z))
theorem fits_parts {M : Nat} : ∀ (t : T Str) (k : Nat), (∀ q ∈ t.parts k, q.2 ≤ M) → t.fits M k
  | .name _, k, h => h _ (parts_self _ k)
  | .place _, k, h => h _ (parts_self _ k)
  | .form b, k, h => ⟨h (b, k + 1) (List.mem_cons_of_mem _ (parts_self b (k + 1))), fits_parts b (k + 1) fun q z => h q (List.mem_cons_of_mem _ z)⟩
  | .call a b, k, h => ⟨fits_parts a k fun q z => h q (List.mem_cons_of_mem _ (List.mem_append_left _ z)), fits_parts b k fun q z => h q (List.mem_cons_of_mem _ (List.mem_append_right _ z))⟩
theorem has_parts {w : Str} : ∀ (t : T Str) (k : Nat), t.has w ↔ ∃ q ∈ t.parts k, q.1 = .name w
  | .name u, k => by
    constructor
    · intro h
      exact ⟨_, List.mem_singleton.mpr rfl, by rw [show u = w from h]⟩
    · rintro ⟨q, h, e⟩
      rw [List.mem_singleton.mp h] at e
      cases e
      rfl
  | .place i, k => by
    constructor
    · intro h; exact h.elim
    · rintro ⟨q, h, e⟩
      rw [List.mem_singleton.mp h] at e
      cases e
  | .form b, k => by
    show b.has w ↔ _
    rw [has_parts b (k + 1)]
    constructor
    · rintro ⟨q, h, e⟩
      exact ⟨q, List.mem_cons_of_mem _ h, e⟩
    · rintro ⟨q, h, e⟩
      rcases List.mem_cons.mp (show q ∈ (T.form b, k) :: b.parts (k + 1) from h) with z | z
      · rw [z] at e; cases e
      · exact ⟨q, z, e⟩
  | .call a b, k => by
    show a.has w ∨ b.has w ↔ _
    rw [has_parts a k, has_parts b k]
    constructor
    · rintro (⟨q, h, e⟩ | ⟨q, h, e⟩)
      · exact ⟨q, List.mem_cons_of_mem _ (List.mem_append_left _ h), e⟩
      · exact ⟨q, List.mem_cons_of_mem _ (List.mem_append_right _ h), e⟩
    · rintro ⟨q, h, e⟩
      rcases List.mem_cons.mp (show q ∈ (T.call a b, k) :: (a.parts k ++ b.parts k) from h) with z | z
      · rw [z] at e; cases e
      · rcases List.mem_append.mp z with z | z
        · exact .inl ⟨q, z, e⟩
        · exact .inr ⟨q, z, e⟩
/-- built with a pile, top ahead, by two tellings -/
def runW (ws : List Str) : List (T Str × Nat) → List NT → Option (List NT)
  | [], S => some S
  | (.name w, _) :: ys, S => runW ws ys (.name w :: S)
  | (.place i, k) :: ys, S => runW ws ys (.name (ws.getD (k - 1 - i) ⟨#[]⟩) :: S)
  | (.form _, k) :: ys, x :: S => runW ws ys (.form (ws.getD k ⟨#[]⟩) x :: S)
  | (.call _ _, _) :: ys, x :: y :: S => runW ws ys (.call x y :: S)
  | _, _ => none
theorem runW_parts (ws : List Str) : ∀ (t : T Str) (k : Nat) (ys : List (T Str × Nat)) (S : List NT), runW ws ((t.parts k).reverse ++ ys) S = runW ws ys (t.nm ws k :: S)
  | .name _, _, _, _ => rfl
  | .place _, _, _, _ => rfl
  | .form b, k, ys, S => by
    show runW ws (((T.form b, k) :: b.parts (k + 1)).reverse ++ ys) S = _
    rw [List.reverse_cons, List.append_assoc, runW_parts ws b]
    rfl
  | .call a b, k, ys, S => by
    show runW ws (((T.call a b, k) :: (a.parts k ++ b.parts k)).reverse ++ ys) S = _
    rw [List.reverse_cons, List.reverse_append, List.append_assoc, List.append_assoc, runW_parts ws b, runW_parts ws a]
    rfl
theorem runW_all (ws : List Str) (t : T Str) (k : Nat) : runW ws (t.parts k).reverse [] = some [t.nm ws k] := by
  have := runW_parts ws t k [] []
  rw [List.append_nil] at this
  exact this
theorem runW_form {ws : List Str} {b : T Str} {k : Nat} {ys : List (T Str × Nat)} {S R : List NT} (h : runW ws ((.form b, k) :: ys) S = some R) : ∃ x S', S = x :: S' ∧ runW ws ys (.form (ws.getD k ⟨#[]⟩) x :: S') = some R := by
  cases S with
  | nil => cases h
  | cons x S => exact ⟨x, S, rfl, h⟩
theorem runW_call {ws : List Str} {a b : T Str} {k : Nat} {ys : List (T Str × Nat)} {S R : List NT} (h : runW ws ((.call a b, k) :: ys) S = some R) : ∃ x y S', S = x :: y :: S' ∧ runW ws ys (.call x y :: S') = some R := by
  match S, h with
  | [], h => cases h
  | [x], h => cases h
  | x :: y :: S, h => exact ⟨x, y, S, rfl, h⟩
end NC
/-! ### the defs of the text -/
namespace NC
open PySem PySem.Spec PyProof.Rows L2
def top (i : Nat) : Stmt := PySem.Challenge.pw_namecall_k06_whole_numbered_and_named.main.body.getD i (.Pass ⟨0, 0, 0, 0⟩)
/-- the built-in names that the text leaves alone -/
structure NoNames (mg : Str → Option Value) : Prop where
  len : mg "len" = none
  abs : mg "abs" = none
  isinstance : mg "isinstance" = none
  list : mg "list" = none
  tuple : mg "tuple" = none
  str : mg "str" = none
  reversed : mg "reversed" = none
  int : mg "int" = none
  bool : mg "bool" = none
  sorted : mg "sorted" = none
  set : mg "set" = none
  any : mg "any" = none
  range : mg "range" = none
  max : mg "max" = none
  dict : mg "dict" = none
  ValueError : mg "ValueError" = none
section
variable {P : Program} {w : World} {K : PySem.W.Frag} {mg : Str → Option Value} {base : Heap}
seal L2.PE L2.PA L2.PT L2.PS L2.PSs L2.PW L2.PG L2.PGs L2.PI L2.PO L2.OpR L2.UnR L2.CallR L2.TruR L2.IxR L2.SlR
abbrev s__law_whole : Stmt := top 21
theorem sc__law_whole : FnScope ["_law_found"] ["_law_found"] (defScope s__law_whole) := ⟨rfl, rfl, rfl, by decide +kernel, rfl, by decide +kernel, by decide +kernel⟩
inductive Sp_wholeI (vs : List V) (H : Hp) (Q : VK) : Prop where
  | mk (i : _) (c1 : vs = [.int i]) (c2 : Q (.bl true) H)
def sp_whole : Sp := fun vs H Q u3_ => Sp_wholeI vs H Q
theorem ok__law_whole {f : Addr} {fd : FuncData} (F : Fun K "_law_whole" "_law_whole" s__law_whole f fd) (N_ : NoNames mg) : FnOk P w K mg base CX0 1 f fd ["_law_found"] sp_whole := by
  refine F.ok sc__law_whole (fun vs H Q E h => ?_) (fun cdv A outer s H vs Q E hr h => ?_)
  · obtain ⟨i, rfl, _⟩ := h
    rfl
  · obtain ⟨i, rfl, k⟩ := h
    refine ⟨_, (pss_one (ps_ret (pe_and (pCB call_isi (by rfl) N_.isinstance boot_isinstance (pa_c (pv 0) (pa_c (pe_bltn (v := V.ty "int") rfl N_.int boot_int rfl) pa_nil))) (pe_one (pe_not (pCB call_isi (by rfl) N_.isinstance boot_isinstance (pa_c (pv 0) (pa_c (pe_bltn (v := V.ty "bool") rfl N_.bool boot_bool rfl) pa_nil)))))))), ?_⟩
    exact ⟨_, rfl, _, _, _, _, rfl, .int i, kit_ii K, _, rfl, iteT ⟨_, rfl, _, _, _, _, rfl, .int i, kit_ib K, _, rfl, k⟩⟩
abbrev s__law_any : Stmt := top 32
theorem sc__law_any : FnScope ["_law_cell", "_law_size"] ["_law_cell"] (defScope s__law_any) := ⟨rfl, rfl, rfl, by decide +kernel, rfl, by decide +kernel, by decide +kernel⟩
inductive Sp_anyI (vs : List V) (H : Hp) (Q : VK) : Prop where
  | mk (c : _) (c1 : vs = [.int c]) (c2 : ∀ i H', Same H H' → Q (.int i) H')
def sp_any : Sp := fun vs H Q u3_ => Sp_anyI vs H Q
theorem ok__law_any {f : Addr} {fd : FuncData} (F : Fun K "_law_any" "_law_any" s__law_any f fd) : FnOk P w K mg base CX0 1 f fd ["_law_cell"] sp_any := by
  refine F.ok sc__law_any (fun vs H Q E h => ?_) (fun cdv A outer s H vs Q E hr h => ?_)
  · obtain ⟨c, rfl, _⟩ := h
    rfl
  · obtain ⟨c, rfl, k⟩ := h
    refine ⟨_, (pss_cons (ps_set (i := 1) sc__law_any.nd rfl (Or.inl rfl) (pe_op op_mod (pe_op op_fdiv (pv 0) pe_int) (pe_op op_pow pe_int pe_int)))
      (pss_one (ps_ret (pe_op op_mul (pv 1) (pe_ix ix_list (pLst (pa_c pe_int (pa_c (pe_un un_neg pe_int) pa_nil))) (pe_op op_mod (pv 0) pe_int) (fun _ _ => rfl)))))), ?_⟩
    show (let V1_ : TS := _; tSeq _ V1_ _ _ _)
    intro V1_
    refine ⟨_, rfl, _, _, rfl, rfl, ⟨by decide, by decide⟩, _, _, rfl, rfl, ⟨by decide, by decide, by decide⟩, _, _, rfl, rfl, (show (0 : Int) < 10 ^ (59 : Int).toNat by decide +kernel), ?_⟩
    refine ⟨_, rfl, _, rfl, small' (by simp), fun p H1 np s1 h1 => ⟨_, rfl, _, _, rfl, rfl, (show (0 : Int) < 2 by decide), ?_⟩⟩
    have hc : c % 2 = 0 ∨ c % 2 = 1 := by omega
    rcases hc with e | e
    · refine ⟨_, _, _, _, rfl, rfl, SqL.of h1, by rw [e]; exact at0, _, _, rfl, rfl, Or.inr ⟨by decide, by decide⟩, k _ _ s1⟩
    · refine ⟨_, _, _, _, rfl, rfl, SqL.of h1, by rw [e]; exact at1, _, _, rfl, rfl, Or.inr ⟨by decide, by decide⟩, k _ _ s1⟩
abbrev s__law_any_word : Stmt := top 31
theorem sc__law_any_word : FnScope ["_law_cell", "_law_left", "_law_word"] ["_law_cell"] (defScope s__law_any_word) := ⟨rfl, rfl, rfl, by decide +kernel, rfl, by decide +kernel, by decide +kernel⟩
theorem word_bound {k L : Nat} (h : 26 ^ k * L ≤ 10 ^ 39) (hL : 1 ≤ L) : k ≤ 28 := by
  refine Nat.le_of_not_lt fun z => ?_
  have h1 : 26 ^ 28 ≤ 26 ^ k := Nat.pow_le_pow_right (by decide) (by omega)
  have h2 : 26 ^ k * 1 ≤ 26 ^ k * L := Nat.mul_le_mul_left _ hL
  have h3 : ¬ (26 ^ 28 ≤ 10 ^ 39) := by decide +kernel
  omega
abbrev s__law_room : Stmt := top 30
theorem sc__law_room : FnScope ["_law_script", "_law_most", "_law_bound"] ["_law_script", "_law_most", "_law_bound"] (defScope s__law_room) := ⟨rfl, rfl, rfl, by decide +kernel, rfl, by decide +kernel, by decide +kernel⟩
inductive Sp_roomI (K : PySem.W.Frag) (vs : List V) (H : Hp) (Q : VK) : Prop where
  | mk (a : _) (ns : List Int) (m : _) (b : _) (c1 : vs = [.ref a, m, b]) (c2 : SqL K H a (ns.map V.int)) (c3 : ns.length ≤ 63) (c4 : Q m H)
def sp_room (K : PySem.W.Frag) : Sp := fun vs H Q u3_ => Sp_roomI K vs H Q
theorem ok__law_room {f : Addr} {fd : FuncData} (F : Fun K "_law_room" "_law_room" s__law_room f fd) (N_ : NoNames mg) : FnOk P w K mg base CX0 1 f fd ["_law_script", "_law_most", "_law_bound"] (sp_room K) := by
  refine F.ok sc__law_room (fun vs H Q E h => ?_) (fun cdv A outer s H vs Q E hr h => ?_)
  · obtain ⟨a, ns, m, b, rfl, _⟩ := h
    rfl
  · obtain ⟨a, ns, m, b, rfl, hS, hl, k⟩ := h
    refine ⟨_, (pss_cons (ps_if (pt_cmpR op_gt (pCB call_len_seq (by rfl) N_.len boot_len (pa_c (pv 0) pa_nil)) pe_int (nomark _)) (pss_one (ps_ret (pv 2))) pss_nil)
      (pss_one (ps_ret (pv 1)))), ?_⟩
    show (let V1_ : TS := _; let V2_ : TS := _; tSeq (tIfS _ V2_ _) V1_ _ _ _)
    intro V1_ V2_
    exact ⟨_, rfl, _, _, rfl, Or.inl hS, _, _, rfl, rfl, _, rfl, ifF (by rw [List.length_map]; omega) ⟨_, rfl, k⟩⟩
end
end NC
/-! ### the parts of a term -/
namespace NC
open PySem PySem.Spec PyProof.Rows L2
section
variable {P : Program} {w : World} {K : PySem.W.Frag} {mg : Str → Option Value} {base : Heap}
seal L2.PE L2.PA L2.PT L2.PS L2.PSs L2.PW L2.PG L2.PGs L2.PI L2.PO L2.OpR L2.UnR L2.CallR L2.TruR L2.IxR L2.SlR
abbrev s_is_outer : Stmt := top 9
theorem sc_is_outer : FnScope ["part", "forms"] ["part", "forms"] (defScope s_is_outer) := ⟨rfl, rfl, rfl, by decide +kernel, rfl, by decide +kernel, by decide +kernel⟩
def T.outer (t : Tm) (k : Nat) : Bool := match t with | .place n => decide (k ≤ n) | _ => false
inductive Sp_is_outerI (vs : List V) (H : Hp) (Q : VK) : Prop where
  | mk (v : _) (t : _) (k : Nat) (c1 : vs = [v, .int (k : Int)]) (c2 : TermAt H v t) (c3 : Q (.bl (T.outer t k)) H)
def sp_is_outer : Sp := fun vs H Q u3_ => Sp_is_outerI vs H Q
theorem ok_is_outer {f : Addr} {fd : FuncData} (F : Fun K "is_outer" "is_outer" s_is_outer f fd) : FnOk P w K mg base CX0 1 f fd ["part", "forms"] sp_is_outer := by
  refine F.ok sc_is_outer (fun vs H Q E h => ?_) (fun cdv A outer s H vs Q E hr h => ?_)
  · obtain ⟨v, t, k, rfl, _⟩ := h
    rfl
  · obtain ⟨v, t, n, rfl, ht, k⟩ := h
    refine ⟨_, (pss_one (ps_ret (pe_and (pe_cmpR op_eq (pe_ix ix_tup (pv 0) pe_int (fun _ _ => rfl)) pe_str (nomark _)) (pe_one (pe_cmpR op_ge (pe_ix ix_tup (pv 0) pe_int (fun _ _ => rfl)) (pv 1) (nomark _)))))), ?_⟩
    cases ht with
    | name h => exact ⟨_, rfl, _, _, _, _, rfl, rfl, SqT.of h, at0, rfl, _, rfl, ifF n_np k⟩
    | form h _ => exact ⟨_, rfl, _, _, _, _, rfl, rfl, SqT.of h, at0, rfl, _, rfl, ifF n_fp k⟩
    | call h _ _ => exact ⟨_, rfl, _, _, _, _, rfl, rfl, SqT.of h, at0, rfl, _, rfl, ifF n_cp k⟩
    | @place a m h =>
      refine ⟨_, rfl, _, _, _, _, rfl, rfl, SqT.of h, at0, rfl, _, rfl, ifT rfl ⟨_, rfl, _, _, _, _, rfl, rfl, SqT.of h, at1, _, rfl, _, _, rfl, rfl, ?_⟩⟩
      have e : decide ((m : Int) ≥ (n : Int)) = T.outer (.place m) n := by
        show _ = decide (n ≤ m)
        by_cases q : n ≤ m
        · rw [decide_eq_true q, decide_eq_true (by omega)]
        · rw [decide_eq_false q, decide_eq_false (by omega)]
      show Q (V.bl (decide ((n : Int) ≤ (m : Int)))) H
      rw [show decide ((n : Int) ≤ (m : Int)) = T.outer (.place m) n from e]
      exact k
abbrev s_walk : Stmt := top 6
theorem sc_walk : FnScope ["term", "around", "inward", "found", "todo", "pair", "part"] ["term", "around", "inward"] (defScope s_walk) := ⟨rfl, rfl, rfl, by decide +kernel, rfl, by decide +kernel, by decide +kernel⟩
/-- inward: one form more -/
inductive Sp_inwI (J : Hp → Prop) (vs : List V) (H : Hp) (Q : VK) : Prop where
  | mk (v : _) (k : Nat) (c1 : vs = [v, .int (k : Int)]) (c2 : J H) (c3 : Q (.int ((k + 1 : Nat) : Int)) H)
def sp_inw (J : Hp → Prop) : Sp := fun vs H Q u3_ => Sp_inwI J vs H Q
inductive Sp_walkI (kf : Nat) (P : Program) (w : World) (K : PySem.W.Frag) (mg : Str → Option Value) (base : Heap) (vs : List V) (H : Hp) (Q : VK) : Prop where
  | mk (v : _) (t : _) (k0 : Nat) (f : _) (ps : _) (J : _) (c1 : vs = [v, .int (k0 : Int), .ref f]) (c2 : TermAt H v t) (c3 : t.size ≤ 100000) (c4 : FV P w K mg base CX0 kf f ps (sp_inw J)) (c5 : (∀ H', Same H H' → J H')) (c6 : ∀ l rs H', Same H H' → H l = none → H' l = some (.lst rs) → Paired (PairAt H') rs (t.parts k0) → Q (.ref l) H')
def sp_walk (kf : Nat) (P : Program) (w : World) (K : PySem.W.Frag) (mg : Str → Option Value) (base : Heap) : Sp := fun vs H Q u3_ => Sp_walkI kf P w K mg base vs H Q
inductive InvWalkI (H : Hp) (v : V) (t : Tm) (k0 : Nat) (u : V) (f d : Addr) (m : Nat) (σ : L2.St) (H' : Hp) : Prop where
  | mk (its : _) (xs : _) (fs : _) (ps : _) (x3 : _) (x4 : _) (c1 : σ = [some v, some (.int (k0 : Int)), some u, some (.ref f), some (.ref d), x3, x4]) (c2 : Same H H') (c3 : H' f = some (.lst fs)) (c4 : H' d = some (.lst xs)) (c5 : Paired (PairAt H') xs its) (c6 : Paired (PairAt H') fs ps) (c7 : ps ++ pendP its = t.parts k0) (c8 : m = sizesP its) (c9 : sizesP its ≤ t.size)
def InvWalk (H : Hp) (v : V) (t : Tm) (k0 : Nat) (u : V) (f d : Addr) (m : Nat) (σ : L2.St) (H' : Hp) : Prop := InvWalkI H v t k0 u f d m σ H'
theorem atm1 {α : Type} {a b : α} : atI [a, b] (-1) = some b := rfl
theorem ok_walk {f : Addr} {fd : FuncData} {kf : Nat} (F : Fun K "walk" "walk" s_walk f fd) : FnOk P w K mg base CX0 (kf + 1) f fd ["term", "around", "inward"] (sp_walk kf P w K mg base) := by
  refine F.ok sc_walk (fun vs H Q E h => ?_) (fun cdv A outer s H vs Q E hr h => ?_)
  · obtain ⟨v, t, k0, g, ps, J, rfl, _⟩ := h
    rfl
  · obtain ⟨v, t, k0, g, gps, J, rfl, ht, hsz, hfv, hJ, k⟩ := h
    have hrF : Room kf (A.deeper (envOfC "walk" (defScope s_walk) s.heap.objs.size _ cdv)) := hr
    refine ⟨_, (pss_cons (ps_set (i := 3) sc_walk.nd rfl (Or.inl rfl) (pLst pa_nil))
      (pss_cons (ps_set (i := 4) sc_walk.nd rfl (Or.inl rfl) (pLst (pa_c (pTup (pa_c (pv 0) (pa_c (pv 1) pa_nil))) pa_nil)))
      (pss_cons (ps_while PassesOwn.never (pt_truth (pv 4) (fun _ => rfl)) (pss_cons (ps_set (i := 5) sc_walk.nd rfl (Or.inl rfl) (pPop (pv 4)))
      (pss_cons (ps_expr (pApp (pv 3) (pv 5)))
      (pss_cons (ps_set (i := 6) sc_walk.nd rfl (Or.inl rfl) (pe_ix ix_tup (pv 5) pe_int (fun _ _ => rfl)))
      (pss_one (ps_if (pt_cmpR op_eq (pe_ix ix_tup (pv 6) pe_int (fun _ _ => rfl)) pe_str (nomark _)) (pss_one (ps_expr (pApp (pv 4) (pTup (pa_c (pe_ix ix_tup (pv 6) (pe_un un_neg pe_int) (fun _ _ => rfl)) (pa_c (pe_fvE 2 hrF pass0 (pa_c (pv 6) (pa_c (pe_ix ix_tup (pv 5) pe_int (fun _ _ => rfl)) pa_nil))) pa_nil)))))) (pss_one (ps_if (pt_cmpR op_eq (pe_ix ix_tup (pv 6) pe_int (fun _ _ => rfl)) pe_str (nomark _)) (pss_cons (ps_expr (pApp (pv 4) (pTup (pa_c (pe_ix ix_tup (pv 6) pe_int (fun _ _ => rfl)) (pa_c (pe_ix ix_tup (pv 5) pe_int (fun _ _ => rfl)) pa_nil)))))
      (pss_one (ps_expr (pApp (pv 4) (pTup (pa_c (pe_ix ix_tup (pv 6) pe_int (fun _ _ => rfl)) (pa_c (pe_ix ix_tup (pv 5) pe_int (fun _ _ => rfl)) pa_nil))))))) pss_nil))))))))
      (pss_one (ps_ret (pv 3)))))), ?_⟩
    show (let V1_ : TS := _; let V2_ : TS := _; let V3_ : TS := _; let V4_ : TS := tSeq _ V3_; let V5_ : TS := tIfS _ V4_ _; let V6_ : TS := tIfS _ V2_ V5_; let V7_ : TS := tSeq _ V6_; let V8_ : TS := tSeq _ V7_; let V9_ : TS := tSeq _ V8_; let V10_ : TS := tSeq (tWhile _ V9_) V1_; let V11_ : TS := tSeq _ V10_; tSeq _ V11_ _ _ _)
    intro V1_ V2_ V3_ V4_ V5_ V6_ V7_ V8_ V9_ V10_ V11_
    refine ⟨small' (by simp), fun f H1 nf s1 hf1 => ⟨_, rfl, _, rfl, small' (by simp), fun q H3 nq s3 hq3 => ⟨small' (by simp), fun d H4 nd s4 hd4 => ?_⟩⟩⟩
    have s04 : Same H H4 := (s1.trans s3).trans s4
    have hf4 : H4 f = some (.lst []) := s4 _ _ (s3 _ _ hf1)
    have nfd : f ≠ d := ne_of_none (s3 _ _ hf1) nd
    have n_f : H f = none := nf
    have n_d : H d = none := (s1.trans s3).free nd
    have nL : ∀ x ∈ [f, d], H x = none := fun x hx => by
      rcases List.mem_cons.mp hx with e | hx
      · rw [e]; exact n_f
      · rw [List.mem_singleton.mp hx]; exact n_d
    refine ⟨InvWalk H v t k0 (.ref g) f d, ⟨sizesP [(t, k0)], ?_⟩, ?_⟩
    · refine ⟨[(t, k0)], [.ref q], [], [], none, none, rfl, s04, hf4, hd4, .cons ⟨q, v, rfl, s4 _ _ hq3, ht.same s04⟩ .nil, .nil, ?_, rfl, ?_⟩
      · show [] ++ (t.parts k0 ++ []) = _
        rw [List.append_nil, List.nil_append]
      · show t.size + 0 ≤ t.size
        omega
    · rintro m σ H5 ⟨its, xs, fs, ps, x3, x4, rfl, s5, hf5, hd5, hit, hps, heq, rfl, hsum⟩
      by_cases hnil : its = []
      · subst hnil
        cases paired_nil hit
        refine ⟨_, rfl, false, Or.inl ⟨_, SqL.of hd5, rfl⟩, iteF ⟨_, rfl, ?_⟩⟩
        have e : ps = t.parts k0 := by rw [← heq]; unfold pendP; simp
        subst e
        exact k f fs H5 s5 n_f hf5 hps
      · obtain ⟨its', ⟨t1, k1⟩, rfl⟩ := snoc_of hnil
        obtain ⟨xs', x, rfl, hit', a, tv, rfl, ha, htv⟩ := paired_snoc_inv hit
        have htv : TermAt H5 tv t1 := htv
        refine ⟨_, rfl, true, Or.inl ⟨_, SqL.of hd5, by simp⟩, iteT ⟨fun σ' H' => ∃ m', m' < sizesP (its' ++ [(t1, k1)]) ∧ InvWalk H v t k0 (.ref g) f d m' σ' H', fun _ _ h => h, ?_⟩⟩
        refine ⟨_, rfl, Or.inl ⟨rfl, _, SqL.of hd5⟩, d, xs', .ref a, rfl, rfl, hd5, fun H6 k6 hd6 => ?_⟩
        have hL := lists2 hf5 hd5
        have K6 : Keep [f, d] H5 H6 := k6.sub (by simp)
        have tu6 := K6.tups hL
        have ha6 := tu6 _ _ ha
        have hf6 : H6 f = some (.lst fs) := k6.at hf5 nfd
        have s6 : Same H H6 := same_keep s5 K6 nL
        have it6 := paired_imp (fun a b h => PairAt.mono h tu6) hit'
        have ps6 := paired_imp (fun a b h => PairAt.mono h tu6) hps
        have hL6 := lists2 hf6 hd6
        rw [pendP_snoc] at heq
        rw [sizesP_snoc] at hsum
        rw [sizesP_snoc]
        have hxl : xs'.length ≤ t.size := by
          rw [Paired.length it6]
          have := len_sizesP its'
          have h1 : sizesP its' + t1.size ≤ t.size := hsum
          omega
        have hfl : fs.length ≤ t.size := by
          rw [Paired.length ps6]
          have h1 := congrArg List.length heq
          rw [List.length_append, parts_len] at h1
          omega
        have hs1 : sizesP its' + t1.size ≤ t.size := hsum
        refine ⟨_, rfl, Or.inl ⟨rfl, _, SqL.of hf6⟩, _, rfl, _, _, _, rfl, rfl, hf6, small (by omega), fun H7 k7 hf7 => ?_⟩
        have K7 : Keep [f, d] H6 H7 := k7.sub (by simp)
        have hd7 : H7 d = some (.lst xs') := k7.at hd6 nfd.symm
        have tu7 := K7.tups hL6
        have ha7 := tu7 _ _ ha6
        have htv7 := (htv.mono tu6).mono tu7
        have s7 : Same H H7 := same_keep s6 K7 nL
        have it7 := paired_imp (fun a b h => PairAt.mono h tu7) it6
        have ps7 := paired_snoc (x := V.ref a) (y := (t1, k1)) ⟨a, tv, rfl, ha7, htv7⟩ (paired_imp (fun a b h => PairAt.mono h tu7) ps6)
        have hL7 := lists2 hf7 hd7
        refine ⟨_, rfl, _, _, _, _, rfl, rfl, SqT.of ha7, at0, ?_⟩
        have heq : ps ++ (t1.parts k1 ++ pendP its') = t.parts k0 := heq
        cases htv7 with
        | name h =>
          refine ⟨_, rfl, _, _, _, _, rfl, rfl, SqT.of h, at0, rfl, _, rfl, ifF n_nf ⟨_, rfl, _, _, _, _, rfl, rfl, SqT.of h, at0, rfl, _, rfl, ifF n_nc ?_⟩⟩
          refine ⟨_, by show sizesP its' < sizesP its' + 1; omega, its', xs', _, _, _, _, rfl, s7, hf7, hd7, it7, ps7, ?_, rfl, by omega⟩
          rw [List.append_assoc]; exact heq
        | place h =>
          refine ⟨_, rfl, _, _, _, _, rfl, rfl, SqT.of h, at0, rfl, _, rfl, ifF n_pf ⟨_, rfl, _, _, _, _, rfl, rfl, SqT.of h, at0, rfl, _, rfl, ifF n_pc ?_⟩⟩
          refine ⟨_, by show sizesP its' < sizesP its' + 1; omega, its', xs', _, _, _, _, rfl, s7, hf7, hd7, it7, ps7, ?_, rfl, by omega⟩
          rw [List.append_assoc]; exact heq
        | @form a1 bv b h hb =>
          have hbs : T.size (.form b : Tm) = b.size + 1 := rfl
          refine ⟨_, rfl, _, _, _, _, rfl, rfl, SqT.of h, at0, rfl, _, rfl, ifT rfl ?_⟩
          refine ⟨_, rfl, Or.inl ⟨rfl, _, SqL.of hd7⟩, _, rfl, _, rfl, _, _, _, _, rfl, rfl, SqT.of h, atm1, g, _, _, rfl, hfv, _, rfl, _, rfl, _, _, _, _, rfl, rfl, SqT.of ha7, at1, _, k1, rfl, hJ _ s7, small' (by show 2 ≤ 1000000; decide), fun b9 H9 n9 s9 h9 => ⟨_, _, _, rfl, rfl, s9 _ _ hd7, small (by omega), fun H10 k10 hd10 => ?_⟩⟩
          have K10 : Keep [f, d] H7 H10 := (Keep.of_same s9).trans (k10.sub (by simp))
          have tu10 := K10.tups hL7
          refine ⟨_, ?_, its' ++ [(b, k1 + 1)], _, _, _, _, _, rfl, same_keep s7 K10 nL, k10.at (s9 _ _ hf7) nfd, hd10, paired_snoc ⟨b9, bv, rfl, k10.tup1 (s9 _ _ hd7) _ _ h9, hb.mono tu10⟩ (paired_imp (fun a b h => PairAt.mono h tu10) it7), paired_imp (fun a b h => PairAt.mono h tu10) ps7, ?_, rfl, ?_⟩
          · rw [sizesP_snoc]; show sizesP its' + b.size < sizesP its' + (b.size + 1); omega
          · rw [pendP_snoc, List.append_assoc]; exact heq
          · rw [sizesP_snoc]; show sizesP its' + b.size ≤ t.size; omega
        | @call a1 xv yv x y h hx hy =>
          have hcs : T.size (.call x y : Tm) = x.size + y.size + 1 := rfl
          refine ⟨_, rfl, _, _, _, _, rfl, rfl, SqT.of h, at0, rfl, _, rfl, ifF n_cf ⟨_, rfl, _, _, _, _, rfl, rfl, SqT.of h, at0, rfl, _, rfl, ifT rfl ?_⟩⟩
          refine ⟨_, rfl, Or.inl ⟨rfl, _, SqL.of hd7⟩, _, rfl, _, _, _, _, rfl, rfl, SqT.of h, at2, _, rfl, _, _, _, _, rfl, rfl, SqT.of ha7, at1, small' (by show 2 ≤ 1000000; decide), fun b9 H9 n9 s9 h9 => ⟨_, _, _, rfl, rfl, s9 _ _ hd7, small (by omega), fun H10 k10 hd10 => ?_⟩⟩
          have K10 : Keep [f, d] H7 H10 := (Keep.of_same s9).trans (k10.sub (by simp))
          have tu10 := K10.tups hL7
          have hf10 := k10.at (s9 _ _ hf7) nfd
          have hL10 := lists2 hf10 hd10
          have it10 := paired_snoc (x := V.ref b9) (y := (y, k1)) ⟨b9, yv, rfl, k10.tup1 (s9 _ _ hd7) _ _ h9, hy.mono tu10⟩ (paired_imp (fun a b h => PairAt.mono h tu10) it7)
          refine ⟨_, rfl, Or.inl ⟨rfl, _, SqL.of hd10⟩, _, rfl, _, _, _, _, rfl, rfl, SqT.of (tu10 _ _ h), at1, _, rfl, _, _, _, _, rfl, rfl, SqT.of (tu10 _ _ ha7), at1, small' (by show 2 ≤ 1000000; decide), fun c9 H11 m9 s11 g9 => ⟨_, _, _, rfl, rfl, s11 _ _ hd10, small (by rw [List.length_append, List.length_singleton]; omega), fun H12 k12 hd12 => ?_⟩⟩
          have K12 : Keep [f, d] H10 H12 := (Keep.of_same s11).trans (k12.sub (by simp))
          have tu12 := K12.tups hL10
          refine ⟨_, ?_, (its' ++ [(y, k1)]) ++ [(x, k1)], _, _, _, _, _, rfl, same_keep s7 (K10.trans K12) nL, k12.at (s11 _ _ hf10) nfd, hd12, paired_snoc ⟨c9, xv, rfl, k12.tup1 (s11 _ _ hd10) _ _ g9, (hx.mono tu10).mono tu12⟩ (paired_imp (fun a b h => PairAt.mono h tu12) it10), paired_imp (fun a b h => (PairAt.mono h tu10).mono tu12) ps7, ?_, rfl, ?_⟩
          · rw [sizesP_snoc, sizesP_snoc]; show sizesP its' + y.size + x.size < sizesP its' + (x.size + y.size + 1); omega
          · rw [pendP_snoc, pendP_snoc, List.append_assoc]
            show ps ++ ((.call x y, k1) :: (x.parts k1 ++ (y.parts k1 ++ pendP its'))) = _
            rw [← heq]
            show _ = ps ++ ((.call x y, k1) :: (x.parts k1 ++ y.parts k1) ++ pendP its')
            simp
          · rw [sizesP_snoc, sizesP_snoc]; show sizesP its' + y.size + x.size ≤ _; omega
abbrev s_parts_of : Stmt := top 8
theorem sc_parts_of : FnScope ["term"] ["term"] (defScope s_parts_of) := ⟨rfl, rfl, rfl, by decide +kernel, rfl, by decide +kernel, by decide +kernel⟩
abbrev l_parts_of_0 : Expr := retArg s_parts_of 0 2
def q_parts_of_0 : Str := ("parts_of" : Str) ++ ".<locals>." ++ "<lambda>"
theorem sl_parts_of_0 : CloScope ["form", "forms"] [] (lamScope l_parts_of_0) := ⟨rfl, rfl, rfl, by decide +kernel, by decide +kernel, by decide +kernel, by decide +kernel, by decide +kernel⟩
theorem ok_inw {f c : Addr} {pm ctv : Value} {J : Hp → Prop} (ho : base.get? f = some (PySem.W.kla_obj "<lambda>" q_parts_of_0 (lamArgs l_parts_of_0) (lamBody l_parts_of_0) (lamScope l_parts_of_0) [] pm c ctv)) (hJ : ∀ H, J H → H c = some (CodeX c q_parts_of_0)) :
    FV P w K mg base CX0 1 f ["form", "forms"] (sp_inw J) := by
  refine ⟨_, _, _, _, fn_lamT (k := 0) (CX := CX0) (fvs := []) (fs := []) ho sl_parts_of_0 .nil ?_ ?_ ?_ ?_ ?_, ho, ?_⟩
  · intro x c' h; cases h
  · intro x y c' h1 h2; cases h1
  · intro vs H Q E h
    obtain ⟨v, k, rfl, _⟩ := h
    rfl
  · intro vs H Q E h
    obtain ⟨v, k, rfl, j, _⟩ := h
    exact hJ _ j
  · intro A outer s H vs Q E hr h
    obtain ⟨v, n, rfl, hj, k⟩ := h
    exact ⟨_, (pe_op op_add (pv 1) pe_int), _, rfl, _, _, rfl, rfl, k⟩
  · exact .all fun us hl => match us, hl with | [_, _], _ => rfl
inductive Sp_partsI (TL : Tabs) (vs : List V) (H : Hp) (Q : VK) : Prop where
  | mk (v : _) (t : _) (c1 : vs = [v]) (c2 : TermAt H v t) (c3 : t.size ≤ 100000) (c4 : TO TL H) (c5 : ∀ l rs H', ST TL H H' → OthT (TL.map (·.1)) H H' → H l = none → H' l = some (.lst rs) → Paired (PairAt H') rs (t.parts 0) → Q (.ref l) H')
def sp_parts (TL : Tabs) : Sp := fun vs H Q u3_ => Sp_partsI TL vs H Q
theorem ok_parts_of {f c0 T0 : Addr} {fd : FuncData} {TL : Tabs} (F : FunC K "parts_of" "parts_of" s_parts_of f fd c0) (hC : PySem.W.codeHdIn K c0 T0 = true) (BB : BltAt base mg) (dis : TDis TL) (hT : (T0, lamPos l_parts_of_0, q_parts_of_0) ∈ TL)
    (G_walk : GB P w K mg base CX0 2 "walk" ["term", "around", "inward"] (sp_walk 1 P w K mg)) : FnOk P w K mg base CX0 3 f fd ["term"] (sp_parts TL) := by
  refine F.ok sc_parts_of (fun vs H Q E h => ?_) (fun A outer s H vs Q E hr h => ?_)
  · obtain ⟨v, t, rfl, _⟩ := h
    rfl
  · obtain ⟨v, t, rfl, ht, hsz, to, k⟩ := h
    refine ⟨_, (pss_one (ps_ret (pe_ex (E := E0) G_walk (hr.mono (by decide)) rfl (fun _ _ _ _ _ _ _ _ h => h.elim) (pa_c (pv 0) (pa_c pe_int (pa_c (pe_lam (params := lamArgs l_parts_of_0) (body := lamBody l_parts_of_0) (scope := lamScope l_parts_of_0) (pos := lamPos l_parts_of_0) (qual := q_parts_of_0) (clos := []) rfl hC BB rfl rfl) pa_nil)))))), ?_⟩
    refine ⟨_, rfl, to _ hT, fun f c H1 nf sx tab1 hc1 hf1 oth => ⟨[f], fun b hb => ?_, fun base' lg => ?_⟩⟩
    · rw [List.mem_singleton.mp hb]
      exact goes_lam hf1
    · obtain ⟨pm, ctv, ho⟩ := lg.ext f (by simp) _ hf1
      have to1 := to.made dis hT sx tab1 oth
      have ncf : c ∉ [f] := fun z => lg.nocode c z _ hc1
      refine ⟨v, t, 0, f, _, fun H => H c = some (CodeX c q_parts_of_0), rfl, (ht.mono sx.tups).mono (tups_del lg.only), hsz, ok_inw ho (fun _ h => h), fun H' s' => s' _ _ (by rw [delH_ne ncf]; exact hc1), fun l rs H2 s2 nl hl2 hr2 gone => ?_⟩
      have lf : l ∉ [f] := fun z => by rw [gone l z] at hl2; cases hl2
      rw [delH_ne lf] at nl
      have tu := tups_add (H := H1) gone
      refine k l rs _ (.trans ⟨sx, to1⟩ (.of_same to1 (same_add s2))) ((OthT.of_oth oth (List.mem_map.mpr ⟨_, hT, rfl⟩)).trans (.of_same (same_add s2))) (made_free sx tab1 oth nl) (by rw [addH_ne lf]; exact hl2) (paired_imp (fun _ _ h => PairAt.mono h tu) hr2)
abbrev s__law_parts : Stmt := top 28
theorem sc__law_parts : FnScope ["_law_term", "_law_row", "_law_todo", "_law_part", "_law_deep"] ["_law_term"] (defScope s__law_parts) := ⟨rfl, rfl, rfl, by decide +kernel, rfl, by decide +kernel, by decide +kernel⟩
inductive Sp_lpartsI (vs : List V) (H : Hp) (Q : VK) : Prop where
  | mk (v : _) (t : _) (c1 : vs = [v]) (c2 : TermAt H v t) (c3 : t.size ≤ 100000) (c4 : ∀ l rs H', Same H H' → H l = none → H' l = some (.lst rs) → Paired (PairAt H') rs (t.lparts 0).reverse → Q (.ref l) H')
def sp_lparts : Sp := fun vs H Q u3_ => Sp_lpartsI vs H Q
inductive InvLPartsI (H : Hp) (v : V) (t : Tm) (f d : Addr) (m : Nat) (σ : L2.St) (H' : Hp) : Prop where
  | mk (its : _) (xs : _) (fs : _) (ps : _) (x3 : _) (x4 : _) (c1 : σ = [some v, some (.ref f), some (.ref d), x3, x4]) (c2 : Same H H') (c3 : H' f = some (.lst fs)) (c4 : H' d = some (.lst xs)) (c5 : Paired (PairAt H') xs its) (c6 : Paired (PairAt H') fs ps) (c7 : ps ++ pendL its = t.lparts 0) (c8 : m = sizesP its) (c9 : sizesP its ≤ t.size)
def InvLParts (H : Hp) (v : V) (t : Tm) (f d : Addr) (m : Nat) (σ : L2.St) (H' : Hp) : Prop := InvLPartsI H v t f d m σ H'
theorem ok__law_parts {f : Addr} {fd : FuncData} (F : Fun K "_law_parts" "_law_parts" s__law_parts f fd) (N_ : NoNames mg) : FnOk P w K mg base CX0 1 f fd ["_law_term"] sp_lparts := by
  refine F.ok sc__law_parts (fun vs H Q E h => ?_) (fun cdv A outer s H vs Q E hr h => ?_)
  · obtain ⟨v, t, rfl, _⟩ := h
    rfl
  · obtain ⟨v, t, rfl, ht, hsz, k⟩ := h
    have hu0 := hr.units0
    refine ⟨_, (pss_cons (ps_set (i := 1) sc__law_parts.nd rfl (Or.inl rfl) (pLst pa_nil))
      (pss_cons (ps_set (i := 2) sc__law_parts.nd rfl (Or.inl rfl) (pLst (pa_c (pTup (pa_c (pv 0) (pa_c pe_int pa_nil))) pa_nil)))
      (pss_cons (ps_while PassesOwn.never (pt_cmpR (op_neNil hu0) (pv 2) (pLst pa_nil) (nomark _)) (pss_cons (ps_asg (pPop (pv 2)) (pg_tup rfl (pgs_cons (pg_name (i := 3) sc__law_parts.nd rfl (Or.inl rfl)) (pgs_cons (pg_name (i := 4) sc__law_parts.nd rfl (Or.inl rfl)) pgs_nil))))
      (pss_cons (ps_expr (pApp (pv 1) (pTup (pa_c (pv 3) (pa_c (pv 4) pa_nil)))))
      (pss_cons (ps_if (pt_cmpR op_eq (pe_ix ix_tup (pv 3) pe_int (fun _ _ => rfl)) pe_str (nomark _)) (pss_one (ps_expr (pApp (pv 2) (pTup (pa_c (pe_ix ix_tup (pv 3) pe_int (fun _ _ => rfl)) (pa_c (pe_op op_add (pv 4) pe_int) pa_nil)))))) pss_nil)
      (pss_one (ps_if (pt_cmpR op_eq (pe_ix ix_tup (pv 3) pe_int (fun _ _ => rfl)) pe_str (nomark _)) (pss_cons (ps_expr (pApp (pv 2) (pTup (pa_c (pe_ix ix_tup (pv 3) pe_int (fun _ _ => rfl)) (pa_c (pv 4) pa_nil)))))
      (pss_one (ps_expr (pApp (pv 2) (pTup (pa_c (pe_ix ix_tup (pv 3) pe_int (fun _ _ => rfl)) (pa_c (pv 4) pa_nil))))))) pss_nil))))))
      (pss_one (ps_ret (pe_lrev hr.hd rfl N_.reversed rfl N_.list (pv 1))))))), ?_⟩
    show (let V1_ : TS := _; let V2_ : TS := _; let V3_ : TS := tSeq _ V2_; let V4_ : TS := tIfS _ V3_ _; let V5_ : TS := _; let V6_ : TS := tSeq (tIfS _ V5_ _) V4_; let V7_ : TS := tSeq _ V6_; let V8_ : TS := tSeq _ V7_; let V9_ : TS := tSeq (tWhile _ V8_) V1_; let V10_ : TS := tSeq _ V9_; tSeq _ V10_ _ _ _)
    intro V1_ V2_ V3_ V4_ V5_ V6_ V7_ V8_ V9_ V10_
    refine ⟨small' (by simp), fun f H1 nf s1 hf1 => ⟨_, rfl, small' (by simp), fun q H3 nq s3 hq3 => ⟨small' (by simp), fun d H4 nd s4 hd4 => ?_⟩⟩⟩
    have s04 : Same H H4 := (s1.trans s3).trans s4
    have hf4 : H4 f = some (.lst []) := s4 _ _ (s3 _ _ hf1)
    have nfd : f ≠ d := ne_of_none (s3 _ _ hf1) nd
    have n_f : H f = none := nf
    have n_d : H d = none := (s1.trans s3).free nd
    have nL : ∀ x ∈ [f, d], H x = none := fun x hx => by
      rcases List.mem_cons.mp hx with e | hx
      · rw [e]; exact n_f
      · rw [List.mem_singleton.mp hx]; exact n_d
    refine ⟨InvLParts H v t f d, ⟨sizesP [(t, 0)], ?_⟩, ?_⟩
    · refine ⟨[(t, 0)], [.ref q], [], [], none, none, rfl, s04, hf4, hd4, .cons ⟨q, v, rfl, s4 _ _ hq3, ht.same s04⟩ .nil, .nil, ?_, rfl, ?_⟩
      · show [] ++ (t.lparts 0 ++ []) = _
        rw [List.append_nil, List.nil_append]
      · show t.size + 0 ≤ t.size
        omega
    · rintro m σ H5 ⟨its, xs, fs, ps, x3, x4, rfl, s5, hf5, hd5, hit, hps, heq, rfl, hsum⟩
      refine ⟨_, rfl, small' (by simp), fun e0 H5' ne0 s5' he0 => ⟨_, _, _, rfl, rfl, SqL.of (s5' _ _ hd5), SqL.of he0, _, rfl, ?_⟩⟩
      have hf5' := s5' _ _ hf5
      have hd5' := s5' _ _ hd5
      have hit := paired_imp (fun a b h => PairAt.mono h (.of_same s5')) hit
      have hps := paired_imp (fun a b h => PairAt.mono h (.of_same s5')) hps
      have s5 := s5.trans s5'
      clear hf5 hd5
      by_cases hnil : its = []
      · subst hnil
        cases paired_nil hit
        have e : ps = t.lparts 0 := by rw [← heq]; unfold pendL; simp
        subst e
        refine iteF ⟨_, rfl, _, _, rfl, SqL.of hf5', fun l nl => ?_⟩
        have sm : Same H5' (upd H5' l (.lst fs.reverse)) := same_new nl
        exact k l _ _ (s5.trans sm) (s5.free nl) upd_same (paired_rev (paired_imp (fun a b h => PairAt.mono h (.of_same sm)) hps))
      · obtain ⟨its', ⟨t1, k1⟩, rfl⟩ := snoc_of hnil
        obtain ⟨xs', x, rfl, hit', a, tv, rfl, ha, htv⟩ := paired_snoc_inv hit
        have htv : TermAt H5' tv t1 := htv
        rw [show (if true = true then !(xs' ++ [V.ref a]).isEmpty else (xs' ++ [V.ref a]).isEmpty) = true by simp]
        refine iteT ⟨fun σ' H' => ∃ m', m' < sizesP (its' ++ [(t1, k1)]) ∧ InvLParts H v t f d m' σ' H', fun _ _ h => h, ?_⟩
        refine ⟨_, rfl, Or.inl ⟨rfl, _, SqL.of hd5'⟩, d, xs', .ref a, rfl, rfl, hd5', fun H6 k6 hd6 => ?_⟩
        have hL := lists2 hf5' hd5'
        have K6 : Keep [f, d] H5' H6 := k6.sub (by simp)
        have tu6 := K6.tups hL
        have ha6 := tu6 _ _ ha
        have htv6 := htv.mono tu6
        have hf6 : H6 f = some (.lst fs) := k6.at hf5' nfd
        have s6 : Same H H6 := same_keep s5 K6 nL
        have it6 := paired_imp (fun a b h => PairAt.mono h tu6) hit'
        have ps6 := paired_imp (fun a b h => PairAt.mono h tu6) hps
        have hL6 := lists2 hf6 hd6
        rw [pendL_snoc] at heq
        rw [sizesP_snoc] at hsum
        rw [sizesP_snoc]
        have hxl : xs'.length ≤ t.size := by
          rw [Paired.length it6]
          have := len_sizesP its'
          have h1 : sizesP its' + t1.size ≤ t.size := hsum
          omega
        have hfl : fs.length ≤ t.size := by
          rw [Paired.length ps6]
          have h1 := congrArg List.length heq
          rw [List.length_append, lparts_len] at h1
          omega
        have hs1 : sizesP its' + t1.size ≤ t.size := hsum
        refine ⟨a, _, rfl, SqT.of ha6, rfl, _, _, rfl, _, _, rfl, rfl, ?_⟩
        refine ⟨_, rfl, Or.inl ⟨rfl, _, SqL.of hf6⟩, _, rfl, _, rfl, small' (by show 2 ≤ 1000000; decide), fun p9 H9 np9 sp9 hp9 => ⟨_, _, _, rfl, rfl, sp9 _ _ hf6, small (by omega), fun H7 k7 hf7 => ?_⟩⟩
        have K7 : Keep [f, d] H6 H7 := (Keep.of_same sp9).trans (k7.sub (by simp))
        have hd7 : H7 d = some (.lst xs') := k7.at (sp9 _ _ hd6) nfd.symm
        have tu7 := K7.tups hL6
        have htv7 := htv6.mono tu7
        have s7 : Same H H7 := same_keep s6 K7 nL
        have it7 := paired_imp (fun a b h => PairAt.mono h tu7) it6
        have ps7 := paired_snoc (x := V.ref p9) (y := (t1, k1)) ⟨p9, tv, rfl, k7.tup1 (sp9 _ _ hf6) _ _ hp9, htv7⟩ (paired_imp (fun a b h => PairAt.mono h tu7) ps6)
        have hL7 := lists2 hf7 hd7
        have heq : ps ++ (t1.lparts k1 ++ pendL its') = t.lparts 0 := heq
        cases htv7 with
        | name h =>
          refine ⟨_, rfl, _, _, _, _, rfl, rfl, SqT.of h, at0, rfl, _, rfl, ifF n_nf ⟨_, rfl, _, _, _, _, rfl, rfl, SqT.of h, at0, rfl, _, rfl, ifF n_nc ?_⟩⟩
          refine ⟨_, by show sizesP its' < sizesP its' + 1; omega, its', xs', _, _, _, _, rfl, s7, hf7, hd7, it7, ps7, ?_, rfl, by omega⟩
          rw [List.append_assoc]; exact heq
        | place h =>
          refine ⟨_, rfl, _, _, _, _, rfl, rfl, SqT.of h, at0, rfl, _, rfl, ifF n_pf ⟨_, rfl, _, _, _, _, rfl, rfl, SqT.of h, at0, rfl, _, rfl, ifF n_pc ?_⟩⟩
          refine ⟨_, by show sizesP its' < sizesP its' + 1; omega, its', xs', _, _, _, _, rfl, s7, hf7, hd7, it7, ps7, ?_, rfl, by omega⟩
          rw [List.append_assoc]; exact heq
        | @form a1 bv b h hb =>
          have hbs : T.size (.form b : Tm) = b.size + 1 := rfl
          refine ⟨_, rfl, _, _, _, _, rfl, rfl, SqT.of h, at0, rfl, _, rfl, ifT rfl ?_⟩
          refine ⟨_, rfl, Or.inl ⟨rfl, _, SqL.of hd7⟩, _, rfl, _, _, _, _, rfl, rfl, SqT.of h, at1, _, rfl, _, _, rfl, rfl, small' (by show 2 ≤ 1000000; decide), fun b9 H9 n9 s9 h9 => ⟨_, _, _, rfl, rfl, s9 _ _ hd7, small (by omega), fun H10 k10 hd10 => ?_⟩⟩
          have K10 : Keep [f, d] H7 H10 := (Keep.of_same s9).trans (k10.sub (by simp))
          have tu10 := K10.tups hL7
          refine ⟨_, rfl, _, _, _, _, rfl, rfl, SqT.of (tu10 _ _ h), at0, rfl, _, rfl, ifF n_fc ?_⟩
          refine ⟨_, ?_, its' ++ [(b, k1 + 1)], _, _, _, _, _, rfl, same_keep s7 K10 nL, k10.at (s9 _ _ hf7) nfd, hd10, paired_snoc ⟨b9, bv, rfl, k10.tup1 (s9 _ _ hd7) _ _ h9, hb.mono tu10⟩ (paired_imp (fun a b h => PairAt.mono h tu10) it7), paired_imp (fun a b h => PairAt.mono h tu10) ps7, ?_, rfl, ?_⟩
          · rw [sizesP_snoc]; show sizesP its' + b.size < sizesP its' + (b.size + 1); omega
          · rw [pendL_snoc, List.append_assoc]; exact heq
          · rw [sizesP_snoc]; show sizesP its' + b.size ≤ t.size; omega
        | @call a1 xv yv x y h hx hy =>
          have hcs : T.size (.call x y : Tm) = x.size + y.size + 1 := rfl
          refine ⟨_, rfl, _, _, _, _, rfl, rfl, SqT.of h, at0, rfl, _, rfl, ifF n_cf ⟨_, rfl, _, _, _, _, rfl, rfl, SqT.of h, at0, rfl, _, rfl, ifT rfl ?_⟩⟩
          refine ⟨_, rfl, Or.inl ⟨rfl, _, SqL.of hd7⟩, _, rfl, _, _, _, _, rfl, rfl, SqT.of h, at1, _, rfl, small' (by show 2 ≤ 1000000; decide), fun b9 H9 n9 s9 h9 => ⟨_, _, _, rfl, rfl, s9 _ _ hd7, small (by omega), fun H10 k10 hd10 => ?_⟩⟩
          have K10 : Keep [f, d] H7 H10 := (Keep.of_same s9).trans (k10.sub (by simp))
          have tu10 := K10.tups hL7
          have hf10 := k10.at (s9 _ _ hf7) nfd
          have hL10 := lists2 hf10 hd10
          have it10 := paired_snoc (x := V.ref b9) (y := (x, k1)) ⟨b9, xv, rfl, k10.tup1 (s9 _ _ hd7) _ _ h9, hx.mono tu10⟩ (paired_imp (fun a b h => PairAt.mono h tu10) it7)
          refine ⟨_, rfl, Or.inl ⟨rfl, _, SqL.of hd10⟩, _, rfl, _, _, _, _, rfl, rfl, SqT.of (tu10 _ _ h), at2, _, rfl, small' (by show 2 ≤ 1000000; decide), fun c9 H11 m9 s11 g9 => ⟨_, _, _, rfl, rfl, s11 _ _ hd10, small (by rw [List.length_append, List.length_singleton]; omega), fun H12 k12 hd12 => ?_⟩⟩
          have K12 : Keep [f, d] H10 H12 := (Keep.of_same s11).trans (k12.sub (by simp))
          have tu12 := K12.tups hL10
          refine ⟨_, ?_, (its' ++ [(x, k1)]) ++ [(y, k1)], _, _, _, _, _, rfl, same_keep s7 (K10.trans K12) nL, k12.at (s11 _ _ hf10) nfd, hd12, paired_snoc ⟨c9, yv, rfl, k12.tup1 (s11 _ _ hd10) _ _ g9, (hy.mono tu10).mono tu12⟩ (paired_imp (fun a b h => PairAt.mono h tu12) it10), paired_imp (fun a b h => (PairAt.mono h tu10).mono tu12) ps7, ?_, rfl, ?_⟩
          · rw [sizesP_snoc, sizesP_snoc]; show sizesP its' + x.size + y.size < sizesP its' + (x.size + y.size + 1); omega
          · rw [pendL_snoc, pendL_snoc, List.append_assoc]
            show ps ++ ((.call x y, k1) :: (y.lparts k1 ++ (x.lparts k1 ++ pendL its'))) = _
            rw [← heq]
            show _ = ps ++ ((.call x y, k1) :: (y.lparts k1 ++ x.lparts k1) ++ pendL its')
            simp
          · rw [sizesP_snoc, sizesP_snoc]; show sizesP its' + x.size + y.size ≤ _; omega
end
end NC
/-! ### the law's own raising and filling -/
namespace NC
open PySem PySem.Spec PyProof.Rows L2
/-- a pile of terms, the top ahead -/
def PileAt (H : Hp) (p : Addr) (vs : List V) (S : List Tm) : Prop := H p = some (.lst vs) ∧ Paired (TermAt H) vs S.reverse
theorem PileAt.pop {H : Hp} {p : Addr} {vs : List V} {S : List Tm} {x : Tm} (h : PileAt H p vs (x :: S)) : ∃ vs' v, vs = vs' ++ [v] ∧ TermAt H v x ∧ Paired (TermAt H) vs' S.reverse := by
  have q := h.2
  rw [List.reverse_cons] at q
  obtain ⟨vs', v, e, r, tv⟩ := paired_snoc_inv q
  exact ⟨vs', v, e, tv, r⟩
theorem PileAt.same {H H' : Hp} {p : Addr} {vs : List V} {S : List Tm} (h : PileAt H p vs S) (s : Same H H') : PileAt H' p vs S := ⟨s _ _ h.1, paired_imp (fun _ _ q => q.same s) h.2⟩
theorem keep1_tups {H H' : Hp} {p : Addr} {vs : List V} (k : Keep [p] H H') (h : H p = some (.lst vs)) : Tups H H' := fun b xs q => k b _ (fun z => by rw [List.mem_singleton.mp z, h] at q; cases q) q
theorem PileAt.len {H : Hp} {p : Addr} {vs : List V} {S : List Tm} (h : PileAt H p vs S) : vs.length = S.length := by rw [Paired.length h.2, List.length_reverse]
theorem terms_kp {H H' : Hp} {p : Addr} {vs : List V} {us : List V} {S : List Tm} (q : Paired (TermAt H) us S) (k : Keep [p] H H') (h : H p = some (.lst vs)) : Paired (TermAt H') us S := paired_imp (fun _ _ z => z.mono (keep1_tups k h)) q
section
variable {P : Program} {w : World} {K : PySem.W.Frag} {mg : Str → Option Value} {base : Heap}
seal L2.PE L2.PA L2.PT L2.PS L2.PSs L2.PW L2.PG L2.PGs L2.PI L2.PO L2.OpR L2.UnR L2.CallR L2.TruR L2.IxR L2.SlR
abbrev s__law_is_term : Stmt := top 26
theorem sc__law_is_term : FnScope ["_law_found", "_law_todo", "_law_part"] ["_law_found"] (defScope s__law_is_term) := ⟨rfl, rfl, rfl, by decide +kernel, rfl, by decide +kernel, by decide +kernel⟩
def sumU (its : List Tm) : Nat := (its.map T.size).sum
theorem sumU_snoc (its : List Tm) (q : Tm) : sumU (its ++ [q]) = sumU its + q.size := by
  unfold sumU
  rw [List.map_append, List.sum_append]
  simp
theorem len_sumU : ∀ its : List Tm, its.length ≤ sumU its
  | [] => Nat.le_refl _
  | q :: r => by
    have := len_sumU r
    have h := q.size_pos
    show r.length + 1 ≤ q.size + sumU r
    omega
inductive Sp_lis_termI (vs : List V) (H : Hp) (Q : VK) : Prop where
  | mk (v : _) (t : _) (c1 : vs = [v]) (c2 : TermAt H v t) (c3 : t.size ≤ 100000) (c4 : ∀ H', Same H H' → Q (.bl true) H')
def sp_lis_term : Sp := fun vs H Q u3_ => Sp_lis_termI vs H Q
inductive InvIsTermI (H : Hp) (v : V) (t : Tm) (d : Addr) (m : Nat) (σ : L2.St) (H' : Hp) : Prop where
  | mk (its : _) (xs : _) (x2 : _) (c1 : σ = [some v, some (.ref d), x2]) (c2 : Same H H') (c3 : H' d = some (.lst xs)) (c4 : Paired (TermAt H') xs its) (c5 : m = sumU its) (c6 : sumU its ≤ t.size)
def InvIsTerm (H : Hp) (v : V) (t : Tm) (d : Addr) (m : Nat) (σ : L2.St) (H' : Hp) : Prop := InvIsTermI H v t d m σ H'
theorem ok__law_is_term {f : Addr} {fd : FuncData} (F : Fun K "_law_is_term" "_law_is_term" s__law_is_term f fd) (N_ : NoNames mg) (G__law_whole : GF P w K mg base CX0 1 "_law_whole" ["_law_found"] sp_whole) : FnOk P w K mg base CX0 2 f fd ["_law_found"] sp_lis_term := by
  refine F.ok sc__law_is_term (fun vs H Q E h => ?_) (fun cdv A outer s H vs Q E hr h => ?_)
  · obtain ⟨v, t, rfl, _⟩ := h
    rfl
  · obtain ⟨v, t, rfl, ht, hsz, k⟩ := h
    have hu0 := hr.units0
    refine ⟨_, (pss_cons (ps_set (i := 1) sc__law_is_term.nd rfl (Or.inl rfl) (pLst (pa_c (pv 0) pa_nil)))
      (pss_cons (ps_while PassesOwn.never (pt_cmpR (op_neNil hu0) (pv 1) (pLst pa_nil) (nomark _)) (pss_cons (ps_set (i := 2) sc__law_is_term.nd rfl (Or.inl rfl) (pPop (pv 1)))
      (pss_cons (ps_if (PW.pt (pw_or (pt_not (pt_val (pCB call_isi (by rfl) N_.isinstance boot_isinstance (pa_c (pv 2) (pa_c (pe_bltn (v := V.ty "tuple") rfl N_.tuple boot_tuple rfl) pa_nil))))) (pw_or (pt_cmpR op_lt (pCB call_len_seq (by rfl) N_.len boot_len (pa_c (pv 2) pa_nil)) pe_int (nomark _)) (pw_or1 (pt_not (pt_val (pCB call_isi (by rfl) N_.isinstance boot_isinstance (pa_c (pe_ix ix_tup (pv 2) pe_int (fun _ _ => rfl)) (pa_c (pe_bltn (v := V.ty "str") rfl N_.str boot_str rfl) pa_nil))))))))) (pss_one (ps_ret pe_bl)) pss_nil)
      (pss_one (ps_if (PW.pt (pw_and (pt_cmpR op_eq (pe_ix ix_tup (pv 2) pe_int (fun _ _ => rfl)) pe_str (nomark _)) (pw_and1 (pt_cmpR op_eq (pCB call_len_seq (by rfl) N_.len boot_len (pa_c (pv 2) pa_nil)) pe_int (nomark _))))) (pss_one (ps_expr (pApp (pv 1) (pe_ix ix_tup (pv 2) pe_int (fun _ _ => rfl))))) (pss_one (ps_if (PW.pt (pw_and (pt_cmpR op_eq (pe_ix ix_tup (pv 2) pe_int (fun _ _ => rfl)) pe_str (nomark _)) (pw_and1 (pt_cmpR op_eq (pCB call_len_seq (by rfl) N_.len boot_len (pa_c (pv 2) pa_nil)) pe_int (nomark _))))) (pss_cons (ps_expr (pApp (pv 1) (pe_ix ix_tup (pv 2) pe_int (fun _ _ => rfl))))
      (pss_one (ps_expr (pApp (pv 1) (pe_ix ix_tup (pv 2) pe_int (fun _ _ => rfl)))))) (pss_one (ps_if (PW.pt (pw_and (pt_cmpR op_eq (pe_ix ix_tup (pv 2) pe_int (fun _ _ => rfl)) pe_str (nomark _)) (pw_and1 (pt_cmpR op_eq (pCB call_len_seq (by rfl) N_.len boot_len (pa_c (pv 2) pa_nil)) pe_int (nomark _))))) (pss_one (ps_if (pt_not (pt_val (pe_gf G__law_whole (hr.mono (by decide)) rfl pass0 (pa_c (pe_ix ix_tup (pv 2) pe_int (fun _ _ => rfl)) pa_nil)))) (pss_one (ps_ret pe_bl)) pss_nil)) (pss_one (ps_if (PW.pt (pw_or (pt_cmpR op_ne (pe_ix ix_tup (pv 2) pe_int (fun _ _ => rfl)) pe_str (nomark _)) (pw_or (pt_cmpR op_ne (pCB call_len_seq (by rfl) N_.len boot_len (pa_c (pv 2) pa_nil)) pe_int (nomark _)) (pw_or1 (pt_not (pt_val (pCB call_isi (by rfl) N_.isinstance boot_isinstance (pa_c (pe_ix ix_tup (pv 2) pe_int (fun _ _ => rfl)) (pa_c (pe_bltn (v := V.ty "str") rfl N_.str boot_str rfl) pa_nil))))))))) (pss_one (ps_ret pe_bl)) pss_nil)))))))))))
      (pss_one (ps_ret pe_bl)))), ?_⟩
    show (let V1_ : TS := _; let V2_ : TS := _; let V3_ : TS := _; let V4_ : TS := tSeq _ V3_; let V5_ : TS := _; let V6_ : TS := tIfS _ V5_ _; let V7_ : TS := _; let V8_ : TS := tIfS _ V7_ _; let V9_ : TS := tIfS _ V6_ V8_; let V10_ : TS := tIfS _ V4_ V9_; let V11_ : TS := tIfS _ V2_ V10_; let V12_ : TS := _; let V13_ : TS := tSeq (tIfS _ V12_ _) V11_; let V14_ : TS := tSeq _ V13_; let V15_ : TS := tSeq (tWhile _ V14_) V1_; tSeq _ V15_ _ _ _)
    intro V1_ V2_ V3_ V4_ V5_ V6_ V7_ V8_ V9_ V10_ V11_ V12_ V13_ V14_ V15_
    refine ⟨_, rfl, small' (by simp), fun d H4 nd s4 hd4 => ?_⟩
    refine ⟨InvIsTerm H v t d, ⟨sumU [t], [t], [v], none, rfl, s4, hd4, .cons (ht.same s4) .nil, rfl, by show t.size + 0 ≤ _; omega⟩, ?_⟩
    rintro m σ H5 ⟨its, xs, x2, rfl, s5, hd5, hit, rfl, hsum⟩
    refine ⟨_, rfl, small' (by simp), fun e0 H5' ne0 s5' he0 => ⟨_, _, _, rfl, rfl, SqL.of (s5' _ _ hd5), SqL.of he0, _, rfl, ?_⟩⟩
    have hd5' := s5' _ _ hd5
    have hit := paired_imp (fun a b h => TermAt.same h s5') hit
    have s5 := s5.trans s5'
    clear hd5
    by_cases hnil : its = []
    · subst hnil
      cases paired_nil hit
      exact iteF (k H5' s5)
    · obtain ⟨its', t1, rfl⟩ := snoc_of hnil
      obtain ⟨xs', x, rfl, hit', htv⟩ := paired_snoc_inv hit
      rw [show (if true = true then !(xs' ++ [x]).isEmpty else (xs' ++ [x]).isEmpty) = true by simp]
      refine iteT ⟨fun σ' H' => ∃ m', m' < sumU (its' ++ [t1]) ∧ InvIsTerm H v t d m' σ' H', fun _ _ h => h, ?_⟩
      refine ⟨_, rfl, Or.inl ⟨rfl, _, SqL.of hd5'⟩, d, xs', x, rfl, rfl, hd5', fun H6 k6 hd6 => ?_⟩
      have tu6 := keep1_tups k6 hd5'
      have htv6 := htv.mono tu6
      have it6 := terms_kp hit' k6 hd5'
      have s6 : Same H H6 := same_keep s5 k6 fun x hx => by rw [List.mem_singleton.mp hx]; exact nd
      rw [sumU_snoc] at hsum
      rw [sumU_snoc]
      have hxl : xs'.length ≤ t.size := by
        rw [Paired.length it6]
        have := len_sumU its'
        omega
      cases htv6 with
      | name h =>
        refine ⟨_, rfl, _, _, _, _, rfl, .tup h, kit_tt K, _, rfl, iteF ⟨_, rfl, _, _, rfl, Or.inr (SqT.of h), _, _, rfl, rfl, _, rfl, ifF (show ¬ (2 : Int) < 2 by decide) ⟨_, rfl, _, _, _, _, rfl, rfl, SqT.of h, at0, _, _, _, _, rfl, .str _, kit_ss K, _, rfl, iteF ?_⟩⟩⟩
        refine ⟨_, rfl, _, _, _, _, rfl, rfl, SqT.of h, at0, rfl, _, rfl, ifF n_nf (iteF ⟨_, rfl, _, _, _, _, rfl, rfl, SqT.of h, at0, rfl, _, rfl, ifF n_nc (iteF ⟨_, rfl, _, _, _, _, rfl, rfl, SqT.of h, at0, rfl, _, rfl, ifF n_np (iteF ?_)⟩)⟩)⟩
        refine ⟨_, rfl, _, _, _, _, rfl, rfl, SqT.of h, at0, rfl, _, rfl, ifNF rfl ⟨_, rfl, _, _, rfl, Or.inr (SqT.of h), rfl, _, rfl, ifNF rfl ⟨_, rfl, _, _, _, _, rfl, rfl, SqT.of h, at1, _, _, _, _, rfl, .str _, kit_ss K, _, rfl, iteF ?_⟩⟩⟩
        exact ⟨_, by show sumU its' < sumU its' + 1; omega, its', xs', _, rfl, s6, hd6, it6, rfl, by omega⟩
      | @place a1 n h =>
        refine ⟨_, rfl, _, _, _, _, rfl, .tup h, kit_tt K, _, rfl, iteF ⟨_, rfl, _, _, rfl, Or.inr (SqT.of h), _, _, rfl, rfl, _, rfl, ifF (show ¬ (2 : Int) < 2 by decide) ⟨_, rfl, _, _, _, _, rfl, rfl, SqT.of h, at0, _, _, _, _, rfl, .str _, kit_ss K, _, rfl, iteF ?_⟩⟩⟩
        refine ⟨_, rfl, _, _, _, _, rfl, rfl, SqT.of h, at0, rfl, _, rfl, ifF n_pf (iteF ⟨_, rfl, _, _, _, _, rfl, rfl, SqT.of h, at0, rfl, _, rfl, ifF n_pc (iteF ⟨_, rfl, _, _, _, _, rfl, rfl, SqT.of h, at0, rfl, _, rfl, ifT rfl ⟨_, rfl, _, _, rfl, Or.inr (SqT.of h), rfl, _, rfl, ifT rfl ?_⟩⟩)⟩)⟩
        refine ⟨_, rfl, _, _, _, _, rfl, rfl, SqT.of h, at1, n, rfl, _, rfl, iteF ?_⟩
        exact ⟨_, by show sumU its' < sumU its' + 1; omega, its', xs', _, rfl, s6, hd6, it6, rfl, by omega⟩
      | @form a1 bv b h hb =>
        have hbs : T.size (.form b : Tm) = b.size + 1 := rfl
        refine ⟨_, rfl, _, _, _, _, rfl, .tup h, kit_tt K, _, rfl, iteF ⟨_, rfl, _, _, rfl, Or.inr (SqT.of h), _, _, rfl, rfl, _, rfl, ifF (show ¬ (2 : Int) < 2 by decide) ⟨_, rfl, _, _, _, _, rfl, rfl, SqT.of h, at0, _, _, _, _, rfl, .str _, kit_ss K, _, rfl, iteF ?_⟩⟩⟩
        refine ⟨_, rfl, _, _, _, _, rfl, rfl, SqT.of h, at0, rfl, _, rfl, ifT rfl ⟨_, rfl, _, _, rfl, Or.inr (SqT.of h), rfl, _, rfl, ifT rfl ?_⟩⟩
        refine ⟨_, rfl, Or.inl ⟨rfl, _, SqL.of hd6⟩, _, rfl, _, _, _, _, rfl, rfl, SqT.of h, at1, _, _, _, rfl, rfl, hd6, small (by omega), fun H8 k8 hd8 => ?_⟩
        refine ⟨_, ?_, its' ++ [b], _, _, rfl, same_keep s6 k8 (fun x hx => by rw [List.mem_singleton.mp hx]; exact nd), hd8, paired_snoc (hb.mono (keep1_tups k8 hd6)) (terms_kp it6 k8 hd6), rfl, ?_⟩
        · rw [sumU_snoc]; show sumU its' + b.size < sumU its' + (b.size + 1); omega
        · rw [sumU_snoc]; omega
      | @call a1 xv yv x y h hx hy =>
        have hcs : T.size (.call x y : Tm) = x.size + y.size + 1 := rfl
        refine ⟨_, rfl, _, _, _, _, rfl, .tup h, kit_tt K, _, rfl, iteF ⟨_, rfl, _, _, rfl, Or.inr (SqT.of h), _, _, rfl, rfl, _, rfl, ifF (show ¬ (3 : Int) < 2 by decide) ⟨_, rfl, _, _, _, _, rfl, rfl, SqT.of h, at0, _, _, _, _, rfl, .str _, kit_ss K, _, rfl, iteF ?_⟩⟩⟩
        refine ⟨_, rfl, _, _, _, _, rfl, rfl, SqT.of h, at0, rfl, _, rfl, ifF n_cf (iteF ⟨_, rfl, _, _, _, _, rfl, rfl, SqT.of h, at0, rfl, _, rfl, ifT rfl ⟨_, rfl, _, _, rfl, Or.inr (SqT.of h), rfl, _, rfl, ifT rfl ?_⟩⟩)⟩
        refine ⟨_, rfl, Or.inl ⟨rfl, _, SqL.of hd6⟩, _, rfl, _, _, _, _, rfl, rfl, SqT.of h, at1, _, _, _, rfl, rfl, hd6, small (by omega), fun H8 k8 hd8 => ?_⟩
        have tu8 := keep1_tups k8 hd6
        have h8 := tu8 _ _ h
        refine ⟨_, rfl, Or.inl ⟨rfl, _, SqL.of hd8⟩, _, rfl, _, _, _, _, rfl, rfl, SqT.of h8, at2, _, _, _, rfl, rfl, hd8, small (by rw [List.length_append, List.length_singleton]; omega), fun H9 k9 hd9 => ?_⟩
        have tu9 := keep1_tups k9 hd8
        refine ⟨_, ?_, (its' ++ [x]) ++ [y], _, _, rfl, same_keep s6 (k8.trans k9) (fun x hx => by rw [List.mem_singleton.mp hx]; exact nd), hd9, paired_snoc ((hy.mono tu8).mono tu9) (paired_snoc ((hx.mono tu8).mono tu9) (terms_kp (terms_kp it6 k8 hd6) k9 hd8)), rfl, ?_⟩
        · rw [sumU_snoc, sumU_snoc]; show sumU its' + x.size + y.size < sumU its' + (x.size + y.size + 1); omega
        · rw [sumU_snoc, sumU_snoc]; omega
end
end NC
/-! ### a term put together again, and rebuilt by a function that is handed in -/
namespace NC
open PySem PySem.Spec PyProof.Rows L2
def T.leaf : Tm → Bool
  | .name _ => true
  | .place _ => true
  | _ => false
section
variable {P : Program} {w : World} {K : PySem.W.Frag} {mg : Str → Option Value} {base : Heap}
seal L2.PE L2.PA L2.PT L2.PS L2.PSs L2.PW L2.PG L2.PGs L2.PI L2.PO L2.OpR L2.UnR L2.CallR L2.TruR L2.IxR L2.SlR
abbrev s_built : Stmt := top 7
theorem sc_built : FnScope ["found", "leaf", "over", "ready", "part", "around", "one"] ["found", "leaf", "over"] (defScope s_built) := ⟨rfl, rfl, rfl, by decide +kernel, rfl, by decide +kernel, by decide +kernel⟩
end
end NC
/-! ### has_outer, names_of -/
namespace NC
open PySem PySem.Spec PyProof.Rows L2
def T.nameOf : Tm → List Str
  | .name w => [w]
  | _ => []
def T.nameL (t : Tm) : List Str := (t.parts 0).flatMap fun q => q.1.nameOf
section
variable {P : Program} {w : World} {K : PySem.W.Frag} {mg : Str → Option Value} {base : Heap}
seal L2.PE L2.PA L2.PT L2.PS L2.PSs L2.PW L2.PG L2.PGs L2.PI L2.PO L2.OpR L2.UnR L2.CallR L2.TruR L2.IxR L2.SlR
theorem cndO : (["part", "forms"] : List Str).Nodup := by decide +kernel
abbrev s_has_outer : Stmt := top 11
theorem sc_has_outer : FnScope ["term"] ["term"] (defScope s_has_outer) := ⟨rfl, rfl, rfl, by decide +kernel, rfl, by decide +kernel, by decide +kernel⟩
inductive Sp_has_outerI (TL : Tabs) (vs : List V) (H : Hp) (Q : VK) : Prop where
  | mk (v : V) (t : Tm) (c1 : vs = [v]) (c2 : TermAt H v t) (c3 : t.size ≤ 100000) (c4 : TO TL H) (c5 : ∀ H', ST TL H H' → OthT (TL.map (·.1)) H H' → Q (.bl ((t.parts 0).any fun q => T.outer q.1 q.2)) H')
def sp_has_outer (TL : Tabs) : Sp := fun vs H Q _ => Sp_has_outerI TL vs H Q
theorem ok_has_outer {f : Addr} {fd : FuncData} {TL : Tabs} (F : Fun K "has_outer" "has_outer" s_has_outer f fd) (N_ : NoNames mg) (G_is_outer : GF P w K mg base CX0 1 "is_outer" ["part", "forms"] sp_is_outer) (G_parts_of : GF P w K mg base CX0 3 "parts_of" ["term"] (sp_parts TL)) : FnOk P w K mg base CX0 4 f fd ["term"] (sp_has_outer TL) := by
  refine F.ok sc_has_outer (fun vs H Q E h => ?_) (fun cdv A outer s H vs Q E hr h => ?_)
  · obtain ⟨v, t, rfl, _⟩ := h
    rfl
  · obtain ⟨v, t, rfl, ht, hsz, to, k⟩ := h
    refine ⟨_, (pss_one (ps_ret (pCB (call_anyB hr.hd) (by rfl) N_.any boot_any (pa_c (pe_comp (N := ["part", "forms"]) rfl ⟨rfl, cndO, by decide +kernel, by decide +kernel, by decide +kernel⟩ (pe_gf G_parts_of (hr.mono (by decide)) rfl pass0 (pa_c (pv 0) pa_nil)) (fun _ _ _ => ⟨(pg_tup rfl (pgs_cons (pg_name (i := 0) cndO rfl (Or.inl rfl)) (pgs_cons (pg_name (i := 1) cndO rfl (Or.inl rfl)) pgs_nil))), pf_nil, (pe_gf G_is_outer (hr.mono (by decide)) rfl pass0 (pa_c (pv 0) (pa_c (pv 1) pa_nil)))⟩)) pa_nil)))), ?_⟩
    refine ⟨_, rfl, v, t, rfl, ht, hsz, to, fun l rs H1 s1 oth1 nl hl1 hr1 => ⟨l, rs, rfl, SqL.of hl1, fun D nD => ?_⟩⟩
    have hlen : rs.length = t.size := by rw [Paired.length hr1, parts_len]
    refine ⟨fun i σ' H' => ∃ x0 x1, σ' = [x0, x1] ∧ Same H1 H' ∧ H' D = some (.lst ((((t.parts 0).take i).map fun q => T.outer q.1 q.2).map V.bl)) ∧ i ≤ t.size, ⟨none, none, rfl, same_new nD, upd_same, Nat.zero_le _⟩, ?_, ?_, ?_⟩
    · rintro i σ' H' _ ⟨_, _, _, sm, _⟩
      exact SqL.of (sm _ _ hl1)
    · rintro C s0 H0 i x σ' H' hi ⟨x0, x1, rfl, sm, hD, hle⟩
      obtain ⟨⟨t1, k1⟩, hi2, a, tv, rfl, ha, htv⟩ := paired_get hr1 hi
      have hlt : i < t.size := by
        have := (List.getElem?_eq_some_iff.mp hi).1
        omega
      refine ⟨a, _, rfl, SqT.of (sm _ _ ha), rfl, _, _, rfl, _, _, rfl, rfl, ?_⟩
      refine rd_yes ⟨_, rfl, _, rfl, tv, t1, k1, rfl, htv.same sm, _, hD, small (by rw [List.length_map, List.length_map, List.length_take]; omega), _, _, rfl, ?_, ?_, hlt⟩
      · intro b o e
        rw [upd_ne fun z => by rw [z, nD] at e; cases e]
        exact sm b o e
      · rw [upd_same, List.take_add_one, hi2]
        simp
    · rintro σ' H' ⟨x0, x1, rfl, sm, hD, hle⟩
      rw [hlen, List.take_of_length_le (by rw [parts_len]; exact Nat.le_refl _)] at hD
      refine ⟨D, _, rfl, SqL.of hD, ?_⟩
      rw [List.any_map]
      exact k H' (s1.same sm) (oth1.trans (.of_same sm))
abbrev s_names_of : Stmt := top 10
theorem sc_names_of : FnScope ["term"] ["term"] (defScope s_names_of) := ⟨rfl, rfl, rfl, by decide +kernel, rfl, by decide +kernel, by decide +kernel⟩
inductive Sp_names_ofI (TL : Tabs) (vs : List V) (H : Hp) (Q : VK) : Prop where
  | mk (v : V) (t : Tm) (c1 : vs = [v]) (c2 : TermAt H v t) (c3 : t.size ≤ 1000) (c4 : TO TL H) (c5 : t.nameL.length < 1000 ∧ ∀ ks : List Str, ks.Nodup → (∀ x ∈ ks, x ∈ t.nameL) → ks.length < 64) (c6 : ∀ l ss H', ST TL H H' → OthT (TL.map (·.1)) H H' → ss.Nodup → (∀ x, x ∈ ss ↔ x ∈ t.nameL) → sortedS ss = true → ss.length < 64 → H' l = some (.lst (ss.map V.str)) → Q (.ref l) H')
def sp_names_of (TL : Tabs) : Sp := fun vs H Q _ => Sp_names_ofI TL vs H Q
theorem ok_names_of {f : Addr} {fd : FuncData} {TL : Tabs} (F : Fun K "names_of" "names_of" s_names_of f fd) (N_ : NoNames mg) (G_parts_of : GF P w K mg base CX0 3 "parts_of" ["term"] (sp_parts TL)) : FnOk P w K mg base CX0 4 f fd ["term"] (sp_names_of TL) := by
  refine F.ok sc_names_of (fun vs H Q E h => ?_) (fun cdv A outer s H vs Q E hr h => ?_)
  · obtain ⟨v, t, rfl, _⟩ := h
    rfl
  · obtain ⟨v, t, rfl, ht, hsz, to, ⟨hnl, h64⟩, k⟩ := h
    refine ⟨_, (pss_one (ps_ret (pCB (call_sortS hr.hd) (by rfl) N_.sorted boot_sorted (pa_c (pCT (call_setT hr.hd) (by rfl) N_.set boot_set (pa_c (pe_comp (N := ["part", "forms"]) rfl ⟨rfl, cndO, by decide +kernel, by decide +kernel, by decide +kernel⟩ (pe_gf G_parts_of (hr.mono (by decide)) rfl pass0 (pa_c (pv 0) pa_nil)) (fun _ _ _ => ⟨(pg_tup rfl (pgs_cons (pg_name (i := 0) cndO rfl (Or.inl rfl)) (pgs_cons (pg_name (i := 1) cndO rfl (Or.inl rfl)) pgs_nil))), (pf_one (pt_cmpR op_eq (pe_ix ix_tup (pv 0) pe_int (fun _ _ => rfl)) pe_str (nomark _))), (pe_ix ix_tup (pv 0) pe_int (fun _ _ => rfl))⟩)) pa_nil)) pa_nil)))), ?_⟩
    refine ⟨_, rfl, v, t, rfl, ht, by omega, to, fun l rs H1 s1 oth1 nl hl1 hr1 => ⟨l, rs, rfl, SqL.of hl1, fun D nD => ?_⟩⟩
    have hlen : rs.length = t.size := by rw [Paired.length hr1, parts_len]
    refine ⟨fun i σ' H' => ∃ x0 x1, σ' = [x0, x1] ∧ Same H1 H' ∧ H' D = some (.lst ((((t.parts 0).take i).flatMap fun q => q.1.nameOf).map V.str)), ⟨none, none, rfl, same_new nD, upd_same⟩, ?_, ?_, ?_⟩
    · rintro i σ' H' _ ⟨_, _, _, sm, _⟩
      exact SqL.of (sm _ _ hl1)
    · rintro C s0 H0 i x σ' H' hi ⟨x0, x1, rfl, sm, hD⟩
      obtain ⟨⟨t1, k1⟩, hi2, a, tv, rfl, ha, htv⟩ := paired_get hr1 hi
      have htv : TermAt H' tv t1 := htv.same sm
      have sub : ((t.parts 0).take i).flatMap (fun q => q.1.nameOf) = ((t.parts 0).take i).flatMap (fun q => q.1.nameOf) ++ [] := (List.append_nil _).symm
      have nxt : (((t.parts 0).take (i + 1)).flatMap fun q => q.1.nameOf) = (((t.parts 0).take i).flatMap fun q => q.1.nameOf) ++ t1.nameOf := by
        rw [List.take_add_one, hi2, List.flatMap_append]
        simp
      refine ⟨a, _, rfl, SqT.of (sm _ _ ha), rfl, _, _, rfl, _, _, rfl, rfl, ?_⟩
      have no : t1.nameOf = [] → ∃ x0 x1, [some tv, some (V.int (k1 : Int))] = [x0, x1] ∧ Same H1 H' ∧ H' D = some (.lst ((((t.parts 0).take (i + 1)).flatMap fun q => q.1.nameOf).map V.str)) := fun e => ⟨_, _, rfl, sm, by rw [nxt, e, List.append_nil]; exact hD⟩
      cases htv with
      | place h => exact ⟨_, rfl, _, _, _, _, rfl, rfl, SqT.of h, at0, rfl, _, rfl, ifF n_pn (no rfl)⟩
      | form h _ => exact ⟨_, rfl, _, _, _, _, rfl, rfl, SqT.of h, at0, rfl, _, rfl, ifF n_fn (no rfl)⟩
      | call h _ _ => exact ⟨_, rfl, _, _, _, _, rfl, rfl, SqT.of h, at0, rfl, _, rfl, ifF n_cn (no rfl)⟩
      | @name a1 w1 h =>
        have hle : (((t.parts 0).take i).flatMap fun q => q.1.nameOf).length ≤ t.nameL.length := by
          unfold T.nameL
          conv => rhs; rw [← List.take_append_drop i (t.parts 0), List.flatMap_append, List.length_append]
          exact Nat.le_add_right _ _
        refine ⟨_, rfl, _, _, _, _, rfl, rfl, SqT.of h, at0, rfl, _, rfl, ifT rfl ⟨_, rfl, _, _, _, _, rfl, rfl, SqT.of h, at1, _, hD, small (by rw [List.length_map]; omega), _, _, rfl, ?_, ?_⟩⟩
        · intro b o e
          rw [upd_ne fun z => by rw [z, nD] at e; cases e]
          exact sm b o e
        · rw [upd_same, nxt, List.map_append]
          rfl
    · rintro σ' H' ⟨x0, x1, rfl, sm, hD⟩
      rw [hlen, List.take_of_length_le (by rw [parts_len]; exact Nat.le_refl _)] at hD
      have hD : H' D = some (.lst (t.nameL.map V.str)) := hD
      refine ⟨D, _, rfl, hD, by omega, fun a ks H2 nd mem hl na s2 ha => ⟨a, ks, rfl, ha, h64 ks nd fun x hx => (mem x).mp hx, fun ss l2 H3 pm srt nl2 s3 hl3 => ?_⟩⟩
      exact k l2 ss H3 (((s1.same sm).same s2).same s3) (oth1.trans (.of_same ((sm.trans s2).trans s3))) (pm.nodup_iff.mpr nd) (fun x => pm.mem_iff.trans (mem x)) srt (by rw [pm.length_eq]; exact h64 ks nd fun x hx => (mem x).mp hx) hl3
end
end NC
/-! ### named terms: walk -/
namespace NC
open PySem PySem.Spec PyProof.Rows L2
section
variable {P : Program} {w : World} {K : PySem.W.Frag} {mg : Str → Option Value} {base : Heap}
seal L2.PE L2.PA L2.PT L2.PS L2.PSs L2.PW L2.PG L2.PGs L2.PI L2.PO L2.OpR L2.UnR L2.CallR L2.TruR L2.IxR L2.SlR
/-- inward: one form more -/
inductive Sp_inwNI (J : Hp → Prop) (vs : List V) (H : Hp) (Q : VK) : Prop where
  | mk (a : _) (w : _) (u : _) (ws : _) (av : _) (c1 : vs = [.ref a, av]) (c2 : H a = some (.tup [.str "form", .str w, u])) (c3 : ArAt H ws av) (c4 : J H) (c5 : ∀ av' H', Same H H' → ArAt H' (w :: ws) av' → Q av' H')
def sp_inwN (J : Hp → Prop) : Sp := fun vs H Q u3_ => Sp_inwNI J vs H Q
inductive Sp_walkNI (kf : Nat) (P : Program) (w : World) (K : PySem.W.Frag) (mg : Str → Option Value) (base : Heap) (vs : List V) (H : Hp) (Q : VK) : Prop where
  | mk (v : _) (t : _) (ws0 : _) (av0 : _) (f : _) (ps : _) (J : _) (c1 : vs = [v, av0, .ref f]) (c2 : NamedAt H v t) (c3 : ArAt H ws0 av0) (c4 : t.size ≤ 100000) (c5 : FV P w K mg base CX0 kf f ps (sp_inwN J)) (c6 : (∀ H', Same H H' → J H')) (c7 : ∀ l rs H', Same H H' → H l = none → H' l = some (.lst rs) → Paired (NPairAt H') rs (t.parts ws0) → Q (.ref l) H')
def sp_walkN (kf : Nat) (P : Program) (w : World) (K : PySem.W.Frag) (mg : Str → Option Value) (base : Heap) : Sp := fun vs H Q u3_ => Sp_walkNI kf P w K mg base vs H Q
inductive InvWalkNI (H : Hp) (v : V) (t : NT) (ws0 : List Str) (av0 u : V) (f d : Addr) (m : Nat) (σ : L2.St) (H' : Hp) : Prop where
  | mk (its : _) (xs : _) (fs : _) (ps : _) (x3 : _) (x4 : _) (c1 : σ = [some v, some av0, some u, some (.ref f), some (.ref d), x3, x4]) (c2 : Same H H') (c3 : H' f = some (.lst fs)) (c4 : H' d = some (.lst xs)) (c5 : Paired (NPairAt H') xs its) (c6 : Paired (NPairAt H') fs ps) (c7 : ps ++ pendN its = t.parts ws0) (c8 : m = sizesQ its) (c9 : sizesQ its ≤ t.size)
def InvWalkN (H : Hp) (v : V) (t : NT) (ws0 : List Str) (av0 u : V) (f d : Addr) (m : Nat) (σ : L2.St) (H' : Hp) : Prop := InvWalkNI H v t ws0 av0 u f d m σ H'
theorem atm1N {α : Type} {a b c : α} : atI [a, b, c] (-1) = some c := rfl
theorem ok_walkN {f : Addr} {fd : FuncData} {kf : Nat} (F : Fun K "walk" "walk" s_walk f fd) : FnOk P w K mg base CX0 (kf + 1) f fd ["term", "around", "inward"] (sp_walkN kf P w K mg base) := by
  refine F.ok sc_walk (fun vs H Q E h => ?_) (fun cdv A outer s H vs Q E hr h => ?_)
  · obtain ⟨v, t, ws0, av0, g, ps, J, rfl, _⟩ := h
    rfl
  · obtain ⟨v, t, ws0, av0, g, gps, J, rfl, ht, har, hsz, hfv, hJ, k⟩ := h
    have hrF : Room kf (A.deeper (envOfC "walk" (defScope s_walk) s.heap.objs.size _ cdv)) := hr
    refine ⟨_, (pss_cons (ps_set (i := 3) sc_walk.nd rfl (Or.inl rfl) (pLst pa_nil))
      (pss_cons (ps_set (i := 4) sc_walk.nd rfl (Or.inl rfl) (pLst (pa_c (pTup (pa_c (pv 0) (pa_c (pv 1) pa_nil))) pa_nil)))
      (pss_cons (ps_while PassesOwn.never (pt_truth (pv 4) (fun _ => rfl)) (pss_cons (ps_set (i := 5) sc_walk.nd rfl (Or.inl rfl) (pPop (pv 4)))
      (pss_cons (ps_expr (pApp (pv 3) (pv 5)))
      (pss_cons (ps_set (i := 6) sc_walk.nd rfl (Or.inl rfl) (pe_ix ix_tup (pv 5) pe_int (fun _ _ => rfl)))
      (pss_one (ps_if (pt_cmpR op_eq (pe_ix ix_tup (pv 6) pe_int (fun _ _ => rfl)) pe_str (nomark _)) (pss_one (ps_expr (pApp (pv 4) (pTup (pa_c (pe_ix ix_tup (pv 6) (pe_un un_neg pe_int) (fun _ _ => rfl)) (pa_c (pe_fvE 2 hrF pass0 (pa_c (pv 6) (pa_c (pe_ix ix_tup (pv 5) pe_int (fun _ _ => rfl)) pa_nil))) pa_nil)))))) (pss_one (ps_if (pt_cmpR op_eq (pe_ix ix_tup (pv 6) pe_int (fun _ _ => rfl)) pe_str (nomark _)) (pss_cons (ps_expr (pApp (pv 4) (pTup (pa_c (pe_ix ix_tup (pv 6) pe_int (fun _ _ => rfl)) (pa_c (pe_ix ix_tup (pv 5) pe_int (fun _ _ => rfl)) pa_nil)))))
      (pss_one (ps_expr (pApp (pv 4) (pTup (pa_c (pe_ix ix_tup (pv 6) pe_int (fun _ _ => rfl)) (pa_c (pe_ix ix_tup (pv 5) pe_int (fun _ _ => rfl)) pa_nil))))))) pss_nil))))))))
      (pss_one (ps_ret (pv 3)))))), ?_⟩
    show (let V1_ : TS := _; let V2_ : TS := _; let V3_ : TS := _; let V4_ : TS := tSeq _ V3_; let V5_ : TS := tIfS _ V4_ _; let V6_ : TS := tIfS _ V2_ V5_; let V7_ : TS := tSeq _ V6_; let V8_ : TS := tSeq _ V7_; let V9_ : TS := tSeq _ V8_; let V10_ : TS := tSeq (tWhile _ V9_) V1_; let V11_ : TS := tSeq _ V10_; tSeq _ V11_ _ _ _)
    intro V1_ V2_ V3_ V4_ V5_ V6_ V7_ V8_ V9_ V10_ V11_
    refine ⟨small' (by simp), fun f H1 nf s1 hf1 => ⟨_, rfl, _, rfl, small' (by simp), fun q H3 nq s3 hq3 => ⟨small' (by simp), fun d H4 nd s4 hd4 => ?_⟩⟩⟩
    have s04 : Same H H4 := (s1.trans s3).trans s4
    have hf4 : H4 f = some (.lst []) := s4 _ _ (s3 _ _ hf1)
    have nfd : f ≠ d := ne_of_none (s3 _ _ hf1) nd
    have n_f : H f = none := nf
    have n_d : H d = none := (s1.trans s3).free nd
    have nL : ∀ x ∈ [f, d], H x = none := fun x hx => by
      rcases List.mem_cons.mp hx with e | hx
      · rw [e]; exact n_f
      · rw [List.mem_singleton.mp hx]; exact n_d
    refine ⟨InvWalkN H v t ws0 av0 (.ref g) f d, ⟨sizesQ [(t, ws0)], ?_⟩, ?_⟩
    · refine ⟨[(t, ws0)], [.ref q], [], [], none, none, rfl, s04, hf4, hd4, .cons ⟨q, v, av0, rfl, s4 _ _ hq3, ht.same s04, har.mono (.of_same s04)⟩ .nil, .nil, ?_, rfl, ?_⟩
      · show [] ++ (t.parts ws0 ++ []) = _
        rw [List.append_nil, List.nil_append]
      · show t.size + 0 ≤ t.size
        omega
    · rintro m σ H5 ⟨its, xs, fs, ps, x3, x4, rfl, s5, hf5, hd5, hit, hps, heq, rfl, hsum⟩
      by_cases hnil : its = []
      · subst hnil
        cases paired_nil hit
        refine ⟨_, rfl, false, Or.inl ⟨_, SqL.of hd5, rfl⟩, iteF ⟨_, rfl, ?_⟩⟩
        have e : ps = t.parts ws0 := by rw [← heq]; unfold pendN; simp
        subst e
        exact k f fs H5 s5 n_f hf5 hps
      · obtain ⟨its', ⟨t1, k1⟩, rfl⟩ := snoc_of hnil
        obtain ⟨xs', x, rfl, hit', a, tv, av, rfl, ha, htv, hav⟩ := paired_snoc_inv hit
        have htv : NamedAt H5 tv t1 := htv
        have hav : ArAt H5 k1 av := hav
        refine ⟨_, rfl, true, Or.inl ⟨_, SqL.of hd5, by simp⟩, iteT ⟨fun σ' H' => ∃ m', m' < sizesQ (its' ++ [(t1, k1)]) ∧ InvWalkN H v t ws0 av0 (.ref g) f d m' σ' H', fun _ _ h => h, ?_⟩⟩
        refine ⟨_, rfl, Or.inl ⟨rfl, _, SqL.of hd5⟩, d, xs', .ref a, rfl, rfl, hd5, fun H6 k6 hd6 => ?_⟩
        have hL := lists2 hf5 hd5
        have K6 : Keep [f, d] H5 H6 := k6.sub (by simp)
        have tu6 := K6.tups hL
        have ha6 := tu6 _ _ ha
        have hf6 : H6 f = some (.lst fs) := k6.at hf5 nfd
        have s6 : Same H H6 := same_keep s5 K6 nL
        have it6 := paired_imp (fun a b h => NPairAt.mono h tu6) hit'
        have ps6 := paired_imp (fun a b h => NPairAt.mono h tu6) hps
        have hL6 := lists2 hf6 hd6
        rw [pendN_snoc] at heq
        rw [sizesQ_snoc] at hsum
        rw [sizesQ_snoc]
        have hxl : xs'.length ≤ t.size := by
          rw [Paired.length it6]
          have := len_sizesQ its'
          have h1 : sizesQ its' + t1.size ≤ t.size := hsum
          omega
        have hfl : fs.length ≤ t.size := by
          rw [Paired.length ps6]
          have h1 := congrArg List.length heq
          rw [List.length_append, nparts_len] at h1
          omega
        have hs1 : sizesQ its' + t1.size ≤ t.size := hsum
        refine ⟨_, rfl, Or.inl ⟨rfl, _, SqL.of hf6⟩, _, rfl, _, _, _, rfl, rfl, hf6, small (by omega), fun H7 k7 hf7 => ?_⟩
        have K7 : Keep [f, d] H6 H7 := k7.sub (by simp)
        have hd7 : H7 d = some (.lst xs') := k7.at hd6 nfd.symm
        have tu7 := K7.tups hL6
        have ha7 := tu7 _ _ ha6
        have htv7 := (htv.mono tu6).mono tu7
        have hav7 := (hav.mono tu6).mono tu7
        have s7 : Same H H7 := same_keep s6 K7 nL
        have it7 := paired_imp (fun a b h => NPairAt.mono h tu7) it6
        have ps7 := paired_snoc (x := V.ref a) (y := (t1, k1)) ⟨a, tv, av, rfl, ha7, htv7, hav7⟩ (paired_imp (fun a b h => NPairAt.mono h tu7) ps6)
        have hL7 := lists2 hf7 hd7
        refine ⟨_, rfl, _, _, _, _, rfl, rfl, SqT.of ha7, at0, ?_⟩
        have heq : ps ++ (t1.parts k1 ++ pendN its') = t.parts ws0 := heq
        cases htv7 with
        | name h =>
          refine ⟨_, rfl, _, _, _, _, rfl, rfl, SqT.of h, at0, rfl, _, rfl, ifF n_nf ⟨_, rfl, _, _, _, _, rfl, rfl, SqT.of h, at0, rfl, _, rfl, ifF n_nc ?_⟩⟩
          refine ⟨_, by show sizesQ its' < sizesQ its' + 1; omega, its', xs', _, _, _, _, rfl, s7, hf7, hd7, it7, ps7, ?_, rfl, by omega⟩
          rw [List.append_assoc]; exact heq
        | @form a1 fw bv b h hb =>
          have hbs : NT.size (.form fw b) = b.size + 1 := rfl
          refine ⟨_, rfl, _, _, _, _, rfl, rfl, SqT.of h, at0, rfl, _, rfl, ifT rfl ?_⟩
          refine ⟨_, rfl, Or.inl ⟨rfl, _, SqL.of hd7⟩, _, rfl, _, rfl, _, _, _, _, rfl, rfl, SqT.of h, atm1N, g, _, _, rfl, hfv, _, rfl, _, rfl, _, _, _, _, rfl, rfl, SqT.of ha7, at1, _, _, _, _, _, rfl, h, hav7, hJ _ s7, fun av' H8 s8 har8 => ⟨small' (by show 2 ≤ 1000000; decide), fun b9 H9 n9 s9' h9 => ⟨_, _, _, rfl, rfl, s9' _ _ (s8 _ _ hd7), small (by omega), fun H10 k10 hd10 => ?_⟩⟩⟩
          have s9 := s8.trans s9'
          have K10 : Keep [f, d] H7 H10 := (Keep.of_same s9).trans (k10.sub (by simp))
          have tu10 := K10.tups hL7
          refine ⟨_, ?_, its' ++ [(b, fw :: k1)], _, _, _, _, _, rfl, same_keep s7 K10 nL, k10.at (s9 _ _ hf7) nfd, hd10, paired_snoc ⟨b9, bv, av', rfl, k10.tup1 (s9 _ _ hd7) _ _ h9, hb.mono tu10, (har8.mono (.of_same s9')).mono (k10.tup1 (s9 _ _ hd7))⟩ (paired_imp (fun a b h => NPairAt.mono h tu10) it7), paired_imp (fun a b h => NPairAt.mono h tu10) ps7, ?_, rfl, ?_⟩
          · rw [sizesQ_snoc]; show sizesQ its' + b.size < sizesQ its' + (b.size + 1); omega
          · rw [pendN_snoc, List.append_assoc]; exact heq
          · rw [sizesQ_snoc]; show sizesQ its' + b.size ≤ t.size; omega
        | @call a1 xv yv x y h hx hy =>
          have hcs : NT.size (.call x y) = x.size + y.size + 1 := rfl
          refine ⟨_, rfl, _, _, _, _, rfl, rfl, SqT.of h, at0, rfl, _, rfl, ifF n_cf ⟨_, rfl, _, _, _, _, rfl, rfl, SqT.of h, at0, rfl, _, rfl, ifT rfl ?_⟩⟩
          refine ⟨_, rfl, Or.inl ⟨rfl, _, SqL.of hd7⟩, _, rfl, _, _, _, _, rfl, rfl, SqT.of h, at2, _, rfl, _, _, _, _, rfl, rfl, SqT.of ha7, at1, small' (by show 2 ≤ 1000000; decide), fun b9 H9 n9 s9 h9 => ⟨_, _, _, rfl, rfl, s9 _ _ hd7, small (by omega), fun H10 k10 hd10 => ?_⟩⟩
          have K10 : Keep [f, d] H7 H10 := (Keep.of_same s9).trans (k10.sub (by simp))
          have tu10 := K10.tups hL7
          have hf10 := k10.at (s9 _ _ hf7) nfd
          have hL10 := lists2 hf10 hd10
          have it10 := paired_snoc (x := V.ref b9) (y := (y, k1)) ⟨b9, yv, av, rfl, k10.tup1 (s9 _ _ hd7) _ _ h9, hy.mono tu10, hav7.mono tu10⟩ (paired_imp (fun a b h => NPairAt.mono h tu10) it7)
          refine ⟨_, rfl, Or.inl ⟨rfl, _, SqL.of hd10⟩, _, rfl, _, _, _, _, rfl, rfl, SqT.of (tu10 _ _ h), at1, _, rfl, _, _, _, _, rfl, rfl, SqT.of (tu10 _ _ ha7), at1, small' (by show 2 ≤ 1000000; decide), fun c9 H11 m9 s11 g9 => ⟨_, _, _, rfl, rfl, s11 _ _ hd10, small (by rw [List.length_append, List.length_singleton]; omega), fun H12 k12 hd12 => ?_⟩⟩
          have K12 : Keep [f, d] H10 H12 := (Keep.of_same s11).trans (k12.sub (by simp))
          have tu12 := K12.tups hL10
          refine ⟨_, ?_, (its' ++ [(y, k1)]) ++ [(x, k1)], _, _, _, _, _, rfl, same_keep s7 (K10.trans K12) nL, k12.at (s11 _ _ hf10) nfd, hd12, paired_snoc ⟨c9, xv, av, rfl, k12.tup1 (s11 _ _ hd10) _ _ g9, (hx.mono tu10).mono tu12, (hav7.mono tu10).mono tu12⟩ (paired_imp (fun a b h => NPairAt.mono h tu12) it10), paired_imp (fun a b h => (NPairAt.mono h tu10).mono tu12) ps7, ?_, rfl, ?_⟩
          · rw [sizesQ_snoc, sizesQ_snoc]; show sizesQ its' + y.size + x.size < sizesQ its' + (x.size + y.size + 1); omega
          · rw [pendN_snoc, pendN_snoc, List.append_assoc]
            show ps ++ ((.call x y, k1) :: (x.parts k1 ++ (y.parts k1 ++ pendN its'))) = _
            rw [← heq]
            show _ = ps ++ ((.call x y, k1) :: (x.parts k1 ++ y.parts k1) ++ pendN its')
            simp
          · rw [sizesQ_snoc, sizesQ_snoc]; show sizesQ its' + y.size + x.size ≤ _; omega
end
end NC
/-! ### named terms: built, told by number -/
namespace NC
open PySem PySem.Spec PyProof.Rows L2
inductive Sp_leafNI (g : Str → List Str → Tm) (vs : List V) (H : Hp) (Q : VK) : Prop where
  | mk (v : _) (w : _) (av : _) (ws : _) (c1 : vs = [v, av]) (c2 : NamedAt H v (.name w)) (c3 : ArAt H ws av) (c4 : ws.length ≤ 100000) (c5 : ∀ v' H', Same H H' → TermAt H' v' (g w ws) → Q v' H')
def sp_leafN (g : Str → List Str → Tm) : Sp := fun vs H Q u3_ => Sp_leafNI g vs H Q
inductive Sp_overNI (Jc : Hp → Prop) (vs : List V) (H : Hp) (Q : VK) : Prop where
  | mk (v : _) (av : _) (b : _) (c1 : vs = [v, av]) (c2 : TermAt H v b) (c3 : Jc H) (c4 : ∀ v' H', Same H H' → TermAt H' v' (.form b) → Q v' H')
def sp_overN (Jc : Hp → Prop) : Sp := fun vs H Q u3_ => Sp_overNI Jc vs H Q
inductive Sp_builtNI (kf : Nat) (P : Program) (w : World) (K : PySem.W.Frag) (mg : Str → Option Value) (base : Heap) (vs : List V) (H : Hp) (Q : VK) : Prop where
  | mk (l : _) (rs : _) (t : NT) (ws0 : _) (f1 : _) (f2 : _) (ps1 : _) (ps2 : _) (Jc : _) (g : _) (c1 : vs = [.ref l, .ref f1, .ref f2]) (c2 : H l = some (.lst rs)) (c3 : Paired (NPairAt H) rs (t.parts ws0)) (c4 : t.size + ws0.length ≤ 100000) (c5 : FV P w K mg base CX0 kf f1 ps1 (sp_leafN g)) (c6 : FV P w K mg base CX0 kf f2 ps2 (sp_overN Jc)) (c7 : (∀ H', Same H H' → Jc H')) (c8 : ∀ v' H', Same H H' → TermAt H' v' (t.num g ws0) → Q v' H')
def sp_builtN (kf : Nat) (P : Program) (w : World) (K : PySem.W.Frag) (mg : Str → Option Value) (base : Heap) : Sp := fun vs H Q u3_ => Sp_builtNI kf P w K mg base vs H Q
section
variable {P : Program} {w : World} {K : PySem.W.Frag} {mg : Str → Option Value} {base : Heap}
seal L2.PE L2.PA L2.PT L2.PS L2.PSs L2.PW L2.PG L2.PGs L2.PI L2.PO L2.OpR L2.UnR L2.CallR L2.TruR L2.IxR L2.SlR
abbrev s_told_by_number : Stmt := top 17
theorem sc_told_by_number : FnScope ["part", "around", "number"] ["part", "around"] (defScope s_told_by_number) := ⟨rfl, rfl, rfl, by decide +kernel, rfl, by decide +kernel, by decide +kernel⟩
inductive InvRebNI (g : Str → List Str → Tm) (H : Hp) (u1 u2 : V) (t : NT) (ws0 : List Str) (p l : Addr) (rs : List V) (i : Nat) (σ : L2.St) (H' : Hp) : Prop where
  | mk (vs : _) (S : _) (x3 : _) (x4 : _) (x5 : _) (c1 : σ = [some (.ref l), some u1, some u2, some (.ref p), x3, x4, x5]) (c2 : Same H H') (c3 : PileAt H' p vs S) (c4 : S.length ≤ i) (c5 : runN g ((t.parts ws0).reverse.drop i) S = some [t.num g ws0])
def InvRebN (g : Str → List Str → Tm) (H : Hp) (u1 u2 : V) (t : NT) (ws0 : List Str) (p l : Addr) (rs : List V) (i : Nat) (σ : L2.St) (H' : Hp) : Prop := InvRebNI g H u1 u2 t ws0 p l rs i σ H'
theorem ok_builtN {f : Addr} {fd : FuncData} {kf : Nat} (F : Fun K "built" "built" s_built f fd) (N_ : NoNames mg) : FnOk P w K mg base CX0 (kf + 1) f fd ["found", "leaf", "over"] (sp_builtN kf P w K mg base) := by
  refine F.ok sc_built (fun vs H Q E h => ?_) (fun cdv A outer s H vs Q E hr h => ?_)
  · obtain ⟨l, rs, t, ws0, f1, f2, ps1, ps2, Jc, g, rfl, _⟩ := h
    rfl
  · obtain ⟨l, rs, t, ws0, f1, f2, ps1, ps2, Jc, g, rfl, hl0, hr0, hsz, hfv1, hfv2, hJc, k⟩ := h
    have hrF : Room kf (A.deeper (envOfC "built" (defScope s_built) s.heap.objs.size _ cdv)) := hr
    refine ⟨_, (pss_cons (ps_set (i := 3) sc_built.nd rfl (Or.inl rfl) (pLst pa_nil))
      (pss_cons (ps_for PassesOwn.never rfl (pi_rev rfl N_.reversed (pv 0)) (pg_tup rfl (pgs_cons (pg_name (i := 4) sc_built.nd rfl (Or.inl rfl)) (pgs_cons (pg_name (i := 5) sc_built.nd rfl (Or.inl rfl)) pgs_nil))) (pss_one (ps_if (pt_cmpR op_eq (pe_ix ix_tup (pv 4) pe_int (fun _ _ => rfl)) pe_str (nomark _)) (pss_one (ps_expr (pApp (pv 3) (pe_fvE 2 hrF pass0 (pa_c (pPop (pv 3)) (pa_c (pv 5) pa_nil)))))) (pss_one (ps_if (pt_cmpR op_eq (pe_ix ix_tup (pv 4) pe_int (fun _ _ => rfl)) pe_str (nomark _)) (pss_cons (ps_set (i := 6) sc_built.nd rfl (Or.inl rfl) (pPop (pv 3)))
      (pss_one (ps_expr (pApp (pv 3) (pTup (pa_c pe_str (pa_c (pv 6) (pa_c (pPop (pv 3)) pa_nil)))))))) (pss_one (ps_expr (pApp (pv 3) (pe_fvE 1 hrF pass0 (pa_c (pv 4) (pa_c (pv 5) pa_nil)))))))))))
      (pss_one (ps_ret (pPop (pv 3)))))), ?_⟩
    show (let V1_ : TS := _; let V2_ : TS := _; let V3_ : TS := _; let V4_ : TS := tSeq _ V3_; let V5_ : TS := _; let V6_ : TS := tIfS _ V4_ V5_; let V7_ : TS := tIfS _ V2_ V6_; let V8_ : TS := tSeq (tFor _ _ V7_) V1_; tSeq _ V8_ _ _ _)
    intro V1_ V2_ V3_ V4_ V5_ V6_ V7_ V8_
    refine ⟨small' (by simp), fun p H1 np s1 hp1 => ?_⟩
    have hlen : rs.length = t.size := by rw [Paired.length hr0, nparts_len]
    refine ⟨_, rfl, l, rs, rfl, SqL.of (s1 _ _ hl0), for_rev (K := K) (a := l) (xs := rs) (InvRebN g H (.ref f1) (.ref f2) t ws0 p l rs) ?_ ?_ ?_ ?_⟩
    · exact ⟨[], [], none, none, none, rfl, s1, ⟨hp1, .nil⟩, Nat.le_refl _, runN_all t ws0⟩
    · rintro i σ H' _ ⟨_, _, _, _, _, _, h, _⟩
      exact SqL.of (h _ _ hl0)
    · rintro i x σ H3 hi ⟨vs, S, x3, x4, x5, rfl, s3, hp3, hS, hrun⟩
      obtain ⟨⟨t1, k1⟩, hi2, a, tv, av, rfl, ha, htv, hav⟩ := paired_get (paired_rev (paired_imp (fun _ _ z => NPairAt.mono z (.of_same s3)) hr0)) hi
      have htv : NamedAt H3 tv t1 := htv
      have hav : ArAt H3 k1 av := hav
      have hlt : i < t.size := by
        have := (List.getElem?_eq_some_iff.mp hi).1
        rw [List.length_reverse] at this
        omega
      have hd : (t.parts ws0).reverse.drop i = (t1, k1) :: (t.parts ws0).reverse.drop (i + 1) := by
        rw [List.drop_eq_getElem_cons (List.getElem?_eq_some_iff.mp hi2).1, (List.getElem?_eq_some_iff.mp hi2).2]
      rw [hd] at hrun
      refine ⟨a, _, rfl, SqT.of ha, rfl, _, _, rfl, _, _, rfl, rfl, ?_⟩
      have fin : ∀ {H7 : Hp} {vs7 : List V} {S7 : List Tm} {u : V} {y : Tm} {x5 : Option V}, Same H H7 → H7 p = some (.lst vs7) → Paired (TermAt H7) vs7 S7.reverse → TermAt H7 u y → S7.length ≤ i → runN g ((t.parts ws0).reverse.drop (i + 1)) (y :: S7) = some [t.num g ws0] →
          ∀ H8, Keep [p] H7 H8 → H8 p = some (.lst (vs7 ++ [u])) → InvRebN g H (.ref f1) (.ref f2) t ws0 p l rs (i + 1) [some (.ref l), some (.ref f1), some (.ref f2), some (.ref p), some tv, some av, x5] H8 := by
        intro H7 vs7 S7 u y x5 s7 hp7 q7 hu hS7 hrun7 H8 k8 hp8
        have tu8 := keep1_tups k8 hp7
        refine ⟨_, y :: S7, _, _, _, rfl, same_keep1 s7 k8 np, ⟨hp8, ?_⟩, by rw [List.length_cons]; omega, hrun7⟩
        rw [List.reverse_cons]
        exact paired_snoc (hu.mono tu8) (terms_kp q7 k8 hp7)
      have hk1b : k1.length ≤ 100000 := by
        have := nparts_le t ws0 _ (List.mem_reverse.mp (List.mem_of_getElem? hi2))
        have e : (t1, k1).2 = k1 := rfl
        rw [e] at this
        omega
      cases htv with
      | @name a1 w1 h =>
        refine ⟨_, rfl, _, _, _, _, rfl, rfl, SqT.of h, at0, rfl, _, rfl, ifF n_nf ⟨_, rfl, _, _, _, _, rfl, rfl, SqT.of h, at0, rfl, _, rfl, ifF n_nc ?_⟩⟩
        refine ⟨_, rfl, Or.inl ⟨rfl, _, SqL.of hp3.1⟩, f1, _, _, rfl, hfv1, _, rfl, _, rfl, _, w1, av, k1, rfl, .name h, hav, hk1b, fun v' H4 s4 hv' => ?_⟩
        have hp4 := s4 _ _ hp3.1
        refine ⟨_, _, _, rfl, rfl, hp4, small (by have := hp3.len; omega), fun H8 k8 hp8 => ?_⟩
        exact fin (s3.trans s4) hp4 (paired_imp (fun _ _ z => z.same s4) hp3.2) hv' hS hrun H8 k8 hp8
      | @form a1 w1 bv b h hb =>
        obtain ⟨x, S', rfl, hrun⟩ := runN_form hrun
        obtain ⟨vs', u, rfl, hu, hv'⟩ := hp3.pop
        have ln := hp3.len
        rw [List.length_append, List.length_singleton, List.length_cons] at ln
        rw [List.length_cons] at hS
        refine ⟨_, rfl, _, _, _, _, rfl, rfl, SqT.of h, at0, rfl, _, rfl, ifT rfl ?_⟩
        refine ⟨_, rfl, Or.inl ⟨rfl, _, SqL.of hp3.1⟩, f2, _, _, rfl, hfv2, _, rfl, Or.inl ⟨rfl, _, SqL.of hp3.1⟩, p, vs', u, rfl, rfl, hp3.1, fun H6 k6 hp6 => ⟨_, rfl, u, av, x, rfl, hu.mono (keep1_tups k6 hp3.1), hJc _ (same_keep1 s3 k6 np), fun v' H9 s9 h9 => ?_⟩⟩
        have hp9 := s9 _ _ hp6
        have k39 := k6.trans (Keep.of_same s9)
        refine ⟨_, _, _, rfl, rfl, hp9, small (by omega), fun H8 k8 hp8 => ?_⟩
        exact fin (same_keep1 s3 k39 np) hp9 (terms_kp hv' k39 hp3.1) h9 (by omega) hrun H8 k8 hp8
      | @call a1 xv yv x y h hx hy =>
        obtain ⟨x, y, S', rfl, hrun⟩ := runN_call hrun
        obtain ⟨vs1, u, rfl, hu, hv1⟩ := hp3.pop
        have ln := hp3.len
        refine ⟨_, rfl, _, _, _, _, rfl, rfl, SqT.of h, at0, rfl, _, rfl, ifF n_cf ⟨_, rfl, _, _, _, _, rfl, rfl, SqT.of h, at0, rfl, _, rfl, ifT rfl ?_⟩⟩
        refine ⟨_, rfl, Or.inl ⟨rfl, _, SqL.of hp3.1⟩, p, vs1, u, rfl, rfl, hp3.1, fun H6 k6 hp6 => ?_⟩
        have P6 : PileAt H6 p vs1 (y :: S') := ⟨hp6, terms_kp hv1 k6 hp3.1⟩
        obtain ⟨vs', z, rfl, hz, hv'⟩ := P6.pop
        rw [List.length_append, List.length_append, List.length_singleton, List.length_singleton, List.length_cons, List.length_cons] at ln
        rw [List.length_cons, List.length_cons] at hS
        refine ⟨_, rfl, Or.inl ⟨rfl, _, SqL.of hp6⟩, _, rfl, _, rfl, Or.inl ⟨rfl, _, SqL.of hp6⟩, p, vs', z, rfl, rfl, hp6, fun H7 k7 hp7 => ⟨small' (by show 3 ≤ 1000000; decide), fun b9 H9 n9 s9 h9 => ?_⟩⟩
        have hp9 := s9 _ _ hp7
        have k69 := k7.trans (Keep.of_same s9)
        have k39 := k6.trans k69
        have tu39 := keep1_tups k39 hp3.1
        refine ⟨_, _, _, rfl, rfl, hp9, small (by omega), fun H8 k8 hp8 => ?_⟩
        exact fin (same_keep1 s3 k39 np) hp9 (terms_kp hv' k69 hp6) (.call h9 (hu.mono tu39) (hz.mono (keep1_tups k69 hp6))) (by omega) hrun H8 k8 hp8
    · rintro σ H3 ⟨vs, S, x3, x4, x5, rfl, s3, hp3, hS, hrun⟩
      rw [List.drop_eq_nil_of_le (by rw [List.length_reverse, nparts_len, hlen]; exact Nat.le_refl _)] at hrun
      cases (Option.some.inj hrun)
      obtain ⟨vs', u, rfl, hu, hv'⟩ := hp3.pop
      cases paired_nil hv'
      refine ⟨_, rfl, Or.inl ⟨rfl, _, SqL.of hp3.1⟩, p, [], u, rfl, rfl, hp3.1, fun H6 k6 hp6 => ?_⟩
      exact k u H6 (same_keep1 s3 k6 np) (hu.mono (keep1_tups k6 hp3.1))
theorem ok_told {f : Addr} {fd : FuncData} (F : Fun K "told_by_number" "told_by_number" s_told_by_number f fd) : FnOk P w K mg base CX0 1 f fd ["part", "around"] (sp_leafN byNum) := by
  refine F.ok sc_told_by_number (fun vs H Q E h => ?_) (fun cdv A outer s H vs Q E hr h => ?_)
  · obtain ⟨v, w, av, ws, rfl, _⟩ := h
    rfl
  · obtain ⟨v, w, av, ws, rfl, hv, hav, hlen, k⟩ := h
    cases hv with
    | @name a1 w1 h1 =>
    refine ⟨_, (pss_cons (ps_set (i := 2) sc_told_by_number.nd rfl (Or.inl rfl) pe_int)
      (pss_cons (ps_while PassesOwn.never (pt_cmpR op_notN (pv 1) pe_non (nomark _)) (pss_cons (ps_if (pt_cmpR op_eq (pe_ix ix_tup (pv 1) pe_int (fun _ _ => rfl)) (pe_ix ix_tup (pv 0) pe_int (fun _ _ => rfl)) (nomark _)) (pss_one (ps_ret (pTup (pa_c pe_str (pa_c (pv 2) pa_nil))))) pss_nil)
      (pss_cons (ps_aug (i := 2) sc_told_by_number.nd rfl (Or.inl rfl) pe_int ip_add)
      (pss_one (ps_set (i := 1) sc_told_by_number.nd rfl (Or.inl rfl) (pe_ix ix_tup (pv 1) pe_int (fun _ _ => rfl)))))))
      (pss_one (ps_ret (pv 0))))), ?_⟩
    show (let V1_ : TS := _; let V2_ : TS := _; let V3_ : TS := tSeq _ V2_; let V4_ : TS := _; let V5_ : TS := tSeq (tIfS _ V4_ _) V3_; let V6_ : TS := tSeq (tWhile _ V5_) V1_; tSeq _ V6_ _ _ _)
    intro V1_ V2_ V3_ V4_ V5_ V6_
    refine ⟨fun m σ H' => ∃ ws' av', ∃ n : Nat, σ = [some (.ref a1), some av', some (.int (n : Int))] ∧ H' = H ∧ ArAt H ws' av' ∧ numAt w ws' n = byNum w ws ∧ m = ws'.length, ⟨ws.length, ws, av, 0, rfl, rfl, hav, rfl, rfl⟩, ?_⟩
    rintro m σ H' ⟨ws', av', n, rfl, rfl, har, hn, rfl⟩
    cases ws' with
    | nil =>
      cases (show av' = .non from har)
      refine ⟨_, rfl, rfl, _, rfl, ifNF rfl ⟨_, rfl, ?_⟩⟩
      refine k _ H' (.refl _) ?_
      rw [← hn]
      exact .name h1
    | cons u ws2 =>
      obtain ⟨a2, u2, rfl, h2, h3⟩ := har
      refine ⟨_, rfl, rfl, _, rfl, ifNT (by simp) ⟨fun σ' H2 => ∃ m', m' < (u :: ws2).length ∧ ∃ ws' av', ∃ n : Nat, σ' = [some (.ref a1), some av', some (.int (n : Int))] ∧ H2 = H' ∧ ArAt H' ws' av' ∧ numAt w ws' n = byNum w ws ∧ m' = ws'.length, fun _ _ h => h, ?_⟩⟩
      refine ⟨_, rfl, _, _, _, _, rfl, rfl, SqT.of h2, at0, _, rfl, _, _, _, _, rfl, rfl, SqT.of h1, at1, rfl, _, rfl, ?_⟩
      by_cases e : u = w
      · refine ifT (by rw [e]) ⟨_, rfl, small' (by show 2 ≤ 1000000; decide), fun p H9 np s9 h9 => k _ H9 s9 ?_⟩
        rw [← hn]
        unfold numAt
        rw [if_pos e]
        exact .place h9
      · refine ifF (fun z => e (V.str.inj z)) ?_
        refine ⟨_, rfl, _, _, rfl, rfl, ⟨_, rfl, _, _, _, _, rfl, rfl, SqT.of h2, at1, ?_⟩⟩
        refine ⟨ws2.length, Nat.lt_succ_self _, ws2, u2, n + 1, by rfl, rfl, h3, ?_, rfl⟩
        rw [← hn]
        show _ = (if u = w then T.place n else numAt w ws2 (n + 1))
        rw [if_neg e]
end
end NC
/-! ### named terms: numbered -/
namespace NC
open PySem PySem.Spec PyProof.Rows L2
section
variable {P : Program} {w : World} {K : PySem.W.Frag} {mg : Str → Option Value} {base : Heap}
seal L2.PE L2.PA L2.PT L2.PS L2.PSs L2.PW L2.PG L2.PGs L2.PI L2.PO L2.OpR L2.UnR L2.CallR L2.TruR L2.IxR L2.SlR
abbrev s_numbered : Stmt := top 18
theorem sc_numbered : FnScope ["term", "found"] ["term"] (defScope s_numbered) := ⟨rfl, rfl, rfl, by decide +kernel, rfl, by decide +kernel, by decide +kernel⟩
abbrev l_numbered_0 : Expr := asgArg s_numbered 0 2
def q_numbered_0 : Str := ("numbered" : Str) ++ ".<locals>." ++ "<lambda>"
theorem sl_numbered_0 : CloScope ["form", "around"] [] (lamScope l_numbered_0) := ⟨rfl, rfl, rfl, by decide +kernel, by decide +kernel, by decide +kernel, by decide +kernel, by decide +kernel⟩
abbrev l_numbered_1 : Expr := retArg s_numbered 1 2
def q_numbered_1 : Str := ("numbered" : Str) ++ ".<locals>." ++ "<lambda>"
theorem sl_numbered_1 : CloScope ["body", "around"] [] (lamScope l_numbered_1) := ⟨rfl, rfl, rfl, by decide +kernel, by decide +kernel, by decide +kernel, by decide +kernel, by decide +kernel⟩
theorem ok_inwN {f c : Addr} {pm ctv : Value} {J : Hp → Prop} (ho : base.get? f = some (PySem.W.kla_obj "<lambda>" q_numbered_0 (lamArgs l_numbered_0) (lamBody l_numbered_0) (lamScope l_numbered_0) [] pm c ctv)) (hJ : ∀ H, J H → H c = some (CodeX c q_numbered_0)) :
    FV P w K mg base CX0 1 f ["form", "around"] (sp_inwN J) := by
  refine ⟨_, _, _, _, fn_lamT (k := 0) (CX := CX0) (fvs := []) (fs := []) ho sl_numbered_0 .nil ?_ ?_ ?_ ?_ ?_, ho, ?_⟩
  · intro x c' h; cases h
  · intro x y c' h1 h2; cases h1
  · intro vs H Q E h
    obtain ⟨a, w, u, ws, av, rfl, _⟩ := h
    rfl
  · intro vs H Q E h
    obtain ⟨a, w, u, ws, av, rfl, _, _, j, _⟩ := h
    exact hJ _ j
  · intro A outer s H vs Q E hr h
    obtain ⟨a, w, u, ws, av, rfl, ha, har, hj, k⟩ := h
    exact ⟨_, (pTup (pa_c (pe_ix ix_tup (pv 0) pe_int (fun _ _ => rfl)) (pa_c (pv 1) pa_nil))), _, rfl, _, _, _, _, rfl, rfl, SqT.of ha, at1, _, rfl, small' (by show 2 ≤ 1000000; decide), fun b9 H9 n9 s9 h9 => k _ _ s9 ⟨b9, av, rfl, h9, har.mono (.of_same s9)⟩⟩
  · exact .all fun us hl => by obtain ⟨a, b, rfl⟩ := len2 hl; rfl
theorem ok_overN {f c : Addr} {pm ctv : Value} (ho : base.get? f = some (PySem.W.kla_obj "<lambda>" q_numbered_1 (lamArgs l_numbered_1) (lamBody l_numbered_1) (lamScope l_numbered_1) [] pm c ctv)) :
    FV P w K mg base CX0 1 f ["body", "around"] (sp_overN fun H => H c = some (CodeX c q_numbered_1)) := by
  refine ⟨_, _, _, _, fn_lamT (k := 0) (CX := CX0) (fvs := []) (fs := []) ho sl_numbered_1 .nil ?_ ?_ ?_ ?_ ?_, ho, ?_⟩
  · intro x c' h; cases h
  · intro x y c' h1 h2; cases h1
  · intro vs H Q E h
    obtain ⟨v, av, b, rfl, _⟩ := h
    rfl
  · intro vs H Q E h
    obtain ⟨v, av, b, rfl, _, j, _⟩ := h
    exact j
  · intro A outer s H vs Q E hr h
    obtain ⟨v, av, b, rfl, ht, hj, k⟩ := h
    exact ⟨_, (pTup (pa_c pe_str (pa_c (pv 0) pa_nil))), _, rfl, small' (by show 2 ≤ 1000000; decide), fun b9 H9 n9 s9 h9 => k _ _ s9 (.form h9 (ht.same s9))⟩
  · exact .all fun us hl => by obtain ⟨a, b, rfl⟩ := len2 hl; rfl
/-- the table of numbered's code: nothing yet, or both -/
abbrev tA (c : Addr) : List Value := [rawInt (lamPos l_numbered_0).line, rawInt (lamPos l_numbered_0).col, .ref c]
abbrev tB2 (d : Addr) : List Value := [rawInt (lamPos l_numbered_1).line, rawInt (lamPos l_numbered_1).col, .ref d]
inductive NumTab (T0 : Addr) (H : Hp) : Prop where
  | empty (h : H T0 = some (.tbl #[]))
  | both (c d : Addr) (h : H T0 = some (.tbl (tA c ++ tB2 d).toArray)) (hc : H c = some (CodeX c q_numbered_0)) (hd : H d = some (CodeX d q_numbered_0))
inductive NumTab1 (T0 c : Addr) (H : Hp) : Prop where
  | one (h : H T0 = some (.tbl (tA c).toArray))
  | two (d : Addr) (h : H T0 = some (.tbl (tA c ++ tB2 d).toArray)) (hd : H d = some (CodeX d q_numbered_0))
theorem NumTab.nl {T0 : Addr} {H H' : Hp} (t : NumTab T0 H) (s : NL H H') : NumTab T0 H' := by
  cases t with
  | empty h => exact .empty (s _ _ (fun _ z => by cases z) h)
  | both c d h hc hd => exact .both c d (s _ _ (fun _ z => by cases z) h) (s _ _ (fun _ z => by cases z) hc) (s _ _ (fun _ z => by cases z) hd)
theorem NumTab1.same {T0 c : Addr} {H H' : Hp} (t : NumTab1 T0 c H) (s : Same H H') : NumTab1 T0 c H' := by
  cases t with
  | one h => exact .one (s _ _ h)
  | two d h hd => exact .two d (s _ _ h) (s _ _ hd)
theorem numA {T0 : Addr} {H : Hp} {Q : VK} (t : NumTab T0 H) (k : ∀ f c H1, H f = none → SameX H H1 → (∀ b, H1 b = none → H b = none) → (∀ Q' : Addr, Q' ≠ T0 → ∀ ps, H Q' = some (.tbl ps) → H1 Q' = some (.tbl ps)) → NumTab1 T0 c H1 → H1 c = some (CodeX c q_numbered_0) → H1 f = some (FnObjL f c q_numbered_0 (lamArgs l_numbered_0) (lamBody l_numbered_0) (lamScope l_numbered_0) []) → Q (.ref f) H1) :
    TLamGI T0 (lamPos l_numbered_0) q_numbered_0 (lamArgs l_numbered_0) (lamBody l_numbered_0) (lamScope l_numbered_0) [] H Q := by
  cases t with
  | empty h =>
    refine .new #[] h trivial rfl fun f c H' nf sx hP hc hf oth => k f c H' nf sx (fun b n => ?_) (fun Q' n ps e => oth Q' n ps e) (.one (by rw [hP]; rfl)) hc hf
    rcases sx.free n with e | ⟨ps, e⟩
    · exact e
    · by_cases hb : b = T0
      · rw [hb, hP] at n; cases n
      · have := oth b hb ps e
        rw [n] at this; cases this
  | both c d h hc hd =>
    exact .old _ c h trivial (by rfl) hc fun f H' nf s hf => k f c H' nf (.of s) (fun b n => s.free n) (fun Q' _ ps e => s _ _ e) (.two d (s _ _ h) (s _ _ hd)) (s _ _ hc) hf
theorem numB {T0 c : Addr} {H : Hp} {Q : VK} (t : NumTab1 T0 c H) (tc : H c = some (CodeX c q_numbered_0)) (k : ∀ f d H1, H f = none → SameX H H1 → (∀ b, H1 b = none → H b = none) → (∀ Q' : Addr, Q' ≠ T0 → ∀ ps, H Q' = some (.tbl ps) → H1 Q' = some (.tbl ps)) → NumTab T0 H1 → H1 d = some (CodeX d q_numbered_1) → H1 f = some (FnObjL f d q_numbered_1 (lamArgs l_numbered_1) (lamBody l_numbered_1) (lamScope l_numbered_1) []) → Q (.ref f) H1) :
    TLamGI T0 (lamPos l_numbered_1) q_numbered_1 (lamArgs l_numbered_1) (lamBody l_numbered_1) (lamScope l_numbered_1) [] H Q := by
  cases t with
  | one h =>
    refine .new _ h trivial (by rfl) fun f d H' nf sx hP hc hf oth => k f d H' nf sx (fun b n => ?_) (fun Q' n ps e => oth Q' n ps e) (.both c d (by rw [hP]; rfl) (sx _ _ (fun _ z => by cases z) tc) hc) hc hf
    rcases sx.free n with e | ⟨ps, e⟩
    · exact e
    · by_cases hb : b = T0
      · rw [hb, hP] at n; cases n
      · have := oth b hb ps e
        rw [n] at this; cases this
  | two d h hd =>
    exact .old _ d h trivial (by rfl) hd fun f H' nf s hf => k f d H' nf (.of s) (fun b n => s.free n) (fun Q' _ ps e => s _ _ e) (.both c d (s _ _ h) (s _ _ tc) (s _ _ hd)) (s _ _ hd) hf
inductive Sp_numberedI (T0 : Addr) (vs : List V) (H : Hp) (Q : VK) : Prop where
  | mk (v : V) (t : NT) (c1 : vs = [v]) (c2 : NamedAt H v t) (c3 : t.size ≤ 1000) (c4 : NumTab T0 H) (c5 : ∀ v' H', SameX H H' → (∀ Q' : Addr, Q' ≠ T0 → ∀ ps, H Q' = some (.tbl ps) → H' Q' = some (.tbl ps)) → NumTab T0 H' → TermAt H' v' t.numbered → Q v' H')
def sp_numbered (T0 : Addr) : Sp := fun vs H Q _ => Sp_numberedI T0 vs H Q
theorem ok_numbered {f c0 T0 ft : Addr} {fd : FuncData} (F : FunC K "numbered" "numbered" s_numbered f fd c0) (hC : PySem.W.codeHdIn K c0 T0 = true) (BB : BltAt base mg) (hm_told : mg "told_by_number" = some (.ref ft))
    (hTold : ∀ base', Larger K mg base base' → FV P w K mg base' CX0 1 ft ["part", "around"] (sp_leafN byNum))
    (G_walk : GB P w K mg base CX0 2 "walk" ["term", "around", "inward"] (sp_walkN 1 P w K mg)) (G_built : GB P w K mg base CX0 2 "built" ["found", "leaf", "over"] (sp_builtN 1 P w K mg)) : FnOk P w K mg base CX0 3 f fd ["term"] (sp_numbered T0) := by
  refine F.ok sc_numbered (fun vs H Q E h => ?_) (fun A outer s H vs Q E hr h => ?_)
  · obtain ⟨v, t, rfl, _⟩ := h
    rfl
  · obtain ⟨v, t, rfl, ht, hsz, tab, k⟩ := h
    refine ⟨_, (pss_cons (ps_set (i := 1) sc_numbered.nd rfl (Or.inl rfl) (pe_ex (E := E0) G_walk (hr.mono (by decide)) rfl (fun _ _ _ _ _ _ _ _ h => h.elim) (pa_c (pv 0) (pa_c pe_non (pa_c (pe_lamG (params := lamArgs l_numbered_0) (body := lamBody l_numbered_0) (scope := lamScope l_numbered_0) (pos := lamPos l_numbered_0) (qual := q_numbered_0) (clos := []) rfl hC BB rfl rfl) pa_nil)))))
      (pss_one (ps_ret (pe_ex (E := E0) G_built (hr.mono (by decide)) rfl (fun _ _ _ _ _ _ _ _ h => h.elim) (pa_c (pv 1) (pa_c (pe_glob (v := .ref ft) rfl hm_told rfl) (pa_c (pe_lamG (params := lamArgs l_numbered_1) (body := lamBody l_numbered_1) (scope := lamScope l_numbered_1) (pos := lamPos l_numbered_1) (qual := q_numbered_1) (clos := []) rfl hC BB rfl rfl) pa_nil))))))), ?_⟩
    show (let V1_ : TS := _; tSeq _ V1_ _ _ _)
    intro V1_
    refine ⟨_, rfl, numA tab fun f c H1 nf sx fr oth1 tab1 hc1 hf1 => ⟨[f], fun b hb => ?_, fun base' lg => ?_⟩⟩
    · rw [List.mem_singleton.mp hb]
      exact goes_lam hf1
    · obtain ⟨pm, ctv, ho⟩ := lg.ext f (by simp) _ hf1
      have ncf : c ∉ [f] := fun z => lg.nocode c z _ hc1
      refine ⟨v, t, [], .non, f, _, fun H => H c = some (CodeX c q_numbered_0), rfl, (ht.mono sx.tups).mono (tups_del lg.only), rfl, by omega, ok_inwN ho (fun _ h => h), fun H' s' => s' _ _ (by rw [delH_ne ncf]; exact hc1), fun l rs H2 s2 nl hl2 hr2 gone => ?_⟩
      have lf : l ∉ [f] := fun z => by rw [gone l z] at hl2; cases hl2
      have tu := tups_add (H := H1) gone
      have s3 : Same H1 (addH H2 H1 [f]) := same_add s2
      have hl3 : addH H2 H1 [f] l = some (.lst rs) := by rw [addH_ne lf]; exact hl2
      have hr3 := paired_imp (fun _ _ h => NPairAt.mono h tu) hr2
      generalize addH H2 H1 [f] = H3 at *
      refine ⟨_, rfl, numB (tab1.same s3) (s3 _ _ hc1) fun f2 d H4 nf2 sx2 fr2 oth2 tab2 hd4 hf4 => ⟨[f2], fun b hb => ?_, fun base2 lg2 => ?_⟩⟩
      · rw [List.mem_singleton.mp hb]
        exact goes_lam hf4
      · obtain ⟨pm2, ctv2, ho2⟩ := lg2.ext f2 (by simp) _ hf4
        have ncd : d ∉ [f2] := fun z => lg2.nocode d z _ hd4
        have tu4 : Tups H3 (delH H4 [f2]) := fun b xs e => tups_del lg2.only _ _ (sx2.tups _ _ e)
        have hl4 : delH H4 [f2] l = some (.lst rs) := by
          rw [delH_ne fun z => by rw [List.mem_singleton.mp z, nf2] at hl3; cases hl3]
          exact sx2.lst hl3
        refine ⟨l, rs, t, [], ft, f2, _, _, fun H => H d = some (CodeX d q_numbered_1), byNum, rfl, hl4, paired_imp (fun _ _ z => NPairAt.mono z tu4) hr3, by show t.size + 0 ≤ 100000; omega, hTold _ lg2.lg, ok_overN ho2, fun H' s' => s' _ _ (by rw [delH_ne ncd]; exact hd4), fun v' H5 s5 hv' gone2 => ?_⟩
        have s6 : Same H4 (addH H5 H4 [f2]) := same_add s5
        exact k v' _ (((sx.trans (.of s3)).trans sx2).trans (.of s6)) (fun Q' n ps e => s6 _ _ (oth2 Q' n ps (s3 _ _ (oth1 Q' n ps e)))) (tab2.nl (.of_same s6)) (hv'.mono (tups_add gone2))
end
end NC
/-! ### a law's own telling by numbers, and other words for forms -/
namespace NC
open PySem PySem.Spec PyProof.Rows L2
/-- a list of words, none of L -/
inductive LsN (L : List Addr) (H : Hp) (v : V) (ws : List Str) : Prop where
  | mk (l : Addr) (c1 : v = .ref l) (c2 : l ∉ L) (c3 : H l = some (.lst (ws.map V.str)))
inductive ItmN (L : List Addr) (H : Hp) (v : V) (q : NT × List Str) : Prop where
  | mk (a : Addr) (tv wv : V) (c1 : v = .ref a) (c2 : H a = some (.tup [tv, wv])) (c3 : NamedAt H tv q.1) (c4 : LsN L H wv q.2)
theorem LsN.keep {L : List Addr} {H H' : Hp} {v : V} {ws : List Str} (h : LsN L H v ws) (k : Keep L H H') : LsN L H' v ws := let ⟨l, e, n, q⟩ := h; ⟨l, e, n, k _ _ n q⟩
theorem ItmN.keep {L : List Addr} {H H' : Hp} {v : V} {q : NT × List Str} (h : ItmN L H v q) (k : Keep L H H') (hL : Lists L H) : ItmN L H' v q :=
  let ⟨a, tv, wv, e, h1, h2, h3⟩ := h
  ⟨a, tv, wv, e, k.tups hL _ _ h1, h2.mono (k.tups hL), h3.keep k⟩
theorem ItmN.fresh {L : List Addr} {H H' : Hp} {v : V} {q : NT × List Str} {p : Addr} (h : ItmN L H v q) (s : Same H H') (n : H p = none) : ItmN [p] H' v q :=
  let ⟨a, tv, wv, e, h1, h2, ⟨l, e2, _, h3⟩⟩ := h
  ⟨a, tv, wv, e, s _ _ h1, h2.same s, ⟨l, e2, (fun z => by rw [List.mem_singleton.mp z, n] at h3; cases h3), s _ _ h3⟩⟩
def pendM (its : List (NT × List Str)) : List (NT × List Str) := its.reverse.flatMap fun q => q.1.lparts q.2
theorem pendM_snoc (its : List (NT × List Str)) (q : NT × List Str) : pendM (its ++ [q]) = q.1.lparts q.2 ++ pendM its := by
  unfold pendM
  rw [List.reverse_append]
  rfl
theorem numAt_idx (w : Str) : ∀ (ws : List Str) (n : Nat), numAt w ws n = if w ∈ ws then .place (n + ws.idxOf w) else .name w
  | [], n => by simp [numAt]
  | u :: ws, n => by
    unfold numAt
    by_cases h : u = w
    · subst h; simp
    · rw [if_neg h, numAt_idx w ws (n + 1)]
      have h' : ¬ w = u := fun z => h z.symm
      have e : (u :: ws).idxOf w = ws.idxOf w + 1 := by
        rw [List.idxOf_cons, beq_false_of_ne h]
        rfl
      rw [e]
      by_cases hm : w ∈ ws
      · rw [if_pos hm, if_pos (List.mem_cons_of_mem _ hm)]
        congr 1
        omega
      · rw [if_neg hm, if_neg (by simp [h', hm])]
theorem byNum_in {w : Str} {ws : List Str} (h : w ∈ ws) : byNum w ws = .place (ws.idxOf w) := by
  unfold byNum
  rw [numAt_idx, if_pos h, Nat.zero_add]
theorem byNum_out {w : Str} {ws : List Str} (h : w ∉ ws) : byNum w ws = .name w := by
  unfold byNum
  rw [numAt_idx, if_neg h]
theorem map_cons {α β : Type} {f : α → β} {S : List α} {x : β} {S' : List β} (h : S.map f = x :: S') : ∃ y R, S = y :: R ∧ f y = x ∧ R.map f = S' := by
  cases S with
  | nil => cases h
  | cons y R =>
    rw [List.map_cons] at h
    injection h with h1 h2
    exact ⟨y, R, rfl, h1, h2⟩
/-- a pile of named terms, the top ahead -/
def NPileAt (H : Hp) (p : Addr) (vs : List V) (S : List NT) : Prop := H p = some (.lst vs) ∧ Paired (NamedAt H) vs S.reverse
theorem NPileAt.pop {H : Hp} {p : Addr} {vs : List V} {S : List NT} {x : NT} (h : NPileAt H p vs (x :: S)) : ∃ vs' v, vs = vs' ++ [v] ∧ NamedAt H v x ∧ Paired (NamedAt H) vs' S.reverse := by
  have q := h.2
  rw [List.reverse_cons] at q
  obtain ⟨vs', v, e, r, tv⟩ := paired_snoc_inv q
  exact ⟨vs', v, e, tv, r⟩
theorem NPileAt.len {H : Hp} {p : Addr} {vs : List V} {S : List NT} (h : NPileAt H p vs S) : vs.length = S.length := by rw [Paired.length h.2, List.length_reverse]
theorem nameds_kp {H H' : Hp} {p : Addr} {vs : List V} {us : List V} {S : List NT} (q : Paired (NamedAt H) us S) (k : Keep [p] H H') (h : H p = some (.lst vs)) : Paired (NamedAt H') us S := nameds_mono q (keep1_tups k h)
section
variable {P : Program} {w : World} {K : PySem.W.Frag} {mg : Str → Option Value} {base : Heap}
seal L2.PE L2.PA L2.PT L2.PS L2.PSs L2.PW L2.PG L2.PGs L2.PI L2.PO L2.OpR L2.UnR L2.CallR L2.TruR L2.IxR L2.SlR
abbrev s__law_counted : Stmt := top 23
theorem sc__law_counted : FnScope ["_law_term", "_law_row", "_law_todo", "_law_part", "_law_words", "_law_pile", "_law_made", "_law_other"] ["_law_term"] (defScope s__law_counted) := ⟨rfl, rfl, rfl, by decide +kernel, rfl, by decide +kernel, by decide +kernel⟩
inductive Sp_countedI (vs : List V) (H : Hp) (Q : VK) : Prop where
  | mk (v : V) (t : NT) (c1 : vs = [v]) (c2 : NamedAt H v t) (c3 : t.size ≤ 100000) (c4 : ∀ v' H', Same H H' → TermAt H' v' t.numbered → Q v' H')
def sp_counted : Sp := fun vs H Q _ => Sp_countedI vs H Q
inductive InvCt1 (H : Hp) (v : V) (t : NT) (f d : Addr) (m : Nat) (σ : L2.St) (H' : Hp) : Prop where
  | mk (its : List (NT × List Str)) (xs fs : List V) (ps : List (NT × List Str)) (x3 x4 : Option V) (c1 : σ = [some v, some (.ref f), some (.ref d), x3, x4, none, none, none]) (c2 : Same H H') (c3 : H' f = some (.lst fs)) (c4 : H' d = some (.lst xs)) (c5 : Paired (ItmN [f, d] H') xs its) (c6 : Paired (ItmN [f, d] H') fs ps) (c7 : ps ++ pendM its = t.lparts []) (c8 : m = sizesQ its) (c9 : sizesQ its ≤ t.size) (c10 : ∀ q ∈ its, q.2.length + q.1.size ≤ t.size)
inductive InvCt2 (H : Hp) (v : V) (t : NT) (f d p : Addr) (rs : List V) (i : Nat) (σ : L2.St) (H' : Hp) : Prop where
  | mk (vs : List V) (S : List Tm) (x3 x4 x6 x7 : Option V) (c1 : σ = [some v, some (.ref f), some (.ref d), x3, x4, some (.ref p), x6, x7]) (c2 : Same H H') (c3 : PileAt H' p vs S) (c4 : H' f = some (.lst rs)) (c5 : Paired (ItmN [p] H') rs (t.lparts [])) (c6 : S.length ≤ i) (c7 : runM byNum ((t.lparts []).reverse.drop i) S = some [t.numbered])
theorem ok__law_counted {f : Addr} {fd : FuncData} (F : Fun K "_law_counted" "_law_counted" s__law_counted f fd) (N_ : NoNames mg) : FnOk P w K mg base CX0 1 f fd ["_law_term"] sp_counted := by
  refine F.ok sc__law_counted (fun vs H Q E h => ?_) (fun cdv A outer s H vs Q E hr h => ?_)
  · obtain ⟨v, t, rfl, _⟩ := h
    rfl
  · obtain ⟨v, t, rfl, ht, hsz, k⟩ := h
    have hu0 := hr.units0
    refine ⟨_, (pss_cons (ps_set (i := 1) sc__law_counted.nd rfl (Or.inl rfl) (pLst pa_nil))
      (pss_cons (ps_set (i := 2) sc__law_counted.nd rfl (Or.inl rfl) (pLst (pa_c (pTup (pa_c (pv 0) (pa_c (pLst pa_nil) pa_nil))) pa_nil)))
      (pss_cons (ps_while PassesOwn.never (pt_cmpR (op_neNil hu0) (pv 2) (pLst pa_nil) (nomark _)) (pss_cons (ps_asg (pPop (pv 2)) (pg_tup rfl (pgs_cons (pg_name (i := 3) sc__law_counted.nd rfl (Or.inl rfl)) (pgs_cons (pg_name (i := 4) sc__law_counted.nd rfl (Or.inl rfl)) pgs_nil))))
      (pss_cons (ps_expr (pApp (pv 1) (pTup (pa_c (pv 3) (pa_c (pv 4) pa_nil)))))
      (pss_cons (ps_if (pt_cmpR op_eq (pe_ix ix_tup (pv 3) pe_int (fun _ _ => rfl)) pe_str (nomark _)) (pss_one (ps_expr (pApp (pv 2) (pTup (pa_c (pe_ix ix_tup (pv 3) pe_int (fun _ _ => rfl)) (pa_c (pe_op op_ct (pLst (pa_c (pe_ix ix_tup (pv 3) pe_int (fun _ _ => rfl)) pa_nil)) (pv 4)) pa_nil)))))) pss_nil)
      (pss_one (ps_if (pt_cmpR op_eq (pe_ix ix_tup (pv 3) pe_int (fun _ _ => rfl)) pe_str (nomark _)) (pss_cons (ps_expr (pApp (pv 2) (pTup (pa_c (pe_ix ix_tup (pv 3) pe_int (fun _ _ => rfl)) (pa_c (pv 4) pa_nil)))))
      (pss_one (ps_expr (pApp (pv 2) (pTup (pa_c (pe_ix ix_tup (pv 3) pe_int (fun _ _ => rfl)) (pa_c (pv 4) pa_nil))))))) pss_nil))))))
      (pss_cons (ps_set (i := 5) sc__law_counted.nd rfl (Or.inl rfl) (pLst pa_nil))
      (pss_cons (ps_for PassesOwn.never rfl (pi_rev rfl N_.reversed (pv 1)) (pg_tup rfl (pgs_cons (pg_name (i := 3) sc__law_counted.nd rfl (Or.inl rfl)) (pgs_cons (pg_name (i := 4) sc__law_counted.nd rfl (Or.inl rfl)) pgs_nil))) (pss_cons (ps_set (i := 6) sc__law_counted.nd rfl (Or.inl rfl) (pv 3))
      (pss_cons (ps_if (pt_cmpR op_eq (pe_ix ix_tup (pv 3) pe_int (fun _ _ => rfl)) pe_str (nomark _)) (pss_one (ps_set (i := 6) sc__law_counted.nd rfl (Or.inl rfl) (pTup (pa_c pe_str (pa_c (pPop (pv 5)) pa_nil))))) (pss_one (ps_if (pt_cmpR op_eq (pe_ix ix_tup (pv 3) pe_int (fun _ _ => rfl)) pe_str (nomark _)) (pss_cons (ps_set (i := 7) sc__law_counted.nd rfl (Or.inl rfl) (pPop (pv 5)))
      (pss_one (ps_set (i := 6) sc__law_counted.nd rfl (Or.inl rfl) (pTup (pa_c pe_str (pa_c (pPop (pv 5)) (pa_c (pv 7) pa_nil))))))) (pss_one (ps_if (pt_cmpR op_in_txt (pe_ix ix_tup (pv 3) pe_int (fun _ _ => rfl)) (pv 4) rfl) (pss_one (ps_set (i := 6) sc__law_counted.nd rfl (Or.inl rfl) (pTup (pa_c pe_str (pa_c (pIdx (pv 4) (pe_ix ix_tup (pv 3) pe_int (fun _ _ => rfl))) pa_nil))))) pss_nil)))))
      (pss_one (ps_expr (pApp (pv 5) (pv 6)))))))
      (pss_one (ps_ret (pe_ix ix_list (pv 5) pe_int (fun _ _ => rfl))))))))), ?_⟩
    show (let V1_ : TS := _; let V2_ : TS := _; let V3_ : TS := _; let V4_ : TS := _; let V5_ : TS := tSeq _ V4_; let V6_ : TS := _; let V7_ : TS := tIfS _ V6_ _; let V8_ : TS := tIfS _ V5_ V7_; let V9_ : TS := tSeq (tIfS _ V3_ V8_) V2_; let V10_ : TS := tSeq _ V9_; let V11_ : TS := tSeq (tFor _ _ V10_) V1_; let V12_ : TS := tSeq _ V11_; let V13_ : TS := _; let V14_ : TS := tSeq _ V13_; let V15_ : TS := tIfS _ V14_ _; let V16_ : TS := _; let V17_ : TS := tSeq (tIfS _ V16_ _) V15_; let V18_ : TS := tSeq _ V17_; let V19_ : TS := tSeq _ V18_; let V20_ : TS := tSeq (tWhile _ V19_) V12_; let V21_ : TS := tSeq _ V20_; tSeq _ V21_ _ _ _)
    intro V1_ V2_ V3_ V4_ V5_ V6_ V7_ V8_ V9_ V10_ V11_ V12_ V13_ V14_ V15_ V16_ V17_ V18_ V19_ V20_ V21_
    refine ⟨small' (by simp), fun f H1 nf s1 hf1 => ⟨_, rfl, small' (by simp), fun pl H2 npl s2 hpl2 => ⟨small' (by simp), fun q H3 nq s3 hq3 => ⟨small' (by simp), fun d H4 nd s4 hd4 => ?_⟩⟩⟩⟩
    have s04 : Same H H4 := ((s1.trans s2).trans s3).trans s4
    have hf4 : H4 f = some (.lst []) := s4 _ _ (s3 _ _ (s2 _ _ hf1))
    have nfd : f ≠ d := ne_of_none (s3 _ _ (s2 _ _ hf1)) nd
    have hpl3 := s3 _ _ hpl2
    have n_f : H f = none := nf
    have n_d : H d = none := (s1.trans (s2.trans s3)).free nd
    have nL : ∀ x ∈ [f, d], H x = none := fun x hx => by
      rcases List.mem_cons.mp hx with e | hx
      · rw [e]; exact n_f
      · rw [List.mem_singleton.mp hx]; exact n_d
    have plf : pl ≠ f := (ne_of_none hf1 npl).symm
    have pld : pl ≠ d := ne_of_none hpl3 nd
    refine ⟨InvCt1 H v t f d, ⟨sizesQ [(t, [])], ?_⟩, ?_⟩
    · refine ⟨[(t, [])], [.ref q], [], [], none, none, rfl, s04, hf4, hd4, .cons ⟨q, v, .ref pl, rfl, s4 _ _ hq3, ht.same s04, pl, rfl, by simp [plf, pld], s4 _ _ hpl3⟩ .nil, .nil, ?_, rfl, ?_, ?_⟩
      · show [] ++ (t.lparts [] ++ []) = _
        rw [List.append_nil, List.nil_append]
      · show t.size + 0 ≤ t.size
        omega
      · intro q hq
        rw [List.mem_singleton.mp hq]
        show 0 + t.size ≤ t.size
        omega
    · rintro m σ H5 ⟨its, xs, fs, ps, x3, x4, rfl, s5, hf5, hd5, hit, hps, heq, rfl, hsum, hall⟩
      refine ⟨_, rfl, small' (by simp), fun e0 H5' ne0 s5' he0 => ⟨_, _, _, rfl, rfl, SqL.of (s5' _ _ hd5), SqL.of he0, _, rfl, ?_⟩⟩
      have hf5' := s5' _ _ hf5
      have hd5' := s5' _ _ hd5
      have K5 : Keep [f, d] H5 H5' := Keep.of_same s5'
      have hL0 := lists2 hf5 hd5
      have hit := paired_imp (fun a b h => ItmN.keep h K5 hL0) hit
      have hps := paired_imp (fun a b h => ItmN.keep h K5 hL0) hps
      have s5 := s5.trans s5'
      clear hf5 hd5 hL0 K5
      by_cases hnil : its = []
      · subst hnil
        cases paired_nil hit
        have e : ps = t.lparts [] := by
          rw [← heq]
          unfold pendM
          simp
        subst e
        clear heq hsum hall
        refine iteF ?_
        refine ⟨small' (by simp), fun p H6 np s6 hp6 => ?_⟩
        have n_p : H p = none := s5.free np
        have hr6 := paired_imp (fun _ _ z => ItmN.fresh z s6 np) hps
        have hf6 := s6 _ _ hf5'
        have npf : p ≠ f := (ne_of_none hf5' np).symm
        clear hps hit
        have hlen : fs.length = t.size := by rw [Paired.length hr6, nlparts_len]
        refine ⟨_, rfl, f, fs, rfl, SqL.of hf6, for_rev (K := K) (a := f) (xs := fs) (InvCt2 H v t f d p fs) ?_ ?_ ?_ ?_⟩
        · exact ⟨[], [], _, _, _, _, rfl, s5.trans s6, ⟨hp6, .nil⟩, hf6, hr6, Nat.le_refl _, runM_all t []⟩
        · rintro i σ H' _ ⟨_, _, _, _, _, _, _, _, _, h, _⟩
          exact SqL.of h
        · rintro i x σ H3 hi ⟨vs, S, x3, x4, x6, x7, rfl, s3, hp3, hf3, hr3, hS, hrun⟩
          obtain ⟨⟨t1, k1⟩, hi2, a, tv, wv, rfl, ha, htv, hwv⟩ := paired_get (paired_rev hr3) hi
          have htv : NamedAt H3 tv t1 := htv
          obtain ⟨l, rfl, nlp, hl⟩ : LsN [p] H3 wv k1 := hwv
          have hlt : i < t.size := by
            have := (List.getElem?_eq_some_iff.mp hi).1
            rw [List.length_reverse] at this
            omega
          have hd : (t.lparts []).reverse.drop i = (t1, k1) :: (t.lparts []).reverse.drop (i + 1) := by
            rw [List.drop_eq_getElem_cons (List.getElem?_eq_some_iff.mp hi2).1, (List.getElem?_eq_some_iff.mp hi2).2]
          rw [hd] at hrun
          refine ⟨a, _, rfl, SqT.of ha, rfl, _, _, rfl, _, _, rfl, rfl, ?_⟩
          refine ⟨_, rfl, ?_⟩
          have hL3 : Lists [p] H3 := fun x hx => ⟨vs, by rw [List.mem_singleton.mp hx]; exact hp3.1⟩
          -- pile.append(made)
          have fin : ∀ {H7 : Hp} {vs7 : List V} {S7 : List Tm} {u : V} {y : Tm} {x7 : Option V}, Keep [p] H3 H7 → H7 p = some (.lst vs7) → Paired (TermAt H7) vs7 S7.reverse → TermAt H7 u y → S7.length ≤ i → runM byNum ((t.lparts []).reverse.drop (i + 1)) (y :: S7) = some [t.numbered] →
              ∀ H8, Keep [p] H7 H8 → H8 p = some (.lst (vs7 ++ [u])) → InvCt2 H v t f d p fs (i + 1) [some v, some (.ref f), some (.ref d), some tv, some (.ref l), some (.ref p), some u, x7] H8 := by
            intro H7 vs7 S7 u y x7 k7 hp7 q7 hu hS7 hrun7 H8 k8 hp8
            have k38 := k7.trans k8
            refine ⟨_, y :: S7, _, _, _, _, rfl, same_keep1 s3 k38 n_p, ⟨hp8, ?_⟩, k38.at hf3 npf.symm, paired_imp (fun _ _ z => ItmN.keep z k38 hL3) hr3, by rw [List.length_cons]; omega, hrun7⟩
            rw [List.reverse_cons]
            exact paired_snoc (hu.mono (keep1_tups k8 hp7)) (terms_kp q7 k8 hp7)
          cases htv with
          | @name a1 w1 h =>
            refine ⟨_, rfl, _, _, _, _, rfl, rfl, SqT.of h, at0, rfl, _, rfl, ifF n_nf ⟨_, rfl, _, _, _, _, rfl, rfl, SqT.of h, at0, rfl, _, rfl, ifF n_nc ⟨_, rfl, _, _, _, _, rfl, rfl, SqT.of h, at1, _, rfl, l, k1, w1, rfl, rfl, hl, _, rfl, ifD (fun hin => ?_) (fun hout => ?_)⟩⟩⟩
            · refine ⟨_, rfl, Or.inl ⟨rfl, _, SqL.of hl⟩, _, rfl, _, _, _, _, rfl, rfl, SqT.of h, at1, l, k1, w1, rfl, rfl, hl, hin, small' (by show 2 ≤ 1000000; decide), fun b9 H9 n9 s9 h9 => ?_⟩
              have hp9 := s9 _ _ hp3.1
              refine ⟨_, rfl, Or.inl ⟨rfl, _, SqL.of hp9⟩, _, rfl, _, _, _, rfl, rfl, hp9, small (by have := hp3.len; omega), fun H8 k8 hp8 => ?_⟩
              refine fin (Keep.of_same s9) hp9 (paired_imp (fun _ _ q => q.same s9) hp3.2) (.place (n := k1.idxOf w1) h9) hS ?_ H8 k8 hp8
              rw [← byNum_in hin]
              exact hrun
            · refine ⟨_, rfl, Or.inl ⟨rfl, _, SqL.of hp3.1⟩, _, rfl, _, _, _, rfl, rfl, hp3.1, small (by have := hp3.len; omega), fun H8 k8 hp8 => ?_⟩
              refine fin (Keep.refl _ _) hp3.1 hp3.2 (.name h) hS ?_ H8 k8 hp8
              rw [← byNum_out hout]
              exact hrun
          | @form a1 fw bv b h hb =>
            obtain ⟨x, S', rfl, hrun⟩ := runM_form hrun
            obtain ⟨vs', u, rfl, hu, hv'⟩ := hp3.pop
            refine ⟨_, rfl, _, _, _, _, rfl, rfl, SqT.of h, at0, rfl, _, rfl, ifT rfl ?_⟩
            refine ⟨_, rfl, Or.inl ⟨rfl, _, SqL.of hp3.1⟩, p, vs', u, rfl, rfl, hp3.1, fun H6 k6 hp6 => ⟨small' (by show 2 ≤ 1000000; decide), fun b9 H9 n9 s9 h9 => ?_⟩⟩
            have hp9 := s9 _ _ hp6
            have k39 := k6.trans (Keep.of_same s9)
            have ln := hp3.len
            rw [List.length_append, List.length_singleton, List.length_cons] at ln
            rw [List.length_cons] at hS
            refine ⟨_, rfl, Or.inl ⟨rfl, _, SqL.of hp9⟩, _, rfl, _, _, _, rfl, rfl, hp9, small (by omega), fun H8 k8 hp8 => ?_⟩
            exact fin k39 hp9 (terms_kp hv' k39 hp3.1) (.form h9 (hu.mono (keep1_tups k39 hp3.1))) (by omega) hrun H8 k8 hp8
          | @call a1 xv yv x y h hx hy =>
            obtain ⟨y, x, S', rfl, hrun⟩ := runM_call hrun
            obtain ⟨vs1, u, rfl, hu, hv1⟩ := hp3.pop
            refine ⟨_, rfl, _, _, _, _, rfl, rfl, SqT.of h, at0, rfl, _, rfl, ifF n_cf ⟨_, rfl, _, _, _, _, rfl, rfl, SqT.of h, at0, rfl, _, rfl, ifT rfl ?_⟩⟩
            refine ⟨_, rfl, Or.inl ⟨rfl, _, SqL.of hp3.1⟩, p, vs1, u, rfl, rfl, hp3.1, fun H6 k6 hp6 => ?_⟩
            have P6 : PileAt H6 p vs1 (x :: S') := ⟨hp6, terms_kp hv1 k6 hp3.1⟩
            obtain ⟨vs', z, rfl, hz, hv'⟩ := P6.pop
            refine ⟨_, rfl, Or.inl ⟨rfl, _, SqL.of hp6⟩, p, vs', z, rfl, rfl, hp6, fun H7 k7 hp7 => ⟨_, rfl, small' (by show 3 ≤ 1000000; decide), fun b9 H9 n9 s9 h9 => ?_⟩⟩
            have hp9 := s9 _ _ hp7
            have k69 := k7.trans (Keep.of_same s9)
            have k39 := k6.trans k69
            have ln := hp3.len
            rw [List.length_append, List.length_append, List.length_singleton, List.length_singleton, List.length_cons, List.length_cons] at ln
            rw [List.length_cons, List.length_cons] at hS
            refine ⟨_, rfl, Or.inl ⟨rfl, _, SqL.of hp9⟩, _, rfl, _, _, _, rfl, rfl, hp9, small (by omega), fun H8 k8 hp8 => ?_⟩
            exact fin k39 hp9 (terms_kp hv' k69 hp6) (.call h9 (hz.mono (keep1_tups k69 hp6)) (hu.mono (keep1_tups k39 hp3.1))) (by omega) hrun H8 k8 hp8
        · rintro σ H3 ⟨vs, S, x3, x4, x6, x7, rfl, s3, hp3, hf3, hr3, hS, hrun⟩
          rw [List.drop_eq_nil_of_le (by rw [List.length_reverse, nlparts_len, hlen]; exact Nat.le_refl _)] at hrun
          cases (Option.some.inj hrun)
          obtain ⟨vs', u, rfl, hu, hv'⟩ := hp3.pop
          cases paired_nil hv'
          exact ⟨_, rfl, _, _, _, _, rfl, rfl, SqL.of hp3.1, at0, k u H3 s3 hu⟩
      · obtain ⟨its', ⟨t1, p1⟩, rfl⟩ := snoc_of hnil
        obtain ⟨xs', x, rfl, hit', a, tv, wv, rfl, ha, htv, hwv⟩ := paired_snoc_inv hit
        have htv : NamedAt H5' tv t1 := htv
        have hwv : LsN [f, d] H5' wv p1 := hwv
        rw [show (if true = true then !(xs' ++ [V.ref a]).isEmpty else (xs' ++ [V.ref a]).isEmpty) = true by simp]
        refine iteT ⟨fun σ' H' => ∃ m', m' < sizesQ (its' ++ [(t1, p1)]) ∧ InvCt1 H v t f d m' σ' H', fun _ _ h => h, ?_⟩
        refine ⟨_, rfl, Or.inl ⟨rfl, _, SqL.of hd5'⟩, d, xs', .ref a, rfl, rfl, hd5', fun H6 k6 hd6 => ?_⟩
        have hL := lists2 hf5' hd5'
        have K6 : Keep [f, d] H5' H6 := k6.sub (by simp)
        have tu6 := K6.tups hL
        have ha6 := tu6 _ _ ha
        have htv6 := htv.mono tu6
        obtain ⟨l, rfl, nl, hl6⟩ := hwv.keep K6
        have hf6 : H6 f = some (.lst fs) := k6.at hf5' nfd
        have s6 : Same H H6 := same_keep s5 K6 nL
        have it6 := paired_imp (fun a b h => ItmN.keep h K6 hL) hit'
        have ps6 := paired_imp (fun a b h => ItmN.keep h K6 hL) hps
        have hL6 := lists2 hf6 hd6
        rw [pendM_snoc] at heq
        rw [sizesQ_snoc] at hsum
        rw [sizesQ_snoc]
        have hall' : ∀ q ∈ its', q.2.length + q.1.size ≤ t.size := fun q hq => hall q (List.mem_append_left _ hq)
        have hq1 : p1.length + t1.size ≤ t.size := hall (t1, p1) (by simp)
        have hs1 : sizesQ its' + t1.size ≤ t.size := hsum
        have hxl : xs'.length ≤ t.size := by
          rw [Paired.length it6]
          have := len_sizesQ its'
          omega
        have hfl : fs.length ≤ t.size := by
          rw [Paired.length ps6]
          have h1 := congrArg List.length heq
          rw [List.length_append, nlparts_len] at h1
          omega
        refine ⟨a, _, rfl, SqT.of ha6, rfl, _, _, rfl, _, _, rfl, rfl, ?_⟩
        have heq : ps ++ (t1.lparts p1 ++ pendM its') = t.lparts [] := heq
        -- row.append((part, words))
        refine ⟨_, rfl, Or.inl ⟨rfl, _, SqL.of hf6⟩, _, rfl, _, rfl, small' (by show 2 ≤ 1000000; decide), fun r7 H6a n7 s7a h7 => ⟨_, _, _, rfl, rfl, s7a _ _ hf6, small (by omega), fun H7 k7 hf7 => ?_⟩⟩
        have K7 : Keep [f, d] H6 H7 := (Keep.of_same s7a).trans (k7.sub (by simp))
        have hd7 : H7 d = some (.lst xs') := k7.at (s7a _ _ hd6) nfd.symm
        have tu7 := K7.tups hL6
        have htv7 := htv6.mono tu7
        have hl7 := K7 _ _ nl hl6
        have s7 : Same H H7 := same_keep s6 K7 nL
        have it7 := paired_imp (fun a b h => ItmN.keep h K7 hL6) it6
        have ps7 := paired_snoc (x := V.ref r7) (y := (t1, p1)) ⟨r7, tv, .ref l, rfl, k7.tup1 (s7a _ _ hf6) _ _ h7, htv7, l, rfl, nl, hl7⟩ (paired_imp (fun a b h => ItmN.keep h K7 hL6) ps6)
        have hL7 := lists2 hf7 hd7
        clear htv6
        cases htv7 with
        | name h =>
          refine ⟨_, rfl, _, _, _, _, rfl, rfl, SqT.of h, at0, rfl, _, rfl, ifF n_nf ⟨_, rfl, _, _, _, _, rfl, rfl, SqT.of h, at0, rfl, _, rfl, ifF n_nc ?_⟩⟩
          refine ⟨_, by show sizesQ its' < sizesQ its' + 1; omega, its', xs', _, _, _, _, rfl, s7, hf7, hd7, it7, ps7, ?_, rfl, by omega, hall'⟩
          rw [List.append_assoc]; exact heq
        | @form a1 fw bv b h hb =>
          have hbs : NT.size (.form fw b) = b.size + 1 := rfl
          refine ⟨_, rfl, _, _, _, _, rfl, rfl, SqT.of h, at0, rfl, _, rfl, ifT rfl ?_⟩
          refine ⟨_, rfl, Or.inl ⟨rfl, _, SqL.of hd7⟩, _, rfl, _, _, _, _, rfl, rfl, SqT.of h, at2, _, rfl, _, _, _, _, rfl, rfl, SqT.of h, at1, small' (by show 1 ≤ 1000000; decide), fun b7 H8 n8 s8 h8 => ⟨_, rfl, _, _, _, _, rfl, rfl, h8, s8 _ _ hl7, small' (by rw [List.length_map]; show 1 + p1.length ≤ _; omega), fun b8 H8b n8b s8b h8b => ⟨small' (by show 2 ≤ 1000000; decide), fun b9 H9 n9 s9' h9 => ⟨_, _, _, rfl, rfl, s9' _ _ (s8b _ _ (s8 _ _ hd7)), small (by omega), fun H10 k10 hd10 => ?_⟩⟩⟩⟩
          have s9 := (s8.trans s8b).trans s9'
          have K10 : Keep [f, d] H7 H10 := (Keep.of_same s9).trans (k10.sub (by simp))
          have tu10 := K10.tups hL7
          have n8f : b8 ≠ f := (ne_of_none (s8 _ _ hf7) n8b).symm
          have n8d : b8 ≠ d := (ne_of_none (s8 _ _ hd7) n8b).symm
          refine ⟨_, rfl, _, _, _, _, rfl, rfl, SqT.of (tu10 _ _ h), at0, rfl, _, rfl, ifF n_fc ?_⟩
          refine ⟨_, ?_, its' ++ [(b, fw :: p1)], _, _, _, _, _, rfl, same_keep s7 K10 nL, k10.at (s9 _ _ hf7) nfd, hd10, paired_snoc ⟨b9, bv, .ref b8, rfl, k10.tup1 (s9 _ _ hd7) _ _ h9, hb.mono tu10, b8, rfl, by simp [n8f, n8d], k10.at (s9' _ _ h8b) n8d⟩ (paired_imp (fun a b h => ItmN.keep h K10 hL7) it7), paired_imp (fun a b h => ItmN.keep h K10 hL7) ps7, ?_, rfl, ?_, fun q hq => ?_⟩
          · rw [sizesQ_snoc]; show sizesQ its' + b.size < sizesQ its' + (b.size + 1); omega
          · rw [pendM_snoc, List.append_assoc]; exact heq
          · rw [sizesQ_snoc]; show sizesQ its' + b.size ≤ t.size; omega
          · rcases List.mem_append.mp hq with hq | hq
            · exact hall' q hq
            · rw [List.mem_singleton.mp hq]; show p1.length + 1 + b.size ≤ t.size; omega
        | @call a1 xv yv x y h hx hy =>
          have hcs : NT.size (.call x y) = x.size + y.size + 1 := rfl
          refine ⟨_, rfl, _, _, _, _, rfl, rfl, SqT.of h, at0, rfl, _, rfl, ifF n_cf ⟨_, rfl, _, _, _, _, rfl, rfl, SqT.of h, at0, rfl, _, rfl, ifT rfl ?_⟩⟩
          refine ⟨_, rfl, Or.inl ⟨rfl, _, SqL.of hd7⟩, _, rfl, _, _, _, _, rfl, rfl, SqT.of h, at1, _, rfl, small' (by show 2 ≤ 1000000; decide), fun b9 H9 n9 s9 h9 => ⟨_, _, _, rfl, rfl, s9 _ _ hd7, small (by omega), fun H10 k10 hd10 => ?_⟩⟩
          have K10 : Keep [f, d] H7 H10 := (Keep.of_same s9).trans (k10.sub (by simp))
          have tu10 := K10.tups hL7
          have hf10 := k10.at (s9 _ _ hf7) nfd
          have hL10 := lists2 hf10 hd10
          have hl10 := K10 _ _ nl hl7
          have it10 := paired_snoc (x := V.ref b9) (y := (x, p1)) ⟨b9, xv, .ref l, rfl, k10.tup1 (s9 _ _ hd7) _ _ h9, hx.mono tu10, l, rfl, nl, hl10⟩ (paired_imp (fun a b h => ItmN.keep h K10 hL7) it7)
          refine ⟨_, rfl, Or.inl ⟨rfl, _, SqL.of hd10⟩, _, rfl, _, _, _, _, rfl, rfl, SqT.of (tu10 _ _ h), at2, _, rfl, small' (by show 2 ≤ 1000000; decide), fun c9 H11 m9 s11 g9 => ⟨_, _, _, rfl, rfl, s11 _ _ hd10, small (by rw [List.length_append, List.length_singleton]; omega), fun H12 k12 hd12 => ?_⟩⟩
          have K12 : Keep [f, d] H10 H12 := (Keep.of_same s11).trans (k12.sub (by simp))
          have tu12 := K12.tups hL10
          refine ⟨_, ?_, (its' ++ [(x, p1)]) ++ [(y, p1)], _, _, _, _, _, rfl, same_keep s7 (K10.trans K12) nL, k12.at (s11 _ _ hf10) nfd, hd12, paired_snoc ⟨c9, yv, .ref l, rfl, k12.tup1 (s11 _ _ hd10) _ _ g9, (hy.mono tu10).mono tu12, l, rfl, nl, K12 _ _ nl hl10⟩ (paired_imp (fun a b h => ItmN.keep h K12 hL10) it10), paired_imp (fun a b h => ItmN.keep (ItmN.keep h K10 hL7) K12 hL10) ps7, ?_, rfl, ?_, fun q hq => ?_⟩
          · rw [sizesQ_snoc, sizesQ_snoc]; show sizesQ its' + x.size + y.size < sizesQ its' + (x.size + y.size + 1); omega
          · rw [pendM_snoc, pendM_snoc, List.append_assoc]
            show ps ++ ((.call x y, p1) :: (y.lparts p1 ++ (x.lparts p1 ++ pendM its'))) = _
            rw [← heq]
            show _ = ps ++ ((.call x y, p1) :: (y.lparts p1 ++ x.lparts p1) ++ pendM its')
            simp
          · rw [sizesQ_snoc, sizesQ_snoc]; show sizesQ its' + x.size + y.size ≤ _; omega
          · rcases List.mem_append.mp hq with hq | hq
            · rcases List.mem_append.mp hq with hq | hq
              · exact hall' q hq
              · rw [List.mem_singleton.mp hq]; show p1.length + x.size ≤ t.size; omega
            · rw [List.mem_singleton.mp hq]; show p1.length + y.size ≤ t.size; omega
end
end NC
/-! ### a law's named terms and their lines -/
namespace NC
open PySem PySem.Spec PyProof.Rows L2
section
variable {P : Program} {w : World} {K : PySem.W.Frag} {mg : Str → Option Value} {base : Heap}
seal L2.PE L2.PA L2.PT L2.PS L2.PSs L2.PW L2.PG L2.PGs L2.PI L2.PO L2.OpR L2.UnR L2.CallR L2.TruR L2.IxR L2.SlR
def sp_any_wordF : Sp := fun vs H Q _ => ∃ c, vs = [.int c] ∧ Q (.str (anyW c)) H
theorem letters_at {i : Nat} (h : i < 26) : (Str.ofString "abcdefghijklmnopqrstuvwxyz").cps.toList[i]? = some (97 + i) := by
  have : ∀ i : Fin 26, (Str.ofString "abcdefghijklmnopqrstuvwxyz").cps.toList[i.val]? = some (97 + i.val) := by decide +kernel
  exact this ⟨i, h⟩
theorem ok_any_wordF {f : Addr} {fd : FuncData} (F : Fun K "_law_any_word" "_law_any_word" s__law_any_word f fd) (N_ : NoNames mg) : FnOk P w K mg base CX0 1 f fd ["_law_cell"] sp_any_wordF := by
  refine F.ok sc__law_any_word (fun vs H Q E h => ?_) (fun cdv A outer s H vs Q E hr h => ?_)
  · obtain ⟨c, rfl, _⟩ := h
    rfl
  · obtain ⟨c, rfl, k⟩ := h
    refine ⟨_, (pss_cons (ps_set (i := 1) sc__law_any_word.nd rfl (Or.inl rfl) (pe_op op_mod (pCB call_abs (by rfl) N_.abs boot_abs (pa_c (pv 0) pa_nil)) (pe_op op_pow pe_int pe_int)))
      (pss_cons (ps_set (i := 2) sc__law_any_word.nd rfl (Or.inl rfl) pe_str)
      (pss_cons (ps_while PassesOwn.never (pt_cmpR op_ge (pv 1) pe_int (nomark _)) (pss_cons (ps_set (i := 2) sc__law_any_word.nd rfl (Or.inl rfl) (pe_op op_add_str (pe_ix ix_str pe_str (pe_op op_mod (pv 1) pe_int) (fun _ _ => rfl)) (pv 2)))
      (pss_one (ps_set (i := 1) sc__law_any_word.nd rfl (Or.inl rfl) (pe_op op_sub (pe_op op_fdiv (pv 1) pe_int) pe_int)))))
      (pss_one (ps_ret (pv 2)))))), ?_⟩
    show (let V1_ : TS := _; let V2_ : TS := _; let V3_ : TS := tSeq _ V2_; let V4_ : TS := tSeq (tWhile _ V3_) V1_; let V5_ : TS := tSeq _ V4_; tSeq _ V5_ _ _ _)
    intro V1_ V2_ V3_ V4_ V5_
    refine ⟨_, rfl, _, rfl, _, _, rfl, rfl, ⟨by decide, by decide, by decide⟩, _, _, rfl, rfl, (show (0 : Int) < 10 ^ (39 : Int).toNat by decide +kernel), ?_⟩
    obtain ⟨M, hM⟩ : ∃ M, ((if c < 0 then -c else c) % (10 : Int) ^ ((39 : Int).toNat)) = M := ⟨_, rfl⟩
    have hM0 : 0 ≤ M := by rw [← hM]; exact Int.emod_nonneg _ (by decide +kernel)
    have hM1 : M < 10 ^ 39 := by rw [← hM]; exact Int.emod_lt_of_pos _ (by decide +kernel)
    have hany : anyW c = goW (M.toNat + 1) (Str.ofString "") := by unfold anyW; rw [hM]
    refine ⟨fun m σ H' => ∃ (n : Nat) (w : Str), σ = [some (.int c), some (.int ((m : Int) - 1)), some (.str w)] ∧ H' = H ∧ w.length = n ∧ 26 ^ n * m ≤ 10 ^ 39 ∧ goW m w = anyW c ∧ (∀ z ∈ w.cps.toList, 97 ≤ z ∧ z ≤ 122) ∧ (1 ≤ n ∨ 1 ≤ m) ∧ n ≤ 100, ⟨M.toNat + 1, 0, "", ?_, rfl, rfl, ?_, hany.symm, ?_, .inr (by omega), by decide⟩, ?_⟩
    · have e : ((M.toNat + 1 : Nat) : Int) - 1 = M := by omega
      rw [e, ← hM]
      rfl
    · have : M.toNat + 1 ≤ 10 ^ 39 := by omega
      simpa using this
    · intro z hz
      have e : (Str.ofString "").cps.toList = [] := by decide +kernel
      rw [e] at hz
      cases hz
    · rintro m σ H' ⟨n, w, rfl, rfl, hn, hb, hg, hlet, hpos, hn1⟩
      refine ⟨_, rfl, _, _, rfl, rfl, _, rfl, ifD (fun hc => ?_) (fun hc => ⟨_, rfl, ?_⟩)⟩
      · have hm : 1 ≤ m := by omega
        have hn28 := word_bound hb hm
        refine ⟨fun σ' H'' => ∃ m', m' < m ∧ ∃ (n : Nat) (w : Str), σ' = [some (.int c), some (.int ((m' : Int) - 1)), some (.str w)] ∧ H'' = H' ∧ w.length = n ∧ 26 ^ n * m' ≤ 10 ^ 39 ∧ goW m' w = anyW c ∧ (∀ z ∈ w.cps.toList, 97 ≤ z ∧ z ≤ 122) ∧ (1 ≤ n ∨ 1 ≤ m') ∧ n ≤ 100, fun _ _ h => h, ?_⟩
        have hch : atI (Str.ofString "abcdefghijklmnopqrstuvwxyz").cps.toList (((m : Int) - 1) % 26) = some (97 + (m - 1) % 26) := by
          rw [show ((m : Int) - 1) % 26 = (((m - 1) % 26 : Nat) : Int) by omega]
          exact atI_nat (letters_at (by omega))
        refine ⟨_, rfl, _, _, rfl, rfl, (show (0 : Int) < 26 by decide), _, _, _, rfl, rfl, small' (by decide +kernel), hch, _, rfl, _, _, rfl, rfl, small' (by rw [hn]; show 1 + n ≤ _; omega), ?_⟩
        refine ⟨_, rfl, _, _, rfl, rfl, ⟨by decide, by decide⟩, _, _, rfl, rfl, ?_⟩
        refine ⟨(m - 1) / 26, by omega, n + 1, ⟨#[97 + (m - 1) % 26]⟩ ++ w, ?_, rfl, ?_, ?_, ?_, wd_any _ (by omega) (by omega) hlet, .inl (by omega), by omega⟩
        · have e : ((m : Int) - 1) / 26 - 1 = (((m - 1) / 26 : Nat) : Int) - 1 := by omega
          rw [← e]
          rfl
        · rw [Str.length_append, hn]
          show 1 + n = n + 1
          omega
        · have h1 : 26 ^ (n + 1) * ((m - 1) / 26) = 26 ^ n * (26 * ((m - 1) / 26)) := by rw [Nat.pow_succ, Nat.mul_assoc]
          rw [h1]
          refine Nat.le_trans (Nat.mul_le_mul_left _ ?_) hb
          omega
        · exact (goW_pos (by omega) w).symm.trans hg
      · have hm : m = 0 := by omega
        subst hm
        rw [goW_zero] at hg
        subst hg
        exact k
abbrev s__law_wordy : Stmt := top 22
theorem sc__law_wordy : FnScope ["_law_cells", "_law_pile", "_law_j", "_law_cell", "_law_way", "_law_letter", "_law_word", "_law_inner", "_law_other", "_law_one"] ["_law_cells"] (defScope s__law_wordy) := ⟨rfl, rfl, rfl, by decide +kernel, rfl, by decide +kernel, by decide +kernel⟩
def sp_wordy (K : PySem.W.Frag) : Sp := fun vs H Q _ => ∃ a, ∃ ns : List Int, vs = [.ref a] ∧ SqL K H a (ns.map V.int) ∧ ns.length ≤ 63 ∧ ∀ v H', Same H H' → NamedAt H' v (wordyT ns) → Q v H'
theorem at_map {ns : List Int} {j : Nat} (h : j < ns.length) : atI (ns.map V.int) (j : Int) = some (.int (ns.getD j 0)) := atI_nat (by
  rw [List.getElem?_map, List.getElem?_eq_getElem h, List.getD_eq_getElem?_getD, List.getElem?_eq_getElem h]
  rfl)
theorem at_letter (c : Int) : atI (Str.ofString "abcdefghijklmnopqrstuvwxyz").cps.toList (c % 26) = some (97 + (c % 26).toNat) := by
  have e : c % 26 = (((c % 26).toNat : Nat) : Int) := by omega
  conv => lhs; rw [e]
  exact atI_nat (letters_at (by omega))
theorem at_menu (l : Str) (k : Int) : atI [V.str "sab", V.str "tab", V.str "sat", V.str "sob", V.str l] (k % 5) = some (.str (menuS l k)) := by
  have e : k % 5 = (((k % 5).toNat : Nat) : Int) := by omega
  have hlt : (k % 5).toNat < 5 := by omega
  conv => lhs; rw [e]
  refine atI_nat ?_
  unfold menuS
  generalize (k % 5).toNat = j at hlt
  match j, hlt with
  | 0, _ => rfl
  | 1, _ => rfl
  | 2, _ => rfl
  | 3, _ => rfl
  | 4, _ => rfl
theorem word_then {ns : List Int} {j : Nat} (h : V.int (ns.getD j 0 % 11) = V.int 7) : anyW (ns.getD j 0 / 11) = wordAt ns j := by
  unfold wordAt
  rw [if_pos (V.int.inj h)]
theorem word_else {ns : List Int} {j : Nat} (h : ¬ V.int (ns.getD j 0 % 11) = V.int 7) : menuS (letterS (ns.getD ((j + 1) % ns.length) 0)) (ns.getD j 0 / 5) = wordAt ns j := by
  unfold wordAt
  rw [if_neg fun z => h (by rw [z])]
def InvM__law_wordy (H : Hp) (p : Addr) (ns : List Int) (H' : Hp) (n : Nat) : Prop := ∃ xs S, Same H H' ∧ H' p = some (.lst xs) ∧ Paired (NamedAt H') xs S.reverse ∧ closeN S = wordyT ns ∧ S ≠ [] ∧ (∀ t ∈ S, t.ok) ∧ sizesN S + S.length ≤ 200 ∧ n = S.length
theorem ok__law_wordy {f : Addr} {fd : FuncData} (F : Fun K "_law_wordy" "_law_wordy" s__law_wordy f fd) (N_ : NoNames mg) (G__law_any_word : GF P w K mg base CX0 1 "_law_any_word" ["_law_cell"] sp_any_wordF) :
    FnOk P w K mg base CX0 2 f fd ["_law_cells"] (sp_wordy K) := by
  refine F.ok sc__law_wordy (fun vs H Q E h => ?_) (fun cdv A outer s H vs Q E hr h => ?_)
  · obtain ⟨a, ns, rfl, _⟩ := h
    rfl
  · obtain ⟨a, ns, rfl, hS, hl, k⟩ := h
    have hu0 := hr.units0
    refine ⟨_, (pss_cons (ps_set (i := 1) sc__law_wordy.nd rfl (Or.inl rfl) (pLst pa_nil))
      (pss_cons (ps_for PassesOwn.never rfl (pi_range1 rfl N_.range (pa_c (pCB call_len_seq (by rfl) N_.len boot_len (pa_c (pv 0) pa_nil)) pa_nil)) (pg_name (i := 2) sc__law_wordy.nd rfl (Or.inl rfl)) (pss_cons (ps_set (i := 3) sc__law_wordy.nd rfl (Or.inl rfl) (pe_ix ix_list (pv 0) (pv 2) (fun _ _ => rfl)))
      (pss_cons (ps_set (i := 4) sc__law_wordy.nd rfl (Or.inl rfl) (pe_op op_mod (pv 3) pe_int))
      (pss_cons (ps_set (i := 5) sc__law_wordy.nd rfl (Or.inl rfl) (pe_ix ix_str pe_str (pe_op op_mod (pe_ix ix_list (pv 0) (pe_op op_mod (pe_op op_add (pv 2) pe_int) (pCB call_len_seq (by rfl) N_.len boot_len (pa_c (pv 0) pa_nil))) (fun _ _ => rfl)) pe_int) (fun _ _ => rfl)))
      (pss_cons (ps_set (i := 6) sc__law_wordy.nd rfl (Or.inl rfl) (pe_ix ix_list (pLst (pa_c pe_str (pa_c pe_str (pa_c pe_str (pa_c pe_str (pa_c (pv 5) pa_nil)))))) (pe_op op_mod (pe_op op_fdiv (pv 3) pe_int) pe_int) (fun _ _ => rfl)))
      (pss_cons (ps_if (pt_cmpR op_eq (pe_op op_mod (pv 3) pe_int) pe_int (nomark _)) (pss_one (ps_set (i := 6) sc__law_wordy.nd rfl (Or.inl rfl) (pe_gf G__law_any_word (hr.mono (by decide)) rfl pass0 (pa_c (pe_op op_fdiv (pv 3) pe_int) pa_nil)))) pss_nil)
      (pss_one (ps_if (PW.pt (pw_and (PW.pt (pw_or (pt_cmpR op_eq (pv 4) pe_int (nomark _)) (pw_or1 (pt_cmpR op_eq (pv 4) pe_int (nomark _))))) (pw_and1 (pt_cmpR (op_neNil hu0) (pv 1) (pLst pa_nil) (nomark _))))) (pss_cons (ps_set (i := 7) sc__law_wordy.nd rfl (Or.inl rfl) (pPop (pv 1)))
      (pss_one (ps_expr (pApp (pv 1) (pTup (pa_c pe_str (pa_c (pv 6) (pa_c (pv 7) pa_nil)))))))) (pss_one (ps_if (PW.pt (pw_and (pt_cmpR op_eq (pv 4) pe_int (nomark _)) (pw_and1 (pt_cmpR op_gt (pCB call_len_seq (by rfl) N_.len boot_len (pa_c (pv 1) pa_nil)) pe_int (nomark _))))) (pss_cons (ps_set (i := 8) sc__law_wordy.nd rfl (Or.inl rfl) (pPop (pv 1)))
      (pss_cons (ps_set (i := 9) sc__law_wordy.nd rfl (Or.inl rfl) (pPop (pv 1)))
      (pss_one (ps_expr (pApp (pv 1) (pTup (pa_c pe_str (pa_c (pv 9) (pa_c (pv 8) pa_nil))))))))) (pss_one (ps_expr (pApp (pv 1) (pTup (pa_c pe_str (pa_c (pv 6) pa_nil))))))))))))))))
      (pss_cons (ps_if (pt_cmpR (op_eqNil hu0) (pv 1) (pLst pa_nil) (nomark _)) (pss_one (ps_expr (pApp (pv 1) (pTup (pa_c pe_str (pa_c pe_str pa_nil)))))) pss_nil)
      (pss_cons (ps_while PassesOwn.never (pt_cmpR op_gt (pCB call_len_seq (by rfl) N_.len boot_len (pa_c (pv 1) pa_nil)) pe_int (nomark _)) (pss_cons (ps_set (i := 8) sc__law_wordy.nd rfl (Or.inl rfl) (pPop (pv 1)))
      (pss_cons (ps_set (i := 9) sc__law_wordy.nd rfl (Or.inl rfl) (pPop (pv 1)))
      (pss_one (ps_expr (pApp (pv 1) (pTup (pa_c pe_str (pa_c (pv 9) (pa_c (pv 8) pa_nil))))))))))
      (pss_one (ps_ret (pe_ix ix_list (pv 1) pe_int (fun _ _ => rfl)))))))), ?_⟩
    show (let V1_ : TS := _; let V2_ : TS := _; let V3_ : TS := tSeq _ V2_; let V4_ : TS := tSeq _ V3_; let V5_ : TS := tSeq (tWhile _ V4_) V1_; let V6_ : TS := _; let V7_ : TS := tSeq (tIfS _ V6_ _) V5_; let V8_ : TS := _; let V9_ : TS := tSeq _ V8_; let V10_ : TS := _; let V11_ : TS := tSeq _ V10_; let V12_ : TS := tSeq _ V11_; let V13_ : TS := _; let V14_ : TS := tIfS _ V12_ V13_; let V15_ : TS := tIfS _ V9_ V14_; let V16_ : TS := _; let V17_ : TS := tSeq (tIfS _ V16_ _) V15_; let V18_ : TS := tSeq _ V17_; let V19_ : TS := tSeq _ V18_; let V20_ : TS := tSeq _ V19_; let V21_ : TS := tSeq _ V20_; let V22_ : TS := tSeq (tFor _ _ V21_) V7_; tSeq _ V22_ _ _ _)
    intro V1_ V2_ V3_ V4_ V5_ V6_ V7_ V8_ V9_ V10_ V11_ V12_ V13_ V14_ V15_ V16_ V17_ V18_ V19_ V20_ V21_ V22_
    refine ⟨small' (by simp), fun p H1 np s1 hp1 => ?_⟩
    have hnl : (ns.map V.int).length = ns.length := List.length_map _
    refine ⟨_, rfl, _, _, rfl, Or.inl (s1.seq hS), _, rfl, ?_, ?_, ?_⟩
    · rw [hnl]; omega
    · rw [hnl]; omega
    rw [show (((ns.map V.int).length : Nat) : Int).toNat = ns.length by rw [hnl]; omega]
    refine for_range (fun i σ H' => i ≤ ns.length ∧ Same H H' ∧ (∃ xs, H' p = some (.lst xs) ∧ Paired (NamedAt H') xs (pileN ns i).reverse) ∧ ∃ x2 x3 x4 x5 x6 x7 x8 x9, σ = [some (.ref a), some (.ref p), x2, x3, x4, x5, x6, x7, x8, x9]) ⟨Nat.zero_le _, s1, ⟨[], hp1, .nil⟩, _, _, _, _, _, _, _, _, rfl⟩ ?_ ?_
    · rintro i σ H2 hi ⟨_, s2, ⟨xs, hp2, hxs⟩, x2, x3, x4, x5, x6, x7, x8, x9, rfl⟩
      have hS2 := s2.seq hS
      have hxl : xs.length ≤ 63 := by
        rw [Paired.length hxs, List.length_reverse]
        have h1 := len_sizesN (pileN ns i)
        have h2 := pile_size ns i
        omega
      have hln : 0 < ns.length := by omega
      have hmod : (i + 1) % ns.length < ns.length := Nat.mod_lt _ hln
      -- cell, way, letter, word
      refine ⟨_, rfl, _, rfl, _, _, _, _, rfl, rfl, hS2, (by rw [Int.zero_add]; exact at_map hi), ?_⟩
      refine ⟨_, rfl, _, _, rfl, rfl, (show (0 : Int) < 5 by decide), ?_⟩
      refine ⟨_, rfl, _, rfl, _, _, rfl, rfl, _, rfl, _, _, rfl, Or.inl hS2, _, _, rfl, rfl, (by rw [hnl]; omega), _, _, _, _, rfl, rfl, hS2, (by
        rw [hnl, Int.zero_add, show ((i : Int) + 1) % (ns.length : Int) = (((i + 1) % ns.length : Nat) : Int) by rw [Int.natCast_emod]; rfl]
        exact at_map hmod), _, _, rfl, rfl, (show (0 : Int) < 26 by decide), _, _, _, rfl, rfl, small' (by decide +kernel), at_letter _, ?_⟩
      refine ⟨_, rfl, small' (by show 5 ≤ 1000000; decide), fun q3 H3 n3 s3 h3 => ⟨_, rfl, _, _, rfl, rfl, ⟨by decide, by decide⟩, _, _, rfl, rfl, (show (0 : Int) < 5 by decide), _, _, _, _, rfl, rfl, SqL.of h3, at_menu (letterS (ns.getD ((i + 1) % ns.length) 0)) (ns.getD i 0 / 5), ?_⟩⟩
      have s3' := s2.trans s3
      have hp3 := s3 _ _ hp2
      have hxs3 : Paired (NamedAt H3) xs (pileN ns i).reverse := nameds_mono hxs (.of_same s3)
      have hpn : pileN ns (i + 1) = stepN (pileN ns i) (ns.getD i 0 % 5) (wordAt ns i) := rfl
      refine ⟨_, rfl, _, _, rfl, rfl, (show (0 : Int) < 11 by decide), rfl, _, rfl, ifD (fun e11 => ⟨_, rfl, _, _, rfl, rfl, ⟨by decide, by decide⟩, _, rfl, ?thn⟩) (fun e11 => ?els)⟩
      case thn | els =>
        first | rw [word_then e11] | rw [word_else e11]
        have hwd := wd_wordAt ns i
        generalize wordAt ns i = wd at hwd hpn
        generalize hgS : pileN ns i = S at hpn hxs3
        have hokS : ∀ t ∈ S, t.ok := by rw [← hgS]; exact pile_ok ns i
        have hszS : sizesN S ≤ 63 := by rw [← hgS]; have := pile_size ns i; omega
        refine ⟨_, rfl, rfl, _, rfl, ifD (fun h2 => iteT ?A) (fun h2 => ⟨_, rfl, rfl, _, rfl, ifD (fun h3 => ?B) (fun h3 => ?C)⟩)⟩
        case A | B =>
          have hway : ns.getD i 0 % 5 = 2 ∨ ns.getD i 0 % 5 = 3 := by first | exact .inr (V.int.inj h3) | exact .inl (V.int.inj h2)
          refine ⟨_, rfl, small' (by simp), fun e0 H4 n4 s4 h4 => ⟨_, _, _, rfl, rfl, SqL.of (s4 _ _ hp3), SqL.of h4, _, rfl, ifB (fun hE => ?form) (fun hE => ?emp)⟩⟩
          case form =>
            have hp4 := s4 _ _ hp3
            cases S with
            | nil =>
              cases paired_nil hxs3
              exact absurd hE (by simp)
            | cons t r =>
              rw [List.reverse_cons] at hxs3
              obtain ⟨xs', x, rfl, hxs', hx⟩ := paired_snoc_inv hxs3
              refine ⟨_, rfl, Or.inl ⟨rfl, _, SqL.of hp4⟩, _, _, _, rfl, rfl, hp4, fun H5 k5 hp5 => ?_⟩
              refine ⟨_, rfl, Or.inl ⟨rfl, _, SqL.of hp5⟩, _, rfl, _, rfl, small' (by show 3 ≤ 1000000; decide), fun q H6 n6 s6 h6 => ⟨_, _, _, rfl, rfl, s6 _ _ hp5, small (by simp at hxl; omega), fun H7 k7 hp7 => ?_⟩⟩
              have hp6 := s6 _ _ hp5
              have tu : Tups H3 H7 := (Tups.of_same s4).trans ((k5.tup1 hp4).trans ((Tups.of_same s6).trans (k7.tup1 hp6)))
              · exact ⟨hi, same_keep1 ((same_keep1 (s3'.trans s4) k5 np).trans s6) k7 np, ⟨_, hp7, by rw [hpn, stepN_form hway, List.reverse_cons]; exact paired_snoc (.form (k7.tup1 hp6 _ _ h6) (hx.mono tu)) (nameds_mono hxs' tu)⟩, _, _, _, _, _, _, _, _, rfl⟩
          case emp =>
            have hS0 : S = [] := by
              cases S with
              | nil => rfl
              | cons t r =>
                rw [List.reverse_cons] at hxs3
                obtain ⟨xs', x, rfl, hxs', hx⟩ := paired_snoc_inv hxs3
                exact absurd hE (by simp)
            have hp4 := s4 _ _ hp3
            have s4' := s3'.trans s4
            have hxs4 : Paired (NamedAt H4) xs S.reverse := nameds_mono hxs3 (.of_same s4)
            have hnm : stepN S (ns.getD i 0 % 5) wd = .name wd :: S := stepN_name (fun _ => hS0) fun _ => by rw [hS0]; exact Nat.zero_le _
            refine ⟨_, rfl, rfl, _, rfl, ifF (fun z => by have := V.int.inj z; omega) (iteF ?_)⟩
            refine ⟨_, rfl, Or.inl ⟨rfl, _, SqL.of hp4⟩, _, rfl, small' (by show 2 ≤ 1000000; decide), fun q H6 n6 s6 h6 => ⟨_, _, _, rfl, rfl, s6 _ _ hp4, small (by omega), fun H7 k7 hp7 => ?_⟩⟩
            have hp6 := s6 _ _ hp4
            exact ⟨hi, same_keep1 (s4'.trans s6) k7 np, ⟨_, hp7, by rw [hpn, hnm, List.reverse_cons]; exact paired_snoc (.name (k7.tup1 hp6 _ _ h6)) (nameds_mono hxs4 ((Tups.of_same s6).trans (k7.tup1 hp6)))⟩, _, _, _, _, _, _, _, _, rfl⟩
        case C =>
          have hp4 := hp3
          have s4' := s3'
          have hxs4 := hxs3
          refine iteF ⟨_, rfl, rfl, _, rfl, ifD (fun h4 => ⟨_, rfl, _, _, rfl, Or.inl (SqL.of hp3), _, _, rfl, rfl, _, rfl, ifD (fun hC => ?call) (fun hC => ?leaf2)⟩) (fun h4 => iteF ?leaf3)⟩
          case call =>
            have hC' : 1 < xs.length := by have : (1 : Int) < (xs.length : Int) := hC; omega
            have hlen := Paired.length hxs3
            rw [List.length_reverse] at hlen
            match S, hxs3, hlen, hpn, hokS, hszS with
            | [], _, hlen, _, _, _ => rw [hlen] at hC'; simp at hC'
            | [_], _, hlen, _, _, _ => rw [hlen] at hC'; simp at hC'
            | tb :: ta :: r, hxs3, hlen, hpn, hokS, hszS =>
              rw [List.reverse_cons, List.reverse_cons] at hxs3
              obtain ⟨xs1, x1, rfl, hxs1, hx1⟩ := paired_snoc_inv hxs3
              obtain ⟨xs2, x2', rfl, hxs2, hx2⟩ := paired_snoc_inv hxs1
              refine ⟨_, rfl, Or.inl ⟨rfl, _, SqL.of hp3⟩, _, _, _, rfl, rfl, hp3, fun H5 k5 hp5 => ⟨_, rfl, Or.inl ⟨rfl, _, SqL.of hp5⟩, _, _, _, rfl, rfl, hp5, fun H6 k6 hp6 => ?_⟩⟩
              refine ⟨_, rfl, Or.inl ⟨rfl, _, SqL.of hp6⟩, _, rfl, _, rfl, small' (by show 3 ≤ 1000000; decide), fun q H7 n7 s7 h7 => ⟨_, _, _, rfl, rfl, s7 _ _ hp6, small (by simp at hxl; omega), fun H8 k8 hp8 => ?_⟩⟩
              have hp7 := s7 _ _ hp6
              have tu : Tups H3 H8 := (k5.tup1 hp3).trans ((k6.tup1 hp5).trans ((Tups.of_same s7).trans (k8.tup1 hp7)))
              · exact ⟨hi, same_keep1 ((same_keep1 (same_keep1 s4' k5 np) k6 np).trans s7) k8 np, ⟨_, hp8, by rw [hpn, stepN_call (V.int.inj h4), List.reverse_cons]; exact paired_snoc (.call (k8.tup1 hp7 _ _ h7) (hx2.mono tu) (hx1.mono tu)) (nameds_mono hxs2 tu)⟩, _, _, _, _, _, _, _, _, rfl⟩
          case leaf2 =>
            have hnm : stepN S (ns.getD i 0 % 5) wd = .name wd :: S := stepN_name (fun z => by rcases z with z | z; exact absurd (congrArg V.int z) h2; exact absurd (congrArg V.int z) h3) fun _ => by
              have hC' : ¬ 1 < xs.length := fun z => hC (show (1 : Int) < (xs.length : Int) by omega)
              have hlen := Paired.length hxs3
              rw [List.length_reverse] at hlen
              omega
            refine ⟨_, rfl, Or.inl ⟨rfl, _, SqL.of hp4⟩, _, rfl, small' (by show 2 ≤ 1000000; decide), fun q H6 n6 s6 h6 => ⟨_, _, _, rfl, rfl, s6 _ _ hp4, small (by omega), fun H7 k7 hp7 => ?_⟩⟩
            have hp6 := s6 _ _ hp4
            exact ⟨hi, same_keep1 (s4'.trans s6) k7 np, ⟨_, hp7, by rw [hpn, hnm, List.reverse_cons]; exact paired_snoc (.name (k7.tup1 hp6 _ _ h6)) (nameds_mono hxs4 ((Tups.of_same s6).trans (k7.tup1 hp6)))⟩, _, _, _, _, _, _, _, _, rfl⟩
          case leaf3 =>
            have hnm : stepN S (ns.getD i 0 % 5) wd = .name wd :: S := stepN_name (fun z => by rcases z with z | z; exact absurd (congrArg V.int z) h2; exact absurd (congrArg V.int z) h3) fun z => absurd (congrArg V.int z) h4
            refine ⟨_, rfl, Or.inl ⟨rfl, _, SqL.of hp4⟩, _, rfl, small' (by show 2 ≤ 1000000; decide), fun q H6 n6 s6 h6 => ⟨_, _, _, rfl, rfl, s6 _ _ hp4, small (by omega), fun H7 k7 hp7 => ?_⟩⟩
            have hp6 := s6 _ _ hp4
            exact ⟨hi, same_keep1 (s4'.trans s6) k7 np, ⟨_, hp7, by rw [hpn, hnm, List.reverse_cons]; exact paired_snoc (.name (k7.tup1 hp6 _ _ h6)) (nameds_mono hxs4 ((Tups.of_same s6).trans (k7.tup1 hp6)))⟩, _, _, _, _, _, _, _, _, rfl⟩
    · rintro σ H2 ⟨_, s2, ⟨xs, hp2, hxs⟩, x2, x3, x4, x5, x6, x7, x8, x9, rfl⟩
      have hxl : xs.length ≤ 63 := by
        rw [Paired.length hxs, List.length_reverse]
        have h1 := len_sizesN (pileN ns ns.length)
        have h2 := pile_size ns ns.length
        omega
      have hsz := pile_size ns ns.length
      have hln := len_sizesN (pileN ns ns.length)
      refine ⟨_, rfl, small' (by simp), fun e0 H3 n3 s3 h3 => ⟨_, _, _, rfl, rfl, SqL.of (s3 _ _ hp2), SqL.of h3, _, rfl, ifB
        (fun hE => ⟨_, rfl, Or.inl ⟨rfl, _, SqL.of (s3 _ _ hp2)⟩, small' (by simp), fun q H4 n4 s4 h4 => ⟨_, _, _, rfl, rfl, s4 _ _ (s3 _ _ hp2), ?len, fun H5 k5 hp5 => have hI : ∃ n, InvM__law_wordy H p ns H5 n := ?hi1; ?w1⟩⟩) (fun hE => have hI : ∃ n, InvM__law_wordy H p ns H3 n := ?hi2; ?w2)⟩⟩
      case len =>
        have e : xs = [] := List.isEmpty_iff.mp (by simpa using hE)
        rw [e]
        exact small (by simp)
      case hi1 =>
        have e : xs = [] := List.isEmpty_iff.mp (by simpa using hE)
        subst e
        have e0 : pileN ns ns.length = [] := by
          have := Paired.length hxs
          rw [List.length_reverse] at this
          exact List.length_eq_zero_iff.mp this.symm
        refine ⟨1, _, [.name (Str.ofString "sab")], same_keep1 ((s2.trans s3).trans s4) k5 np, hp5, .cons (.name (k5.tup1 (s4 _ _ (s3 _ _ hp2)) _ _ h4)) .nil, by unfold wordyT; rw [e0]; rfl, by simp, fun t ht => ?_, (show 1 + 0 + 1 ≤ 200 by decide), rfl⟩
        rw [List.mem_singleton.mp ht]
        exact wd_sab
      case hi2 =>
        refine ⟨_, xs, pileN ns ns.length, s2.trans s3, s3 _ _ hp2, nameds_mono hxs (.of_same s3), rfl, fun z => ?_, pile_ok ns _, by omega, rfl⟩
        rw [z] at hxs
        cases paired_nil hxs
        exact absurd hE (by simp)
      case w1 | w2 =>
        refine ⟨fun m σ H' => InvM__law_wordy H p ns H' m ∧ ∃ x2 x3 x4 x5 x6 x7 x8 x9, σ = [some (.ref a), some (.ref p), x2, x3, x4, x5, x6, x7, x8, x9], ?_, ?_⟩
        · obtain ⟨n, hI⟩ := hI
          exact ⟨n, hI, _, _, _, _, _, _, _, _, rfl⟩
        · rintro m σ H6 ⟨⟨xs, S, s6, hp6, hxs6, hcl, hne, hok, hsum, rfl⟩, x2, x3, x4, x5, x6, x7, x8, x9, rfl⟩
          have hlen := Paired.length hxs6
          rw [List.length_reverse] at hlen
          refine ⟨_, rfl, _, _, rfl, Or.inl (SqL.of hp6), _, _, rfl, rfl, _, rfl, ifD (fun hC => ?_) (fun hC => ?_)⟩
          · have hC' : 1 < xs.length := by have : (1 : Int) < (xs.length : Int) := hC; omega
            match S, hxs6, hlen, hcl, hok, hsum with
            | [], _, hlen, _, _, _ => rw [hlen] at hC'; simp at hC'
            | [_], _, hlen, _, _, _ => rw [hlen] at hC'; simp at hC'
            | tb :: ta :: r, hxs3, hlen, hcl, hok, hsum =>
              refine ⟨fun σ' H' => ∃ m', m' < (tb :: ta :: r).length ∧ (InvM__law_wordy H p ns H' m' ∧ ∃ x2 x3 x4 x5 x6 x7 x8 x9, σ' = [some (.ref a), some (.ref p), x2, x3, x4, x5, x6, x7, x8, x9]), fun _ _ h => h, ?_⟩
              rw [List.reverse_cons, List.reverse_cons] at hxs3
              obtain ⟨xs1, x1, rfl, hxs1, hx1⟩ := paired_snoc_inv hxs3
              obtain ⟨xs2, x2', rfl, hxs2, hx2⟩ := paired_snoc_inv hxs1
              have hxl : xs2.length ≤ 200 := by simp at hlen; simp at hsum; omega
              have hokS := hok
              have hszS : sizesN (tb :: ta :: r) ≤ 200 := by omega
              refine ⟨_, rfl, Or.inl ⟨rfl, _, SqL.of hp6⟩, _, _, _, rfl, rfl, hp6, fun H7 k7 hp7 => ⟨_, rfl, Or.inl ⟨rfl, _, SqL.of hp7⟩, _, _, _, rfl, rfl, hp7, fun H8 k8 hp8 => ?_⟩⟩
              refine ⟨_, rfl, Or.inl ⟨rfl, _, SqL.of hp8⟩, _, rfl, _, rfl, small' (by simp), fun q9 H9 n9 s9 h9 => ⟨_, _, _, rfl, rfl, s9 _ _ hp8, small (by omega), fun H10 k10 hp10 => ?_⟩⟩
              have hp9 := s9 _ _ hp8
              have tu : Tups H6 H10 := ((k7.tup1 hp6).trans (k8.tup1 hp7)).trans ((Tups.of_same s9).trans (k10.tup1 hp9))
              · refine ⟨r.length + 1, by simp, ⟨_, .call ta tb :: r, same_keep1 ((same_keep1 (same_keep1 s6 k7 np) k8 np).trans s9) k10 np, hp10, by rw [List.reverse_cons]; exact paired_snoc (.call (k10.tup1 hp9 _ _ h9) (hx2.mono tu) (hx1.mono tu)) (nameds_mono hxs2 tu), by rw [← closeN_call]; exact hcl, by simp, fun t ht => ?_, ?_, rfl⟩, _, _, _, _, _, _, _, _, rfl⟩
                · rcases List.mem_cons.mp ht with rfl | ht
                  · exact ⟨hok ta (by simp), hok tb (by simp)⟩
                  · exact hok t (List.mem_cons_of_mem _ (List.mem_cons_of_mem _ ht))
                · simp only [sizesN, List.map_cons, List.sum_cons, NT.size, List.length_cons] at hsum ⊢
                  omega
          · have hC' : ¬ 1 < xs.length := fun z => hC (show (1 : Int) < (xs.length : Int) by omega)
            match S, hxs6, hlen, hcl, hne with
            | [t], .cons (a := x) (l₁ := r) hx hr, _, hcl, _ =>
              cases hr
              have hcl : t = wordyT ns := hcl
              subst hcl
              exact ⟨_, rfl, _, _, _, _, rfl, rfl, SqL.of hp6, at0, k _ H6 s6 hx⟩
            | _ :: _ :: _, _, hlen, _, _ => exact absurd hC' (by rw [hlen]; simp)
            | [], _, _, _, hne => exact absurd rfl hne
end
end NC
/-! ### words that are free -/
namespace NC
open PySem PySem.Spec PyProof.Rows L2
section
variable {P : Program} {w : World} {K : PySem.W.Frag} {mg : Str → Option Value} {base : Heap}
seal L2.PE L2.PA L2.PT L2.PS L2.PSs L2.PW L2.PG L2.PGs L2.PI L2.PO L2.OpR L2.UnR L2.CallR L2.TruR L2.IxR L2.SlR
abbrev s_word_of : Stmt := top 14
theorem sc_word_of : FnScope ["number", "word"] ["number"] (defScope s_word_of) := ⟨rfl, rfl, rfl, by decide +kernel, rfl, by decide +kernel, by decide +kernel⟩
abbrev s_free_words : Stmt := top 15
theorem sc_free_words : FnScope ["many", "taken", "used", "words"] ["many", "taken"] (defScope s_free_words) := ⟨rfl, rfl, rfl, by decide +kernel, rfl, by decide +kernel, by decide +kernel⟩
theorem cndW : (["word"] : List Str).Nodup := by decide +kernel
theorem cndN : (["number"] : List Str).Nodup := by decide +kernel
theorem cndU : (["word", "used"] : List Str).Nodup := by decide +kernel
inductive Sp_word_ofI (vs : List V) (H : Hp) (Q : VK) : Prop where
  | mk (n : Nat) (c1 : vs = [.int (n : Int)]) (c2 : n ≤ 100000) (c3 : Q (.str (wordN n)) H)
def sp_word_of : Sp := fun vs H Q _ => Sp_word_ofI vs H Q
theorem lett_at (n : Nat) : atI (Str.ofString "abcdefghijklmnopqrstuvwxyz").cps.toList ((n : Int) % 26) = some (97 + n % 26) := by
  rw [show (n : Int) % 26 = ((n % 26 : Nat) : Int) by omega]
  exact atI_nat (letters_at (by omega))
theorem ok_word_of {f : Addr} {fd : FuncData} {tk : Tok} (F : Fun K "word_of" "word_of" s_word_of f fd) (hLet : mg "LETTERS" = some (.str (Str.ofString "abcdefghijklmnopqrstuvwxyz") tk)) : FnOk P w K mg base CX0 1 f fd ["number"] sp_word_of := by
  refine F.ok sc_word_of (fun vs H Q E h => ?_) (fun cdv A outer s H vs Q E hr h => ?_)
  · obtain ⟨n, rfl, _⟩ := h
    rfl
  · obtain ⟨n, rfl, hn, k⟩ := h
    refine ⟨_, (pss_cons (ps_set (i := 1) sc_word_of.nd rfl (Or.inl rfl) (pe_ix ix_str (pe_glob (v := .str (Str.ofString "abcdefghijklmnopqrstuvwxyz")) rfl hLet ⟨_, rfl⟩) (pe_op op_mod (pv 0) pe_int) (fun _ _ => rfl)))
      (pss_cons (ps_while PassesOwn.never (pt_cmpR op_ge (pv 0) pe_int (nomark _)) (pss_cons (ps_set (i := 0) sc_word_of.nd rfl (Or.inl rfl) (pe_op op_sub (pe_op op_fdiv (pv 0) pe_int) pe_int))
      (pss_one (ps_set (i := 1) sc_word_of.nd rfl (Or.inl rfl) (pe_op op_add_str (pe_ix ix_str (pe_glob (v := .str (Str.ofString "abcdefghijklmnopqrstuvwxyz")) rfl hLet ⟨_, rfl⟩) (pe_op op_mod (pv 0) pe_int) (fun _ _ => rfl)) (pv 1))))))
      (pss_one (ps_ret (pv 1))))), ?_⟩
    show (let V1_ : TS := _; let V2_ : TS := _; let V3_ : TS := tSeq _ V2_; let V4_ : TS := tSeq (tWhile _ V3_) V1_; tSeq _ V4_ _ _ _)
    intro V1_ V2_ V3_ V4_
    refine ⟨_, rfl, _, _, rfl, rfl, (show (0 : Int) < 26 by decide), _, _, _, rfl, rfl, small' (by decide +kernel), lett_at n, ?_⟩
    refine ⟨fun m σ H' => ∃ w : Str, σ = [some (.int (m : Int)), some (.str w)] ∧ H' = H ∧ goW (m / 26) w = wordN n ∧ w.length + m ≤ 200000, ⟨n, lett n, rfl, rfl, rfl, by show 1 + n ≤ _; omega⟩, ?_⟩
    rintro m σ H' ⟨w, rfl, rfl, hg, hl⟩
    refine ⟨_, rfl, _, _, rfl, rfl, _, rfl, ifD (fun hc => ?_) (fun hc => ⟨_, rfl, ?_⟩)⟩
    · have hm : 26 ≤ m := by omega
      refine ⟨fun σ' H'' => ∃ m', m' < m ∧ ∃ w : Str, σ' = [some (.int (m' : Int)), some (.str w)] ∧ H'' = H' ∧ goW (m' / 26) w = wordN n ∧ w.length + m' ≤ 200000, fun _ _ h => h, ?_⟩
      refine ⟨_, rfl, _, _, rfl, rfl, ⟨by decide, by decide⟩, _, _, rfl, rfl, ?_⟩
      have e : (m : Int) / 26 - 1 = ((m / 26 - 1 : Nat) : Int) := by omega
      rw [e]
      refine ⟨_, rfl, _, _, rfl, rfl, (show (0 : Int) < 26 by decide), _, _, _, rfl, rfl, small' (by decide +kernel), lett_at (m / 26 - 1), _, rfl, _, _, rfl, rfl, small' (by show 1 + w.length ≤ _; omega), ?_⟩
      refine ⟨m / 26 - 1, by omega, lett (m / 26 - 1) ++ w, rfl, rfl, ?_, ?_⟩
      · exact (goW_step (by omega) w).symm.trans hg
      · rw [Str.length_append]
        show 1 + w.length + _ ≤ _
        omega
    · have hm : m / 26 = 0 := by omega
      rw [hm, goW_zero] at hg
      subst hg
      exact k
inductive Sp_free_wordsI (vs : List V) (H : Hp) (Q : VK) : Prop where
  | mk (many : Nat) (l : Addr) (ss : List Str) (c1 : vs = [.int (many : Int), .ref l]) (c2 : H l = some (.lst (ss.map V.str))) (c3 : many ≤ 1000) (c4 : ss.length ≤ 1000) (c5 : ∀ fw used H', Same H H' → (∀ x, x ∈ used ↔ x ∈ ss) → used.length ≤ ss.length → H' fw = some (.lst ((freeW many used).map V.str)) → Q (.ref fw) H')
def sp_free_words : Sp := fun vs H Q _ => Sp_free_wordsI vs H Q
inductive InvFw1 (H : Hp) (ss : List Str) (D : Addr) (i : Nat) (σ : L2.St) (H' : Hp) : Prop where
  | mk (x0 : Option V) (ps : List (Addr × Str)) (c1 : σ = [x0]) (c2 : Same H H') (c3 : H' D = some (.lst (ps.map fun p => .ref p.1))) (c4 : ps.map (·.2) = ss.take i) (c5 : ∀ p ∈ ps, H' p.1 = some (.tup [.str p.2, .bl true]))
theorem cut_take (xs : List V) (n : Nat) : cutV xs none (some (n : Int)) = xs.take n := by
  have e : HT.sIx xs.length xs.length (some (n : Int)) = min n xs.length := HT.sIx_nat _ _ _
  unfold cutV
  rw [e]
  show (xs.drop 0).take (min n xs.length - 0) = _
  rw [List.drop_zero, Nat.sub_zero]
  rcases Nat.le_total n xs.length with h | h
  · rw [Nat.min_eq_left h]
  · rw [Nat.min_eq_right h, List.take_length, List.take_of_length_le h]
theorem val_true (wd : Str) : ∀ ks : List Str, (valV (ks.map fun k => ((Sum.inr k : Key), V.bl true)) (Sum.inr wd)).isSome = decide (wd ∈ ks)
  | [] => rfl
  | k :: ks => by
    have ih := val_true wd ks
    unfold valV at ih ⊢
    rw [List.map_cons, List.find?_cons]
    by_cases h : k = wd
    · subst h
      simp
    · rw [show decide ((Sum.inr k : Key) = Sum.inr wd) = false from decide_eq_false fun z => h (Sum.inr.inj z)]
      rw [ih]
      simp [Ne.symm h]
theorem ok_free_words {f : Addr} {fd : FuncData} (F : Fun K "free_words" "free_words" s_free_words f fd) (N_ : NoNames mg) (G_word_of : GF P w K mg base CX0 1 "word_of" ["number"] sp_word_of) : FnOk P w K mg base CX0 2 f fd ["many", "taken"] sp_free_words := by
  refine F.ok sc_free_words (fun vs H Q E h => ?_) (fun cdv A outer s H vs Q E hr h => ?_)
  · obtain ⟨many, l, ss, rfl, _⟩ := h
    rfl
  · obtain ⟨many, l, ss, rfl, hl, hm, hs, k⟩ := h
    have hu := hu_of hr
    refine ⟨_, (pss_cons (ps_set (i := 2) sc_free_words.nd rfl (Or.inr rfl) (pCT (call_dictP hr.hd) (by rfl) N_.dict boot_dict (pa_c (pe_comp (N := ["word"]) rfl ⟨rfl, cndW, by decide +kernel, by decide +kernel, by decide +kernel⟩ (pv 1) (fun _ _ _ => ⟨(pg_name (i := 0) cndW rfl (Or.inl rfl)), pf_nil, (pTup (pa_c (pv 0) (pa_c pe_bl pa_nil)))⟩)) pa_nil)))
      (pss_cons (ps_compI (i := 3) (N := ["number"]) rfl sc_free_words.nd rfl rfl ⟨rfl, cndN, by decide +kernel, by decide +kernel, by decide +kernel⟩ (pi_range1 rfl N_.range (pa_c (pe_op op_add (pv 0) (pCB call_lenD (by rfl) N_.len boot_len (pa_c (pv 2) pa_nil))) pa_nil)) (fun _ _ _ _ => ⟨(pg_name (i := 0) cndN rfl (Or.inl rfl)), pf_nil, (pe_gf G_word_of (hr.mono (by decide)) rfl pass0 (pa_c (pv 0) pa_nil))⟩))
      (pss_one (ps_ret (pe_slice sl_ls (pe_compC (N := ["word"]) (fs := ["used"]) (js := [2]) (cl := [("used", s.heap.objs.size + 1)]) rfl ⟨rfl, cndU, by decide +kernel, by decide +kernel, by decide +kernel, by decide +kernel⟩ rfl (clos1 rfl rfl) rfl (fun x hx => by rw [List.mem_singleton.mp hx]; exact Or.inr (Or.inl rfl)) (pv 3) (fun _ _ _ => ⟨(pg_name (i := 0) cndU rfl (Or.inl rfl)), (pf_one (pt_cmp (pc_dnotin hu (pv 0) (pv 1)))), (pv 0)⟩)) po_none (po_some (pv 0))))))), ?_⟩
    show (let V1_ : TS := _; let V2_ : TS := tSeq _ V1_; tSeq _ V2_ _ _ _)
    intro V1_ V2_
    refine ⟨_, rfl, l, _, rfl, SqL.of hl, fun D nD => ?_⟩
    refine ⟨InvFw1 H ss D, ⟨none, [], rfl, same_new nD, upd_same, rfl, fun p hp => nomatch hp⟩, ?_, ?_, ?_⟩
    · rintro i σ' H' _ ⟨_, _, _, sm, _⟩
      exact SqL.of (sm _ _ hl)
    · rintro C s0 H0 i x σ' H' hi ⟨x0, ps, rfl, sm, hD, e, hps⟩
      rw [List.getElem?_map] at hi
      cases hx : ss[i]? with
      | none => rw [hx] at hi; cases hi
      | some wd =>
        rw [hx] at hi
        cases hi
        refine ⟨_, rfl, small' (by show 2 ≤ 1000000; decide), fun b H2 nb s2 hb => ?_⟩
        have nbD : b ≠ D := fun z => by rw [z, hD] at nb; cases nb
        have lps : ps.length ≤ 1000 := by
          have := congrArg List.length e
          rw [List.length_map, List.length_take] at this
          omega
        refine ⟨_, s2 _ _ hD, small (by rw [List.length_map]; omega), some (.str wd), ps ++ [(b, wd)], rfl, ?_, ?_, ?_, ?_⟩
        · intro c o q
          rw [upd_ne fun z => by rw [z, nD] at q; cases q]
          exact s2 _ _ (sm _ _ q)
        · rw [upd_same, List.map_append]
          rfl
        · rw [List.map_append, e, List.take_add_one, hx]
          rfl
        · intro p hp
          rcases List.mem_append.mp hp with hp | hp
          · rw [upd_ne fun z => by
              have := s2 _ _ (hps p hp)
              rw [z, s2 _ _ hD] at this
              cases this]
            exact s2 _ _ (hps p hp)
          · rw [List.mem_singleton.mp hp, upd_ne nbD]
            exact hb
    · rintro σ' H' ⟨x0, ps, rfl, sm, hD, e, hps⟩
      rw [List.length_map, List.take_length] at e
      refine ⟨D, ps, rfl, hD, hps, fun d ks H2 nd hnd hlen hmem s2 hd => ?_⟩
      rw [e] at hmem
      have hks : ks.length ≤ ss.length := by
        have := congrArg List.length e
        rw [List.length_map] at this
        omega
      have hlD : (ks.map fun k => ((Sum.inr k : Key), V.bl true)).length = ks.length := List.length_map ..
      have hJ : (((many : Int) + ((ks.map fun k => ((Sum.inr k : Key), V.bl true)).length : Nat)) : Int).toNat = many + ks.length := by rw [hlD]; omega
      refine ⟨_, rfl, _, rfl, d, _, rfl, hd, _, _, rfl, rfl, _, rfl, (by rw [hlD]; omega), (by rw [hlD]; omega), fun D2 nD2 => ?_⟩
      rw [hJ]
      refine ⟨fun i m σ' H' => ∃ x0, σ' = [x0] ∧ Same H2 H' ∧ H' D2 = some (.lst (((List.range i).map wordN).map V.str)) ∧ i ≤ many + ks.length ∧ m = many + ks.length - i, ⟨_, none, rfl, same_new nD2, upd_same, Nat.zero_le _, rfl⟩, ?_⟩
      rintro i m σ' H3 ⟨x0, rfl, s3, hD3, hi, rfl⟩
      by_cases hlt : i < many + ks.length
      · refine .inr ⟨hlt, fun σ' H' => ∃ x0, σ' = [x0] ∧ Same H2 H' ∧ H' D2 = some (.lst (((List.range (i + 1)).map wordN).map V.str)), fun σ' H' ⟨x0, e1, e2, e3⟩ => ⟨_, Nat.sub_lt_sub_left hlt (Nat.lt_succ_self i), x0, e1, e2, e3, hlt, rfl⟩, ?_⟩
        rintro C s0 H0 fp x H4 ⟨rfl, rfl⟩
        refine ⟨_, rfl, i, by show [V.int ((0 : Int) + (i : Int))] = _; rw [Int.zero_add], by omega, _, hD3, small (by rw [List.length_map, List.length_map, List.length_range]; omega), _, rfl, ?_, ?_⟩
        · intro b o q
          rw [upd_ne fun z => by rw [z, nD2] at q; cases q]
          exact s3 _ _ q
        · rw [upd_same, List.range_succ, List.map_append, List.map_append]
          rfl
      · have hie : i = many + ks.length := by omega
        subst hie
        refine .inl ⟨Nat.le_refl _, ?_⟩
        have hd3 := s3 _ _ hd
        refine ⟨_, rfl, D2, _, rfl, SqL.of hD3, fun D3 nD3 => ?_⟩
        refine ⟨fun i σ' H' => ∃ x0, σ' = [x0, some (.ref d)] ∧ Same H3 H' ∧ H' D3 = some (.lst (((((List.range (many + ks.length)).map wordN).take i).filter fun w => decide (w ∉ ks)).map V.str)), ⟨none, rfl, same_new nD3, upd_same⟩, ?_, ?_, ?_⟩
        · rintro i σ' H' _ ⟨_, _, sm4, _⟩
          exact SqL.of (sm4 _ _ hD3)
        · rintro C s0 H0 i x σ' H4 hi4 ⟨x0, rfl, s4, hD4⟩
          rw [List.getElem?_map] at hi4
          cases hx : ((List.range (many + ks.length)).map wordN)[i]? with
          | none => rw [hx] at hi4; cases hi4
          | some wd =>
            rw [hx] at hi4
            cases hi4
            have hd4 := s4 _ _ hd3
            have nxt : ((((List.range (many + ks.length)).map wordN).take (i + 1)).filter fun w => decide (w ∉ ks)) = ((((List.range (many + ks.length)).map wordN).take i).filter fun w => decide (w ∉ ks)) ++ (if wd ∈ ks then [] else [wd]) := by
              rw [List.take_add_one, hx, List.filter_append]
              congr 1
              by_cases hk : wd ∈ ks
              · simp [hk]
              · simp [hk]
            have lf : ((((List.range (many + ks.length)).map wordN).take i).filter fun w => decide (w ∉ ks)).length ≤ 2000 := by
              refine Nat.le_trans (List.length_filter_le _ _) ?_
              rw [List.length_take, List.length_map, List.length_range]
              omega
            refine ⟨_, rfl, _, rfl, d, _, rfl, DGet.k (k := (Sum.inr wd : Key)) hd4, ?_⟩
            rw [val_true]
            by_cases hk : wd ∈ ks
            · rw [decide_eq_true hk]
              refine ⟨_, rfl, iteF ⟨_, rfl, s4, ?_⟩⟩
              rw [nxt, if_pos hk, List.append_nil]
              exact hD4
            · rw [decide_eq_false hk]
              refine ⟨_, rfl, iteT ⟨_, rfl, _, hD4, small (by rw [List.length_map]; omega), _, rfl, ?_, ?_⟩⟩
              · intro b o q
                rw [upd_ne fun z => by rw [z, nD3] at q; cases q]
                exact s4 _ _ q
              · rw [upd_same, nxt, if_neg hk, List.map_append]
                rfl
        · rintro σ' H4 ⟨x0, rfl, s4, hD4⟩
          rw [List.length_map, List.take_length] at hD4
          have sAll : Same H H4 := ((sm.trans s2).trans s3).trans s4
          refine ⟨_, rfl, _, rfl, D3, _, rfl, SqL.of hD4, fun fw H5 nf s5 h5 => k fw ks H5 (sAll.trans s5) hmem hks ?_⟩
          rw [h5]
          congr 2
          unfold freeW
          rw [cut_take, List.map_take]
end
end NC
/-! ### terms told by words -/
namespace NC
open PySem PySem.Spec PyProof.Rows L2
inductive Sp_leafWI (ws : List Str) (J : Hp → Prop) (vs : List V) (H : Hp) (Q : VK) : Prop where
  | mk (v : V) (t : Tm) (k : Nat) (c1 : vs = [v, .int (k : Int)]) (c2 : T.leaf t = true) (c3 : TermAt H v t) (c4 : k ≤ ws.length) (c5 : ∀ i, t = .place i → i < k) (c6 : J H) (c7 : ∀ v' H', Same H H' → NamedAt H' v' (t.nm ws k) → Q v' H')
def sp_leafW (ws : List Str) (J : Hp → Prop) : Sp := fun vs H Q _ => Sp_leafWI ws J vs H Q
inductive Sp_overWI (ws : List Str) (J : Hp → Prop) (vs : List V) (H : Hp) (Q : VK) : Prop where
  | mk (v : V) (b : NT) (k : Nat) (c1 : vs = [v, .int (k : Int)]) (c2 : NamedAt H v b) (c3 : k < ws.length) (c4 : J H) (c5 : ∀ v' H', Same H H' → NamedAt H' v' (.form (ws.getD k ⟨#[]⟩) b) → Q v' H')
def sp_overW (ws : List Str) (J : Hp → Prop) : Sp := fun vs H Q _ => Sp_overWI ws J vs H Q
inductive Sp_builtWI (kf : Nat) (P : Program) (w : World) (K : PySem.W.Frag) (mg : Str → Option Value) (base : Heap) (vs : List V) (H : Hp) (Q : VK) : Prop where
  | mk (l : Addr) (rs : List V) (t : Tm) (f1 f2 : Addr) (ps1 ps2 : List Str) (J1 J2 : Hp → Prop) (ws : List Str) (c1 : vs = [.ref l, .ref f1, .ref f2]) (c2 : H l = some (.lst rs)) (c3 : Paired (PairAt H) rs (t.parts 0)) (c4 : t.size ≤ 100000) (c5 : FV P w K mg base CX0 kf f1 ps1 (sp_leafW ws J1)) (c6 : FV P w K mg base CX0 kf f2 ps2 (sp_overW ws J2)) (c7 : ∀ H', Same H H' → J1 H' ∧ J2 H') (c8 : t.closed 0) (c9 : ∀ q ∈ t.parts 0, q.2 ≤ ws.length) (c10 : ∀ v' H', Same H H' → NamedAt H' v' (t.nm ws 0) → Q v' H')
def sp_builtW (kf : Nat) (P : Program) (w : World) (K : PySem.W.Frag) (mg : Str → Option Value) (base : Heap) : Sp := fun vs H Q u3_ => Sp_builtWI kf P w K mg base vs H Q
section
variable {P : Program} {w : World} {K : PySem.W.Frag} {mg : Str → Option Value} {base : Heap}
seal L2.PE L2.PA L2.PT L2.PS L2.PSs L2.PW L2.PG L2.PGs L2.PI L2.PO L2.OpR L2.UnR L2.CallR L2.TruR L2.IxR L2.SlR
inductive InvRebW (ws : List Str) (H : Hp) (u1 u2 : V) (t : Tm) (p l : Addr) (rs : List V) (i : Nat) (σ : L2.St) (H' : Hp) : Prop where
  | mk (vs : List V) (S : List NT) (x3 x4 x5 : Option V) (c1 : σ = [some (.ref l), some u1, some u2, some (.ref p), x3, x4, x5]) (c2 : Same H H') (c3 : NPileAt H' p vs S) (c4 : S.length ≤ i) (c5 : runW ws ((t.parts 0).reverse.drop i) S = some [t.nm ws 0])
theorem ok_builtW {f : Addr} {fd : FuncData} {kf : Nat} (F : Fun K "built" "built" s_built f fd) (N_ : NoNames mg) : FnOk P w K mg base CX0 (kf + 1) f fd ["found", "leaf", "over"] (sp_builtW kf P w K mg base) := by
  refine F.ok sc_built (fun vs H Q E h => ?_) (fun cdv A outer s H vs Q E hr h => ?_)
  · obtain ⟨l, rs, t, f1, f2, ps1, ps2, J1, J2, ws, rfl, _⟩ := h
    rfl
  · obtain ⟨l, rs, t, f1, f2, ps1, ps2, J1, J2, ws, rfl, hl0, hr0, hsz, hfv1, hfv2, hJ, hcl, hfit, k⟩ := h
    have hrF : Room kf (A.deeper (envOfC "built" (defScope s_built) s.heap.objs.size _ cdv)) := hr
    refine ⟨_, (pss_cons (ps_set (i := 3) sc_built.nd rfl (Or.inl rfl) (pLst pa_nil))
      (pss_cons (ps_for PassesOwn.never rfl (pi_rev rfl N_.reversed (pv 0)) (pg_tup rfl (pgs_cons (pg_name (i := 4) sc_built.nd rfl (Or.inl rfl)) (pgs_cons (pg_name (i := 5) sc_built.nd rfl (Or.inl rfl)) pgs_nil))) (pss_one (ps_if (pt_cmpR op_eq (pe_ix ix_tup (pv 4) pe_int (fun _ _ => rfl)) pe_str (nomark _)) (pss_one (ps_expr (pApp (pv 3) (pe_fvE 2 hrF pass0 (pa_c (pPop (pv 3)) (pa_c (pv 5) pa_nil)))))) (pss_one (ps_if (pt_cmpR op_eq (pe_ix ix_tup (pv 4) pe_int (fun _ _ => rfl)) pe_str (nomark _)) (pss_cons (ps_set (i := 6) sc_built.nd rfl (Or.inl rfl) (pPop (pv 3)))
      (pss_one (ps_expr (pApp (pv 3) (pTup (pa_c pe_str (pa_c (pv 6) (pa_c (pPop (pv 3)) pa_nil)))))))) (pss_one (ps_expr (pApp (pv 3) (pe_fvE 1 hrF pass0 (pa_c (pv 4) (pa_c (pv 5) pa_nil)))))))))))
      (pss_one (ps_ret (pPop (pv 3)))))), ?_⟩
    show (let V1_ : TS := _; let V2_ : TS := _; let V3_ : TS := _; let V4_ : TS := tSeq _ V3_; let V5_ : TS := _; let V6_ : TS := tIfS _ V4_ V5_; let V7_ : TS := tIfS _ V2_ V6_; let V8_ : TS := tSeq (tFor _ _ V7_) V1_; tSeq _ V8_ _ _ _)
    intro V1_ V2_ V3_ V4_ V5_ V6_ V7_ V8_
    refine ⟨small' (by simp), fun p H1 np s1 hp1 => ?_⟩
    have hlen : rs.length = t.size := by rw [Paired.length hr0, parts_len]
    refine ⟨_, rfl, l, rs, rfl, SqL.of (s1 _ _ hl0), for_rev (K := K) (a := l) (xs := rs) (InvRebW ws H (.ref f1) (.ref f2) t p l rs) ?_ ?_ ?_ ?_⟩
    · exact ⟨[], [], none, none, none, rfl, s1, ⟨hp1, .nil⟩, Nat.le_refl _, runW_all ws t 0⟩
    · rintro i σ H' _ ⟨_, _, _, _, _, _, h, _⟩
      exact SqL.of (h _ _ hl0)
    · rintro i x σ H3 hi ⟨vs, S, x3, x4, x5, rfl, s3, hp3, hS, hrun⟩
      obtain ⟨⟨t1, k1⟩, hi2, a, tv, rfl, ha, htv⟩ := paired_get (paired_rev (paired_imp (fun _ _ z => PairAt.mono z (.of_same s3)) hr0)) hi
      have htv : TermAt H3 tv t1 := htv
      have hin : (t1, k1) ∈ t.parts 0 := List.mem_reverse.mp (List.mem_of_getElem? hi2)
      have hlt : i < t.size := by
        have := (List.getElem?_eq_some_iff.mp hi).1
        rw [List.length_reverse] at this
        omega
      have hd : (t.parts 0).reverse.drop i = (t1, k1) :: (t.parts 0).reverse.drop (i + 1) := by
        rw [List.drop_eq_getElem_cons (List.getElem?_eq_some_iff.mp hi2).1, (List.getElem?_eq_some_iff.mp hi2).2]
      rw [hd] at hrun
      refine ⟨a, _, rfl, SqT.of ha, rfl, _, _, rfl, _, _, rfl, rfl, ?_⟩
      have fin : ∀ {H7 : Hp} {vs7 : List V} {S7 : List NT} {u : V} {y : NT} {x5 : Option V}, Same H H7 → H7 p = some (.lst vs7) → Paired (NamedAt H7) vs7 S7.reverse → NamedAt H7 u y → S7.length ≤ i → runW ws ((t.parts 0).reverse.drop (i + 1)) (y :: S7) = some [t.nm ws 0] →
          ∀ H8, Keep [p] H7 H8 → H8 p = some (.lst (vs7 ++ [u])) → InvRebW ws H (.ref f1) (.ref f2) t p l rs (i + 1) [some (.ref l), some (.ref f1), some (.ref f2), some (.ref p), some tv, some (.int (k1 : Int)), x5] H8 := by
        intro H7 vs7 S7 u y x5 s7 hp7 q7 hu hS7 hrun7 H8 k8 hp8
        have tu8 := keep1_tups k8 hp7
        refine ⟨_, y :: S7, _, _, _, rfl, same_keep1 s7 k8 np, ⟨hp8, ?_⟩, by rw [List.length_cons]; omega, hrun7⟩
        rw [List.reverse_cons]
        exact paired_snoc (hu.mono tu8) (nameds_kp q7 k8 hp7)
      cases htv with
      | @name a1 w1 h =>
        exact ⟨_, rfl, _, _, _, _, rfl, rfl, SqT.of h, at0, rfl, _, rfl, ifF n_nf ⟨_, rfl, _, _, _, _, rfl, rfl, SqT.of h, at0, rfl, _, rfl, ifF n_nc ⟨_, rfl, Or.inl ⟨rfl, _, SqL.of hp3.1⟩, f1, _, _, rfl, hfv1, _, rfl, _, rfl, _, _, k1, rfl, rfl, (.name h), hfit _ hin, fun i e => closed_parts t 0 hcl _ hin i e, (hJ _ s3).1, fun v' H4 s4 hv' => ⟨_, _, _, rfl, rfl, s4 _ _ hp3.1, small (by have := hp3.len; omega), fun H8 k8 hp8 => fin (s3.trans s4) (s4 _ _ hp3.1) (nameds_mono hp3.2 (.of_same s4)) hv' hS hrun H8 k8 hp8⟩⟩⟩⟩
      | @place a1 n1 h =>
        exact ⟨_, rfl, _, _, _, _, rfl, rfl, SqT.of h, at0, rfl, _, rfl, ifF n_pf ⟨_, rfl, _, _, _, _, rfl, rfl, SqT.of h, at0, rfl, _, rfl, ifF n_pc ⟨_, rfl, Or.inl ⟨rfl, _, SqL.of hp3.1⟩, f1, _, _, rfl, hfv1, _, rfl, _, rfl, _, _, k1, rfl, rfl, (.place h), hfit _ hin, fun i e => closed_parts t 0 hcl _ hin i e, (hJ _ s3).1, fun v' H4 s4 hv' => ⟨_, _, _, rfl, rfl, s4 _ _ hp3.1, small (by have := hp3.len; omega), fun H8 k8 hp8 => fin (s3.trans s4) (s4 _ _ hp3.1) (nameds_mono hp3.2 (.of_same s4)) hv' hS hrun H8 k8 hp8⟩⟩⟩⟩
      | @form a1 bv b h hb =>
        obtain ⟨x, S', rfl, hrun⟩ := runW_form hrun
        obtain ⟨vs', u, rfl, hu, hv'⟩ := hp3.pop
        have ln := hp3.len
        rw [List.length_append, List.length_singleton, List.length_cons] at ln
        rw [List.length_cons] at hS
        have hk1 : k1 < ws.length := hfit _ (form_parts t 0 hin)
        refine ⟨_, rfl, _, _, _, _, rfl, rfl, SqT.of h, at0, rfl, _, rfl, ifT rfl ?_⟩
        refine ⟨_, rfl, Or.inl ⟨rfl, _, SqL.of hp3.1⟩, f2, _, _, rfl, hfv2, _, rfl, Or.inl ⟨rfl, _, SqL.of hp3.1⟩, p, vs', u, rfl, rfl, hp3.1, fun H6 k6 hp6 => ⟨_, rfl, u, x, k1, rfl, hu.mono (keep1_tups k6 hp3.1), hk1, (hJ _ (same_keep1 s3 k6 np)).2, fun v' H9 s9 h9 => ?_⟩⟩
        have hp9 := s9 _ _ hp6
        have k39 := k6.trans (Keep.of_same s9)
        refine ⟨_, _, _, rfl, rfl, hp9, small (by omega), fun H8 k8 hp8 => ?_⟩
        exact fin (same_keep1 s3 k39 np) hp9 (nameds_kp hv' k39 hp3.1) h9 (by omega) hrun H8 k8 hp8
      | @call a1 xv yv x y h hx hy =>
        obtain ⟨x, y, S', rfl, hrun⟩ := runW_call hrun
        obtain ⟨vs1, u, rfl, hu, hv1⟩ := hp3.pop
        have ln := hp3.len
        refine ⟨_, rfl, _, _, _, _, rfl, rfl, SqT.of h, at0, rfl, _, rfl, ifF n_cf ⟨_, rfl, _, _, _, _, rfl, rfl, SqT.of h, at0, rfl, _, rfl, ifT rfl ?_⟩⟩
        refine ⟨_, rfl, Or.inl ⟨rfl, _, SqL.of hp3.1⟩, p, vs1, u, rfl, rfl, hp3.1, fun H6 k6 hp6 => ?_⟩
        have P6 : NPileAt H6 p vs1 (y :: S') := ⟨hp6, nameds_kp hv1 k6 hp3.1⟩
        obtain ⟨vs', z, rfl, hz, hv'⟩ := P6.pop
        rw [List.length_append, List.length_append, List.length_singleton, List.length_singleton, List.length_cons, List.length_cons] at ln
        rw [List.length_cons, List.length_cons] at hS
        refine ⟨_, rfl, Or.inl ⟨rfl, _, SqL.of hp6⟩, _, rfl, _, rfl, Or.inl ⟨rfl, _, SqL.of hp6⟩, p, vs', z, rfl, rfl, hp6, fun H7 k7 hp7 => ⟨small' (by show 3 ≤ 1000000; decide), fun b9 H9 n9 s9 h9 => ?_⟩⟩
        have hp9 := s9 _ _ hp7
        have k69 := k7.trans (Keep.of_same s9)
        have k39 := k6.trans k69
        have tu39 := keep1_tups k39 hp3.1
        refine ⟨_, _, _, rfl, rfl, hp9, small (by omega), fun H8 k8 hp8 => ?_⟩
        exact fin (same_keep1 s3 k39 np) hp9 (nameds_kp hv' k69 hp6) (.call h9 (hu.mono tu39) (hz.mono (keep1_tups k69 hp6))) (by omega) hrun H8 k8 hp8
    · rintro σ H3 ⟨vs, S, x3, x4, x5, rfl, s3, hp3, hS, hrun⟩
      rw [List.drop_eq_nil_of_le (by rw [List.length_reverse, parts_len, hlen]; exact Nat.le_refl _)] at hrun
      cases (Option.some.inj hrun)
      obtain ⟨vs', u, rfl, hu, hv'⟩ := hp3.pop
      cases paired_nil hv'
      refine ⟨_, rfl, Or.inl ⟨rfl, _, SqL.of hp3.1⟩, p, [], u, rfl, rfl, hp3.1, fun H6 k6 hp6 => ?_⟩
      exact k u H6 (same_keep1 s3 k6 np) (hu.mono (keep1_tups k6 hp3.1))
end
end NC
/-! ### named, where it may raise -/
namespace NC
open PySem PySem.Spec PyProof.Rows L2
section
variable {P : Program} {w : World} {K : PySem.W.Frag} {mg : Str → Option Value} {base : Heap}
seal L2.PE L2.PA L2.PT L2.PS L2.PSs L2.PW L2.PG L2.PGs L2.PI L2.PO L2.OpR L2.UnR L2.CallR L2.TruR L2.IxR L2.SlR
abbrev s_named_told_by_word : Stmt := inDef (top 19) 3
abbrev s_named : Stmt := top 19
theorem sc_named : FnScope ["term", "found", "words", "told_by_word"] ["term"] (defScope s_named) := ⟨rfl, rfl, rfl, by decide +kernel, rfl, by decide +kernel, by decide +kernel⟩
abbrev l_named_0 : Expr := retArg s_named 4 2
def q_named_0 : Str := ("named" : Str) ++ ".<locals>." ++ "<lambda>"
theorem sl_named_0 : CloScope ["body", "forms"] ["words"] (lamScope l_named_0) := ⟨rfl, rfl, rfl, by decide +kernel, by decide +kernel, by decide +kernel, by decide +kernel, by decide +kernel⟩
def q_tbw : Str := ("named" : Str) ++ ".<locals>." ++ "told_by_word"
theorem sc_named_told_by_word : CloScope ["part", "forms"] ["words"] (defScope s_named_told_by_word) := ⟨rfl, rfl, rfl, by decide +kernel, by decide +kernel, by decide +kernel, by decide +kernel, by decide +kernel⟩
/-- the words and the code are there -/
def WJ (fw c : Addr) (q : Str) (ws : List Str) (H : Hp) : Prop := H fw = some (.lst (ws.map V.str)) ∧ H c = some (CodeX c q)
theorem word_at {ws : List Str} {i : Int} {n : Nat} (e : i = (n : Int)) (h : n < ws.length) : atI (ws.map V.str) i = some (.str (ws.getD n ⟨#[]⟩)) := by
  rw [e]
  refine atI_nat ?_
  rw [List.getElem?_map, List.getElem?_eq_getElem h, List.getD_eq_getElem?_getD, List.getElem?_eq_getElem h]
  rfl
theorem ok_tbw {f c cw fw : Addr} {doc pm ctv u : Value} {ws : List Str} (ho : base.get? f = some (fnObjX "told_by_word" q_tbw (defArgs s_named_told_by_word) (defBody s_named_told_by_word) (defScope s_named_told_by_word) [("words", cw)] doc pm c ctv))
    (hcell : base.IsCell cw (some u)) (hu : RelV (.ref fw) u) : FV P w K mg base CX0 1 f ["part", "forms"] (sp_leafW ws (WJ fw c q_tbw ws)) := by
  refine ⟨_, _, _, _, fn_cloT (k := 0) (CX := CX0) (fvs := [.ref fw]) ho sc_named_told_by_word (.cons ⟨cw, u, rfl, hcell, hu⟩ .nil) ?_ ?_ ?_ ?_ ?_, ho, ?_⟩
  · intro x c' h
    have := PySem.mem_of_lookup h
    simp at this
    simp [this]
  · intro x y c' h1 h2
    have e1 := PySem.mem_of_lookup h1
    have e2 := PySem.mem_of_lookup h2
    simp at e1 e2
    rw [e1.1, e2.1]
  · intro vs H Q E h
    obtain ⟨v, t, k, rfl, _⟩ := h
    rfl
  · intro vs H Q E h
    obtain ⟨v, t, k, rfl, _, _, _, _, j, _⟩ := h
    exact j.2
  · intro A outer s H vs Q E hr h
    obtain ⟨v, t, n, rfl, hlf, ht, hn, hpl, hj, k⟩ := h
    refine ⟨_, (pss_cons (ps_if (pt_cmpR op_eq (pe_ix ix_tup (pv 0) pe_int (fun _ _ => rfl)) pe_str (nomark _)) (pss_one (ps_ret (pTup (pa_c pe_str (pa_c (pe_ix ix_list (pv 2) (pe_op op_sub (pe_op op_sub (pv 1) pe_int) (pe_ix ix_tup (pv 0) pe_int (fun _ _ => rfl))) (fun _ _ => rfl)) pa_nil))))) pss_nil)
      (pss_one (ps_ret (pv 0)))), ?_⟩
    show (let V1_ : TS := _; let V2_ : TS := _; tSeq (tIfS _ V2_ _) V1_ _ _ _)
    intro V1_ V2_
    cases ht with
    | form h hb => cases hlf
    | call h hx hy => cases hlf
    | name h => exact ⟨_, rfl, _, _, _, _, rfl, rfl, SqT.of h, at0, rfl, _, rfl, ifF n_np (⟨_, rfl, k _ _ (.refl _) (.name h)⟩)⟩
    | @place a i h =>
      have hi := hpl i rfl
      refine ⟨_, rfl, _, _, _, _, rfl, rfl, SqT.of h, at0, rfl, _, rfl, ifT rfl ?_⟩
      refine ⟨_, rfl, _, rfl, _, _, rfl, rfl, _, rfl, _, _, _, _, rfl, rfl, SqT.of h, at1, _, _, rfl, rfl, _, _, _, _, rfl, rfl, SqL.of hj.1, word_at (n := n - 1 - i) (by omega) (by omega), small' (by show 2 ≤ 1000000; decide), fun b9 H9 n9 s9 h9 => k _ _ s9 (.name h9)⟩
  · exact .all fun us hl => by obtain ⟨a, b, rfl⟩ := len2 hl; rfl
theorem ok_overW {f c cw fw : Addr} {pm ctv u : Value} {ws : List Str} (ho : base.get? f = some (PySem.W.kla_obj "<lambda>" q_named_0 (lamArgs l_named_0) (lamBody l_named_0) (lamScope l_named_0) [("words", cw)] pm c ctv))
    (hcell : base.IsCell cw (some u)) (hu : RelV (.ref fw) u) : FV P w K mg base CX0 1 f ["body", "forms"] (sp_overW ws (WJ fw c q_named_0 ws)) := by
  refine ⟨_, _, _, _, fn_lamT (k := 0) (CX := CX0) (fvs := [.ref fw]) ho sl_named_0 (.cons ⟨cw, u, rfl, hcell, hu⟩ .nil) ?_ ?_ ?_ ?_ ?_, ho, ?_⟩
  · intro x c' h
    have := PySem.mem_of_lookup h
    simp at this
    simp [this]
  · intro x y c' h1 h2
    have e1 := PySem.mem_of_lookup h1
    have e2 := PySem.mem_of_lookup h2
    simp at e1 e2
    rw [e1.1, e2.1]
  · intro vs H Q E h
    obtain ⟨v, b, k, rfl, _⟩ := h
    rfl
  · intro vs H Q E h
    obtain ⟨v, b, k, rfl, _, _, j, _⟩ := h
    exact j.2
  · intro A outer s H vs Q E hr h
    obtain ⟨v, b, n, rfl, hb, hn, hj, k⟩ := h
    exact ⟨_, (pTup (pa_c pe_str (pa_c (pe_ix ix_list (pv 2) (pv 1) (fun _ _ => rfl)) (pa_c (pv 0) pa_nil)))), _, rfl, _, rfl, _, _, _, _, rfl, rfl, SqL.of hj.1, word_at (n := n) rfl hn, _, rfl, small' (by show 3 ≤ 1000000; decide), fun b9 H9 n9 s9 h9 => k _ _ s9 (.form h9 (hb.same s9))⟩
  · exact .all fun us hl => by obtain ⟨a, b, rfl⟩ := len2 hl; rfl
/-- the table of named's code: nothing yet, or both -/
abbrev uA (c : Addr) : List Value := [rawInt (defPos s_named_told_by_word).line, rawInt (defPos s_named_told_by_word).col, .ref c]
abbrev uB (d : Addr) : List Value := [rawInt (lamPos l_named_0).line, rawInt (lamPos l_named_0).col, .ref d]
inductive NamTab (T0 : Addr) (H : Hp) : Prop where
  | empty (h : H T0 = some (.tbl #[]))
  | both (c d : Addr) (h : H T0 = some (.tbl (uA c ++ uB d).toArray)) (hc : H c = some (CodeX c q_tbw)) (hd : H d = some (CodeX d q_named_0))
inductive NamTab1 (T0 c : Addr) (H : Hp) : Prop where
  | one (h : H T0 = some (.tbl (uA c).toArray))
  | two (d : Addr) (h : H T0 = some (.tbl (uA c ++ uB d).toArray)) (hd : H d = some (CodeX d q_named_0))
theorem NamTab.oth {L : List Addr} {T0 : Addr} {H H' : Hp} (t : NamTab T0 H) (sx : SameX H H') (o : OthT L H H') (n : T0 ∉ L) : NamTab T0 H' := by
  cases t with
  | empty h => exact .empty (o _ n _ h)
  | both c d h hc hd => exact .both c d (o _ n _ h) (sx _ _ (fun _ z => by cases z) hc) (sx _ _ (fun _ z => by cases z) hd)
theorem NamTab.same {T0 : Addr} {H H' : Hp} (t : NamTab T0 H) (s : Same H H') : NamTab T0 H' := t.oth (L := []) (.of s) (fun _ _ _ e => s _ _ e) (by simp)
theorem namA {T0 : Addr} {H : Hp} {D : Ends} {σ : L2.St} {clos : List (Str × Addr)} (t : NamTab T0 H) (k : ∀ f c H1, H f = none → SameX H H1 → OthT [T0] H H1 → NamTab1 T0 c H1 → H1 c = some (CodeX c q_tbw) → H1 f = some (FnObj f c "told_by_word" q_tbw (defArgs s_named_told_by_word) (defBody s_named_told_by_word) (defScope s_named_told_by_word) clos) → D.nx (σ.set 3 (some (.ref f))) H1) :
    TDefGI T0 (defPos s_named_told_by_word) 3 "told_by_word" q_tbw (defArgs s_named_told_by_word) (defBody s_named_told_by_word) (defScope s_named_told_by_word) clos D σ H := by
  cases t with
  | empty h => exact .new #[] h trivial rfl fun f c H' nf sx hP hc hf oth => k f c H' nf sx (fun Q n ps e => oth Q (fun z => n (by rw [z]; exact List.mem_singleton.mpr rfl)) ps e) (.one (by rw [hP]; rfl)) hc hf
  | both c d h hc hd => exact .old _ c h trivial (by rfl) hc fun f H' nf s hf => k f c H' nf (.of s) (fun Q _ ps e => s _ _ e) (.two d (s _ _ h) (s _ _ hd)) (s _ _ hc) hf
theorem namB {T0 c : Addr} {H : Hp} {Q : VK} {clos : List (Str × Addr)} (t : NamTab1 T0 c H) (tc : H c = some (CodeX c q_tbw)) (k : ∀ f d H1, H f = none → SameX H H1 → OthT [T0] H H1 → NamTab T0 H1 → H1 d = some (CodeX d q_named_0) → H1 f = some (FnObjL f d q_named_0 (lamArgs l_named_0) (lamBody l_named_0) (lamScope l_named_0) clos) → Q (.ref f) H1) :
    TLamGI T0 (lamPos l_named_0) q_named_0 (lamArgs l_named_0) (lamBody l_named_0) (lamScope l_named_0) clos H Q := by
  cases t with
  | one h => exact .new _ h trivial (by rfl) fun f d H' nf sx hP hc hf oth => k f d H' nf sx (fun Q n ps e => oth Q (fun z => n (by rw [z]; exact List.mem_singleton.mpr rfl)) ps e) (.both c d (by rw [hP]; rfl) (sx _ _ (fun _ z => by cases z) tc) hc) hc hf
  | two d h hd => exact .old _ d h trivial (by rfl) hd fun f H' nf s hf => k f d H' nf (.of s) (fun Q _ ps e => s _ _ e) (.both c d (s _ _ h) (s _ _ tc) (s _ _ hd)) (s _ _ hd) hf
theorem okEC {x qual : Str} {st : Stmt} {f c0 : Addr} {fd : FuncData} {N ps : List Str} {k : Nat} {sp : Sp} (F : FunC K x qual st f fd c0) (S : FnScope N ps (defScope st)) (len : ∀ vs H Q E, sp vs H Q E → vs.length = ps.length)
    (hbody : ∀ (A : Around) (outer : List Env) (s : Shared) (H : Hp) (vs : List V) (Q : VK) (E : XK), Room k (A.deeper (envOfC qual (defScope st) s.heap.objs.size f (.ref c0))) → sp vs H Q E →
      ∃ t, PSs (cxE P w K mg base N qual (defScope st) f (.ref c0) A outer s H E) (defBody st) t ∧ t { nx := fun _ H' => Q .non H', rt := Q } (L2.start N vs) H) : FnOk P w K mg base (CXE P w) (k + 1) f fd ps sp := by
  obtain ⟨oc, od, kV, doc, pm, an, ct, osl, rfl, lk, hcd⟩ := F.ex
  exact fn_of lk hcd S len fun A outer s H vs Q E hr hsp => hbody A outer s H vs Q E hr hsp
inductive Sp_namedEI (TL : Tabs) (T0 CO : Addr) (vs : List V) (H : Hp) (Q : VK) (E : XK) : Prop where
  | mk (v : V) (t : Tm) (c1 : vs = [v]) (c2 : TermAt H v t) (c3 : t.size ≤ 900) (c4 : TO TL H) (c5 : NamTab T0 H) (c6 : ∀ ks : List Str, ks.Nodup → (∀ x ∈ ks, x ∈ t.nameL) → ks.length < 64)
    (c7 : ((t.parts 0).any fun q => T.outer q.1 q.2) = false → ∀ v' ws H', ws.Nodup → (∀ x ∈ ws, Wd x) → (∀ x ∈ ws, ¬ t.has x) → t.closed 0 → t.fits ws.length 0 → SameX H H' → TO TL H' → NamTab T0 H' → NamedAt H' v' (t.nm ws 0) → Q v' H')
    (c8 : ((t.parts 0).any fun q => T.outer q.1 q.2) = true → ∀ e H', SameX H H' → TO TL H' → NamTab T0 H' → E (.ref e) (some CO) H')
def sp_namedE (TL : Tabs) (T0 CO : Addr) : Sp := fun vs H Q E => Sp_namedEI TL T0 CO vs H Q E
theorem ok_namedE {f c0 T0 CO : Addr} {fd : FuncData} {TL : Tabs} (F : FunC K "named" "named" s_named f fd c0) (hC : PySem.W.codeHdIn K c0 T0 = true) (BB : BltAt base mg) (N_ : NoNames mg) (nT : T0 ∉ TL.map (·.1)) (O_Outer : ExcC "Outer" CO mg base)
    (G_has_outer : GF P w K mg base CX0 4 "has_outer" ["term"] (sp_has_outer TL)) (G_parts_of : GF P w K mg base CX0 3 "parts_of" ["term"] (sp_parts TL)) (G_names_of : GF P w K mg base CX0 4 "names_of" ["term"] (sp_names_of TL)) (G_free_words : GF P w K mg base CX0 2 "free_words" ["many", "taken"] sp_free_words)
    (G_built : GB P w K mg base CX0 2 "built" ["found", "leaf", "over"] (sp_builtW 1 P w K mg)) : FnOk P w K mg base (CXE P w) 5 f fd ["term"] (sp_namedE TL T0 CO) := by
  refine okEC F sc_named (fun vs H Q E h => ?_) (fun A outer s H vs Q E hr h => ?_)
  · obtain ⟨v, t, rfl, _⟩ := h
    rfl
  · obtain ⟨v, t, rfl, ht, hsz, to, tabN, h64, k, kE⟩ := h
    have hh : A.handled = none := hr.hd
    refine ⟨_, (pss_cons (ps_if (pt_val (pe_gf G_has_outer (hr.mono (by decide)) rfl pass0 (pa_c (pv 0) pa_nil))) (pss_one (ps_raise O_Outer hh rfl pe_str)) pss_nil)
      (pss_cons (ps_set (i := 1) sc_named.nd rfl (Or.inl rfl) (pe_gf G_parts_of (hr.mono (by decide)) rfl pass0 (pa_c (pv 0) pa_nil)))
      (pss_cons (ps_set (i := 2) sc_named.nd rfl (Or.inr rfl) (pe_gf G_free_words (hr.mono (by decide)) rfl pass0 (pa_c (pCB (call_maxL hr.hd) (by rfl) N_.max boot_max (pa_c (pe_comp (N := ["part", "forms"]) rfl ⟨rfl, cndO, by decide +kernel, by decide +kernel, by decide +kernel⟩ (pv 1) (fun _ _ _ => ⟨(pg_tup rfl (pgs_cons (pg_name (i := 0) cndO rfl (Or.inl rfl)) (pgs_cons (pg_name (i := 1) cndO rfl (Or.inl rfl)) pgs_nil))), pf_nil, (pv 1)⟩)) pa_nil)) (pa_c (pe_gf G_names_of (hr.mono (by decide)) rfl pass0 (pa_c (pv 0) pa_nil)) pa_nil))))
      (pss_cons (ps_defG (name := "told_by_word") (qual := q_tbw) (params := defArgs s_named_told_by_word) (body := defBody s_named_told_by_word) (scope := defScope s_named_told_by_word) (pos := defPos s_named_told_by_word) (i := 3) (clos := [("words", s.heap.objs.size + 1)]) rfl hC BB sc_named.nd rfl (Or.inl rfl) rfl rfl)
      (pss_one (ps_ret (pe_ex (E := E0) G_built (hr.mono (by decide)) rfl (fun _ _ _ _ _ _ _ _ h => h.elim) (pa_c (pv 1) (pa_c (pv 3) (pa_c (pe_lamG (params := lamArgs l_named_0) (body := lamBody l_named_0) (scope := lamScope l_named_0) (pos := lamPos l_named_0) (qual := q_named_0) (clos := [("words", s.heap.objs.size + 1)]) rfl hC BB rfl rfl) pa_nil)))))))))), ?_⟩
    show (let V1_ : TS := _; let V2_ : TS := tSeq _ V1_; let V3_ : TS := tSeq _ V2_; let V4_ : TS := tSeq _ V3_; let V5_ : TS := _; tSeq (tIfS _ V5_ _) V4_ _ _ _)
    intro V1_ V2_ V3_ V4_ V5_
    refine ⟨_, rfl, v, t, rfl, ht, by omega, to, fun H1 st1 oth1 => ⟨_, rfl, ?_⟩⟩
    cases hno : ((t.parts 0).any fun q => T.outer q.1 q.2) with
    | true => exact iteT ⟨rfl, fun e => kE hno e H1 st1.sx st1.to (tabN.oth st1.sx oth1 nT)⟩
    | false =>
    have hcl : t.closed 0 := closed_of t 0 fun q hq i ei => by
      have h1 := List.any_eq_false.mp hno q hq
      rw [ei] at h1
      exact Nat.lt_of_not_le fun z => h1 (decide_eq_true z)
    refine iteF ⟨_, rfl, v, t, rfl, ht.mono st1.tups, by omega, st1.to, fun l rs H2 st2 oth2 nl hl2 hr2 => ?_⟩
    have hlen : rs.length = t.size := by rw [Paired.length hr2, parts_len]
    refine ⟨_, rfl, l, rs, rfl, SqL.of hl2, fun D nD => ?_⟩
    refine ⟨fun i σ' H' => ∃ x0 x1, σ' = [x0, x1] ∧ Same H2 H' ∧ H' D = some (.lst ((((t.parts 0).take i).map fun q => (q.2 : Int)).map V.int)) ∧ i ≤ t.size, ⟨none, none, rfl, same_new nD, upd_same, Nat.zero_le _⟩, ?_, ?_, ?_⟩
    · rintro i σ' H' _ ⟨_, _, _, sm, _⟩
      exact SqL.of (sm _ _ hl2)
    · rintro C s0 H0 i x σ' H' hi ⟨x0, x1, rfl, sm, hD, hle⟩
      obtain ⟨⟨t1, k1⟩, hi2, a, tv, rfl, ha, htv⟩ := paired_get hr2 hi
      have hlt : i < t.size := by
        have := (List.getElem?_eq_some_iff.mp hi).1
        omega
      refine ⟨a, _, rfl, SqT.of (sm _ _ ha), rfl, _, _, rfl, _, _, rfl, rfl, ?_⟩
      refine rd_yes ⟨_, rfl, _, hD, small (by rw [List.length_map, List.length_map, List.length_take]; omega), _, _, rfl, ?_, ?_, hlt⟩
      · intro b o e
        rw [upd_ne fun z => by rw [z, nD] at e; cases e]
        exact sm b o e
      · rw [upd_same, List.take_add_one, hi2]
        simp
    · rintro σ' H3 ⟨x0, x1, rfl, sm3, hD, hle⟩
      rw [hlen, List.take_of_length_le (by rw [parts_len]; exact Nat.le_refl _)] at hD
      have st3 := (st1.trans st2).same sm3
      refine ⟨D, _, rfl, hD, by rw [List.length_map, parts_len]; exact t.size_pos, fun M hM hMle => ?_⟩
      obtain ⟨⟨tq, many⟩, hqm, rfl⟩ := List.mem_map.mp hM
      have hmany : ∀ q ∈ t.parts 0, q.2 ≤ many := fun q hq => by
        have := hMle _ (List.mem_map.mpr ⟨q, hq, rfl⟩)
        exact Int.ofNat_le.mp this
      have hms : many ≤ 0 + t.size := parts_le t 0 _ hqm
      have hnl : t.nameL.length < 1000 := by
        have h1 : ∀ l : List (Tm × Nat), (l.flatMap fun q => q.1.nameOf).length ≤ l.length := fun l => by
          induction l with
          | nil => exact Nat.le_refl _
          | cons q l ih =>
            rw [List.flatMap_cons, List.length_append, List.length_cons]
            have : q.1.nameOf.length ≤ 1 := by
              cases q.1 <;> simp [T.nameOf]
            omega
        have h2 := h1 (t.parts 0)
        rw [parts_len] at h2
        exact Nat.lt_of_le_of_lt h2 (by omega)
      refine ⟨_, rfl, v, t, rfl, ht.mono st3.tups, by omega, st3.to, ⟨hnl, h64⟩, fun lw ss H4 st4 oth4 nd4 mem4 srt4 ln4 hlw => ?_⟩
      refine ⟨many, lw, ss, rfl, hlw, by omega, by omega, fun fw used H5 s5 hmem hul hfw => ?_⟩
      have st5 := (st3.trans st4).same s5
      have hws := freeW_len many used
      have oth5 : OthT (TL.map (·.1)) H H5 := ((oth1.trans oth2).trans (.of_same sm3)).trans (oth4.trans (.of_same s5))
      have tab5 := tabN.oth st5.sx oth5 nT
      refine namA tab5 fun f c H6 nf6 sx6 oth6 tab6 hc6 hf6 => ?_
      have sx06 : SameX H H6 := st5.sx.trans sx6
      have hfw6 := sx6.lst hfw
      have hl6 : H6 l = some (.lst rs) := sx6.lst (s5 _ _ (st4.sx.lst (sm3 _ _ hl2)))
      refine ⟨_, rfl, _, rfl, ?_⟩
      refine namB tab6 hc6 fun f2 d H7 nf7 sx7 oth7 tab7 hd7 hf7 => ?_
      have to7 : TO TL H7 := fun x hx => by
        have nx : x.1 ∉ [T0] := fun z => nT (by rw [← List.mem_singleton.mp z]; exact List.mem_map.mpr ⟨x, hx, rfl⟩)
        rcases st5.to x hx with q | ⟨c', q, q2⟩
        · exact .inl (oth7 _ nx _ (oth6 _ nx _ q))
        · exact .inr ⟨c', oth7 _ nx _ (oth6 _ nx _ q), sx7 _ _ (fun _ z => by cases z) (sx6 _ _ (fun _ z => by cases z) q2)⟩
      have hf67 : H7 f = some (FnObj f c "told_by_word" q_tbw (defArgs s_named_told_by_word) (defBody s_named_told_by_word) (defScope s_named_told_by_word) [("words", s.heap.objs.size + 1)]) := sx7 _ _ (fun _ z => by cases z) hf6
      have hc7 := sx7 _ _ (fun _ z => by cases z) hc6
      have hfw7 := sx7.lst hfw6
      have hl7 := sx7.lst hl6
      refine ⟨[f2, f, s.heap.objs.size + 1], fun b hb => ?_, fun base' lg => ?_⟩
      · rcases List.mem_cons.mp hb with rfl | hb
        · exact goes_lam hf7
        · rcases List.mem_cons.mp hb with rfl | hb
          · exact goes_fn hf67
          · rw [List.mem_singleton.mp hb]
            exact .inr ⟨"words", rfl, rfl⟩
      · obtain ⟨doc, pm, ctv, ho⟩ := lg.ext f (by simp) _ hf67
        obtain ⟨pm2, ctv2, ho2⟩ := lg.ext f2 (by simp) _ hf7
        obtain ⟨uu, hcl7, huu⟩ := lg.cell 2 "words" _ (s.heap.objs.size + 1) rfl rfl rfl rfl (by simp)
        have kpL : ∀ b o, (∀ φ, o ≠ .ext φ) → H7 b = some o → delH H7 [f2, f, s.heap.objs.size + 1] b = some o := fun b o n e => by
          rw [delH_ne fun z => by obtain ⟨φ, q⟩ := lg.only b z _ e; exact n φ q]
          exact e
        have ncc : c ∉ [f2, f, s.heap.objs.size + 1] := fun z => lg.nocode c z _ hc7
        have ncd : d ∉ [f2, f, s.heap.objs.size + 1] := fun z => lg.nocode d z _ hd7
        have sx07 : SameX H H7 := sx06.trans sx7
        have tu27 : Tups H2 (delH H7 [f2, f, s.heap.objs.size + 1]) := fun b xs e => kpL _ _ (fun _ z => by cases z) (sx7.tups _ _ (sx6.tups _ _ (s5 _ _ (st4.tups _ _ (sm3 _ _ e)))))
        have e1 : delH H7 [f2, f, s.heap.objs.size + 1] fw = some (.lst ((freeW many used).map V.str)) := kpL _ _ (fun _ z => by cases z) hfw7
        have e2 : delH H7 [f2, f, s.heap.objs.size + 1] c = some (CodeX c q_tbw) := (delH_ne ncc).trans hc7
        have e3 : delH H7 [f2, f, s.heap.objs.size + 1] d = some (CodeX d q_named_0) := (delH_ne ncd).trans hd7
        refine ⟨l, rs, t, f, f2, _, _, WJ fw c q_tbw (freeW many used), WJ fw d q_named_0 (freeW many used), freeW many used, rfl, kpL _ _ (fun _ z => by cases z) hl7, paired_imp (fun _ _ z => PairAt.mono z tu27) hr2, by omega, ok_tbw ho hcl7 huu, ok_overW ho2 hcl7 huu, fun H' s' => ⟨⟨s' _ _ e1, s' _ _ e2⟩, ⟨s' _ _ e1, s' _ _ e3⟩⟩, hcl, fun q hq => by rw [hws]; exact hmany q hq, fun v' H8 s8 hv' gone => ?_⟩
        have s78 : Same H7 (addH H8 H7 [f2, f, s.heap.objs.size + 1]) := same_add s8
        refine k hno v' (freeW many used) _ (freeW_nodup _ _) (fun x hx => ?_) (fun x hx => ?_) hcl (by rw [hws]; exact fits_parts t 0 hmany) (sx07.trans (.of s78)) (to7.same s78) (tab7.same s78) (hv'.mono (tups_add gone))
        · obtain ⟨_, n, hn, rfl⟩ := freeW_mem hx
          exact wd_wordN (by omega)
        · intro hh
          obtain ⟨q, hq, e⟩ := (has_parts t 0).mp hh
          refine (freeW_mem hx).1 ((hmem x).mpr ((mem4 x).mpr (List.mem_flatMap.mpr ⟨q, hq, ?_⟩)))
          rw [e]
          exact List.mem_singleton.mpr rfl
end
end NC
/-! ### letters, named terms as such -/
namespace NC
open PySem PySem.Spec PyProof.Rows L2
theorem for_text {z : Str} {g : TG} {tb : TS} {D : Ends} {σ : L2.St} {H : Hp} (Pv : Nat → L2.St → Hp → Prop) (h0 : Pv 0 σ H)
    (hs : ∀ i c σ H, z.cps[i]? = some c → Pv i σ H → g (.str ⟨#[c]⟩) σ H fun σ2 H2 => tb { D with nx := Pv (i + 1), ct := Pv (i + 1), bk := D.nx } σ2 H2) (hd : ∀ σ H, Pv z.cps.size σ H → D.nx σ H) :
    ∃ W : Nat → Nat → L2.St → Hp → Prop, (∃ m, W 0 m σ H) ∧ ∀ i m σ H, W i m σ H →
      ((Its z).stop i H ∧ D.nx σ H) ∨ ((Its z).go i H ∧ ∃ N : L2.St → Hp → Prop, (∀ σ' H', N σ' H' → ∃ m', m' < m ∧ W (i + 1) m' σ' H') ∧ ∀ x H', (Its z).yld i H x H' → g x σ H' fun σ2 H2 => tb { D with nx := N, ct := N, bk := D.nx } σ2 H2) := by
  refine ⟨fun i m σ H => m = z.cps.size - i ∧ i ≤ z.cps.size ∧ Pv i σ H, ⟨_, rfl, Nat.zero_le _, h0⟩, ?_⟩
  rintro i m σ H ⟨rfl, hi, p⟩
  by_cases hlt : i < z.cps.size
  · refine .inr ⟨hlt, Pv (i + 1), fun σ' H' p' => ⟨z.cps.size - (i + 1), by omega, rfl, hlt, p'⟩, fun x H' y => ?_⟩
    obtain ⟨e, c, hc, e2⟩ := y
    subst e e2
    exact hs i c σ _ hc p
  · have e : i = z.cps.size := by omega
    subst e
    exact .inl ⟨Nat.le_refl _, hd σ H p⟩
def NT.cost2 : NT → Nat
  | .name _ => 1
  | .form _ b => b.cost2 + 2
  | .call a b => a.cost2 + b.cost2 + 1
theorem NT.cost2_le : ∀ t : NT, t.cost2 ≤ 2 * t.size
  | .name _ => by simp [NT.cost2, NT.size]
  | .form _ b => by have := b.cost2_le; simp only [NT.cost2, NT.size]; omega
  | .call a b => by have h1 := a.cost2_le; have h2 := b.cost2_le; simp only [NT.cost2, NT.size]; omega
theorem NT.cost2_pos : ∀ t : NT, 1 ≤ t.cost2
  | .name _ => Nat.le_refl _
  | .form _ b => by simp only [NT.cost2]; omega
  | .call a b => by simp only [NT.cost2]; omega
def sumC (ts : List NT) : Nat := (ts.map NT.cost2).sum
theorem sumC_snoc (ts : List NT) (t : NT) : sumC (ts ++ [t]) = sumC ts + t.cost2 := by
  unfold sumC
  rw [List.map_append, List.sum_append]
  simp
theorem len_sumC : ∀ ts : List NT, ts.length ≤ sumC ts
  | [] => Nat.le_refl _
  | t :: r => by
    have h1 := len_sumC r
    have h2 := t.cost2_pos
    show r.length + 1 ≤ t.cost2 + sumC r
    omega
section
variable {P : Program} {w : World} {K : PySem.W.Frag} {mg : Str → Option Value} {base : Heap}
seal L2.PE L2.PA L2.PT L2.PS L2.PSs L2.PW L2.PG L2.PGs L2.PI L2.PO L2.OpR L2.UnR L2.CallR L2.TruR L2.IxR L2.SlR
abbrev s__law_letters : Stmt := top 24
theorem sc__law_letters : FnScope ["_law_found", "_law_sign"] ["_law_found"] (defScope s__law_letters) := ⟨rfl, rfl, rfl, by decide +kernel, rfl, by decide +kernel, by decide +kernel⟩
inductive Sp_lettersI (vs : List V) (H : Hp) (Q : VK) : Prop where
  | mk (wd : _) (c1 : vs = [.str wd]) (c2 : Wd wd) (c3 : Q (.bl true) H)
def sp_letters : Sp := fun vs H Q u3_ => Sp_lettersI vs H Q
theorem ok__law_letters {f : Addr} {fd : FuncData} (F : Fun K "_law_letters" "_law_letters" s__law_letters f fd) (N_ : NoNames mg) : FnOk P w K mg base CX0 1 f fd ["_law_found"] sp_letters := by
  refine F.ok sc__law_letters (fun vs H Q E h => ?_) (fun cdv A outer s H vs Q E hr h => ?_)
  · obtain ⟨wd, rfl, _⟩ := h
    rfl
  · obtain ⟨wd, rfl, hwd, k⟩ := h
    refine ⟨_, (pss_cons (ps_if (PW.pt (pw_or (pt_not (pt_val (pCB call_isi (by rfl) N_.isinstance boot_isinstance (pa_c (pv 0) (pa_c (pe_bltn (v := V.ty "str") rfl N_.str boot_str rfl) pa_nil))))) (pw_or1 (pt_cmpR op_eq (pv 0) pe_str (nomark _))))) (pss_one (ps_ret pe_bl)) pss_nil)
      (pss_cons (ps_for PassesOwn.never rfl (pi_text (pv 0)) (pg_name (i := 1) sc__law_letters.nd rfl (Or.inl rfl)) (pss_one (ps_if (pt_cmpR op_notin_str (pv 1) pe_str rfl) (pss_one (ps_ret pe_bl)) pss_nil)))
      (pss_one (ps_ret pe_bl)))), ?_⟩
    show (let V1_ : TS := _; let V2_ : TS := _; let V3_ : TS := tIfS _ V2_ _; let V4_ : TS := tSeq (tFor _ _ V3_) V1_; let V5_ : TS := _; tSeq (tIfS _ V5_ _) V4_ _ _ _)
    intro V1_ V2_ V3_ V4_ V5_
    refine ⟨_, rfl, _, _, _, _, rfl, .str _, kit_ss K, _, rfl, iteF ⟨_, rfl, rfl, _, rfl, ifF (fun z => ?_) ?_⟩⟩
    · have e := V.str.inj z
      have e0 : (Str.ofString "").cps.toList = [] := by decide +kernel
      exact hwd.1 (by rw [e, e0])
    · refine ⟨_, rfl, wd, rfl, ?_, for_text (fun i σ H' => H' = H ∧ ∃ x1, σ = [some (.str wd), x1]) ⟨rfl, none, rfl⟩ ?_ ?_⟩
      · rw [← Array.all_toList, List.all_eq_true]
        intro c hc
        have := hwd.2.2 c hc
        exact decide_eq_true (by omega)
      · rintro i c σ H' hc ⟨rfl, x1, rfl⟩
        have hcm := hwd.2.2 c (List.mem_of_getElem? (i := i) (by simpa using hc))
        refine ⟨_, rfl, _, _, rfl, rfl, _, rfl, ?_⟩
        rw [in_letters c (by omega), decide_eq_true hcm]
        exact iteF ⟨rfl, _, rfl⟩
      · rintro σ H' ⟨rfl, x1, rfl⟩
        exact k
abbrev s__law_is_named : Stmt := top 25
theorem sc__law_is_named : FnScope ["_law_found", "_law_todo", "_law_part"] ["_law_found"] (defScope s__law_is_named) := ⟨rfl, rfl, rfl, by decide +kernel, rfl, by decide +kernel, by decide +kernel⟩
inductive Sp_is_namedI (vs : List V) (H : Hp) (Q : VK) : Prop where
  | mk (v : _) (t : NT) (c1 : vs = [v]) (c2 : NamedAt H v t) (c3 : t.ok) (c4 : t.size ≤ 1000) (c5 : ∀ H', Same H H' → Q (.bl true) H')
def sp_is_named : Sp := fun vs H Q u3_ => Sp_is_namedI vs H Q
inductive InvIsNamedI (H : Hp) (v : V) (t : NT) (d : Addr) (m : Nat) (σ : L2.St) (H' : Hp) : Prop where
  | mk (its : _) (xs : _) (x2 : _) (c1 : σ = [some v, some (.ref d), x2]) (c2 : Same H H') (c3 : H' d = some (.lst xs)) (c4 : Paired (NamedAt H') xs its) (c5 : (∀ q ∈ its, q.ok)) (c6 : m = sumC its) (c7 : sumC its ≤ t.cost2)
def InvIsNamed (H : Hp) (v : V) (t : NT) (d : Addr) (m : Nat) (σ : L2.St) (H' : Hp) : Prop := InvIsNamedI H v t d m σ H'
theorem ok__law_is_named {f : Addr} {fd : FuncData} (F : Fun K "_law_is_named" "_law_is_named" s__law_is_named f fd) (N_ : NoNames mg) (G__law_letters : GF P w K mg base CX0 1 "_law_letters" ["_law_found"] sp_letters) : FnOk P w K mg base CX0 2 f fd ["_law_found"] sp_is_named := by
  refine F.ok sc__law_is_named (fun vs H Q E h => ?_) (fun cdv A outer s H vs Q E hr h => ?_)
  · obtain ⟨v, t, rfl, _⟩ := h
    rfl
  · obtain ⟨v, t, rfl, ht, hok, hsz, k⟩ := h
    have hu0 := hr.units0
    have hcost := t.cost2_le
    refine ⟨_, (pss_cons (ps_set (i := 1) sc__law_is_named.nd rfl (Or.inl rfl) (pLst (pa_c (pv 0) pa_nil)))
      (pss_cons (ps_while PassesOwn.never (pt_cmpR (op_neNil hu0) (pv 1) (pLst pa_nil) (nomark _)) (pss_cons (ps_set (i := 2) sc__law_is_named.nd rfl (Or.inl rfl) (pPop (pv 1)))
      (pss_cons (ps_if (PW.pt (pw_or (pt_not (pt_val (pCB call_isi (by rfl) N_.isinstance boot_isinstance (pa_c (pv 2) (pa_c (pe_bltn (v := V.ty "tuple") rfl N_.tuple boot_tuple rfl) pa_nil))))) (pw_or1 (pt_cmpR op_lt (pCB call_len_seq (by rfl) N_.len boot_len (pa_c (pv 2) pa_nil)) pe_int (nomark _))))) (pss_one (ps_ret pe_bl)) pss_nil)
      (pss_cons (ps_if (pt_not (pt_val (pCB call_isi (by rfl) N_.isinstance boot_isinstance (pa_c (pe_ix ix_tup (pv 2) pe_int (fun _ _ => rfl)) (pa_c (pe_bltn (v := V.ty "str") rfl N_.str boot_str rfl) pa_nil))))) (pss_one (ps_ret pe_bl)) pss_nil)
      (pss_one (ps_if (PW.pt (pw_and (pt_cmpR op_eq (pe_ix ix_tup (pv 2) pe_int (fun _ _ => rfl)) pe_str (nomark _)) (pw_and1 (pt_cmpR op_eq (pCB call_len_seq (by rfl) N_.len boot_len (pa_c (pv 2) pa_nil)) pe_int (nomark _))))) (pss_cons (ps_expr (pApp (pv 1) (pe_ix ix_tup (pv 2) pe_int (fun _ _ => rfl))))
      (pss_one (ps_expr (pApp (pv 1) (pe_ix ix_tup (pv 2) pe_int (fun _ _ => rfl)))))) (pss_one (ps_if (PW.pt (pw_and (pt_cmpR op_eq (pe_ix ix_tup (pv 2) pe_int (fun _ _ => rfl)) pe_str (nomark _)) (pw_and1 (pt_cmpR op_eq (pCB call_len_seq (by rfl) N_.len boot_len (pa_c (pv 2) pa_nil)) pe_int (nomark _))))) (pss_cons (ps_expr (pApp (pv 1) (pTup (pa_c pe_str (pa_c (pe_ix ix_tup (pv 2) pe_int (fun _ _ => rfl)) pa_nil)))))
      (pss_one (ps_expr (pApp (pv 1) (pe_ix ix_tup (pv 2) pe_int (fun _ _ => rfl)))))) (pss_one (ps_if (PW.pt (pw_or (pt_cmpR op_ne (pe_ix ix_tup (pv 2) pe_int (fun _ _ => rfl)) pe_str (nomark _)) (pw_or (pt_cmpR op_ne (pCB call_len_seq (by rfl) N_.len boot_len (pa_c (pv 2) pa_nil)) pe_int (nomark _)) (pw_or1 (pt_not (pt_val (pe_gf G__law_letters (hr.mono (by decide)) rfl pass0 (pa_c (pe_ix ix_tup (pv 2) pe_int (fun _ _ => rfl)) pa_nil)))))))) (pss_one (ps_ret pe_bl)) pss_nil))))))))))
      (pss_one (ps_ret pe_bl)))), ?_⟩
    show (let V1_ : TS := _; let V2_ : TS := _; let V3_ : TS := tSeq _ V2_; let V4_ : TS := _; let V5_ : TS := tSeq _ V4_; let V6_ : TS := _; let V7_ : TS := tIfS _ V6_ _; let V8_ : TS := tIfS _ V5_ V7_; let V9_ : TS := tIfS _ V3_ V8_; let V10_ : TS := _; let V11_ : TS := tSeq (tIfS _ V10_ _) V9_; let V12_ : TS := _; let V13_ : TS := tSeq (tIfS _ V12_ _) V11_; let V14_ : TS := tSeq _ V13_; let V15_ : TS := tSeq (tWhile _ V14_) V1_; tSeq _ V15_ _ _ _)
    intro V1_ V2_ V3_ V4_ V5_ V6_ V7_ V8_ V9_ V10_ V11_ V12_ V13_ V14_ V15_
    refine ⟨_, rfl, small' (by simp), fun d H4 nd s4 hd4 => ?_⟩
    refine ⟨InvIsNamed H v t d, ⟨sumC [t], [t], [v], none, rfl, s4, hd4, .cons (ht.same s4) .nil, fun q hq => by rw [List.mem_singleton.mp hq]; exact hok, rfl, by show t.cost2 + 0 ≤ _; omega⟩, ?_⟩
    rintro m σ H5 ⟨its, xs, x2, rfl, s5, hd5, hit, hoks, rfl, hsum⟩
    refine ⟨_, rfl, small' (by simp), fun e0 H5' ne0 s5' he0 => ⟨_, _, _, rfl, rfl, SqL.of (s5' _ _ hd5), SqL.of he0, _, rfl, ?_⟩⟩
    have hd5' := s5' _ _ hd5
    have hit := nameds_mono hit (.of_same s5')
    have s5 := s5.trans s5'
    clear hd5
    by_cases hnil : its = []
    · subst hnil
      cases paired_nil hit
      exact iteF (k H5' s5)
    · obtain ⟨its', t1, rfl⟩ := snoc_of hnil
      obtain ⟨xs', x, rfl, hit', htv⟩ := paired_snoc_inv hit
      rw [show (if true = true then !(xs' ++ [x]).isEmpty else (xs' ++ [x]).isEmpty) = true by simp]
      refine iteT ⟨fun σ' H' => ∃ m', m' < sumC (its' ++ [t1]) ∧ InvIsNamed H v t d m' σ' H', fun _ _ h => h, ?_⟩
      refine ⟨_, rfl, Or.inl ⟨rfl, _, SqL.of hd5'⟩, d, xs', x, rfl, rfl, hd5', fun H6 k6 hd6 => ?_⟩
      have tu6 := kp1_tups k6 hd5'
      have htv6 := htv.mono tu6
      have it6 := nameds_mono hit' tu6
      have s6 : Same H H6 := same_keep s5 k6 fun x hx => by rw [List.mem_singleton.mp hx]; exact nd
      have hok1 : t1.ok := hoks t1 (by simp)
      have hoks' : ∀ q ∈ its', q.ok := fun q hq => hoks q (List.mem_append_left _ hq)
      rw [sumC_snoc] at hsum
      rw [sumC_snoc]
      have hxl : xs'.length ≤ 2000 := by
        rw [Paired.length it6]
        have := len_sumC its'
        omega
      clear htv
      cases htv6 with
      | @name a1 wd h =>
        refine ⟨_, rfl, _, _, _, _, rfl, .tup h, kit_tt K, _, rfl, iteF ⟨_, rfl, _, _, rfl, Or.inr (SqT.of h), _, _, rfl, rfl, _, rfl, ifF (show ¬ (2 : Int) < 2 by decide) ⟨_, rfl, _, _, _, _, rfl, rfl, SqT.of h, at0, _, _, _, _, rfl, .str _, kit_ss K, _, rfl, iteF ?_⟩⟩⟩
        refine ⟨_, rfl, _, _, _, _, rfl, rfl, SqT.of h, at0, rfl, _, rfl, ifF n_nc (iteF ⟨_, rfl, _, _, _, _, rfl, rfl, SqT.of h, at0, rfl, _, rfl, ifF n_nf (iteF ?_)⟩)⟩
        refine ⟨_, rfl, _, _, _, _, rfl, rfl, SqT.of h, at0, rfl, _, rfl, ifNF rfl ⟨_, rfl, _, _, rfl, Or.inr (SqT.of h), rfl, _, rfl, ifNF rfl ⟨_, rfl, _, _, _, _, rfl, rfl, SqT.of h, at1, wd, rfl, hok1, _, rfl, iteF ?_⟩⟩⟩
        exact ⟨_, by show sumC its' < sumC its' + 1; omega, its', xs', _, rfl, s6, hd6, it6, hoks', rfl, by omega⟩
      | @form a1 wd bv b h hb =>
        have hbs : NT.cost2 (.form wd b) = b.cost2 + 2 := rfl
        refine ⟨_, rfl, _, _, _, _, rfl, .tup h, kit_tt K, _, rfl, iteF ⟨_, rfl, _, _, rfl, Or.inr (SqT.of h), _, _, rfl, rfl, _, rfl, ifF (show ¬ (3 : Int) < 2 by decide) ⟨_, rfl, _, _, _, _, rfl, rfl, SqT.of h, at0, _, _, _, _, rfl, .str _, kit_ss K, _, rfl, iteF ?_⟩⟩⟩
        refine ⟨_, rfl, _, _, _, _, rfl, rfl, SqT.of h, at0, rfl, _, rfl, ifF n_fc (iteF ⟨_, rfl, _, _, _, _, rfl, rfl, SqT.of h, at0, rfl, _, rfl, ifT rfl ⟨_, rfl, _, _, rfl, Or.inr (SqT.of h), rfl, _, rfl, ifT rfl ?_⟩⟩)⟩
        refine ⟨_, rfl, Or.inl ⟨rfl, _, SqL.of hd6⟩, _, rfl, _, _, _, _, rfl, rfl, SqT.of h, at1, small' (by show 2 ≤ 1000000; decide), fun q7 H7 n7 s7 h7 => ⟨_, _, _, rfl, rfl, s7 _ _ hd6, small (by omega), fun H8 k8 hd8 => ?_⟩⟩
        have hd7 := s7 _ _ hd6
        have tu8 : Tups H6 H8 := (Tups.of_same s7).trans (kp1_tups k8 hd7)
        have K8 : Keep [d] H6 H8 := (Keep.of_same s7).trans k8
        refine ⟨_, rfl, Or.inl ⟨rfl, _, SqL.of hd8⟩, _, rfl, _, _, _, _, rfl, rfl, SqT.of (tu8 _ _ h), at2, _, _, _, rfl, rfl, hd8, small (by rw [List.length_append, List.length_singleton]; omega), fun H9 k9 hd9 => ?_⟩
        have tu9 := kp1_tups k9 hd8
        refine ⟨_, ?_, (its' ++ [.name wd]) ++ [b], _, _, rfl, same_keep s6 (K8.trans k9) (fun x hx => by rw [List.mem_singleton.mp hx]; exact nd), hd9, paired_snoc ((hb.mono tu8).mono tu9) (paired_snoc (.name (tu9 _ _ (kp1_tups k8 hd7 _ _ h7))) (nameds_mono (nameds_mono it6 tu8) tu9)), fun q hq => ?_, rfl, ?_⟩
        · rw [sumC_snoc, sumC_snoc]; show sumC its' + 1 + b.cost2 < sumC its' + (b.cost2 + 2); omega
        · rcases List.mem_append.mp hq with hq | hq
          · rcases List.mem_append.mp hq with hq | hq
            · exact hoks' q hq
            · rw [List.mem_singleton.mp hq]; exact hok1.1
          · rw [List.mem_singleton.mp hq]; exact hok1.2
        · rw [sumC_snoc, sumC_snoc]; show sumC its' + 1 + b.cost2 ≤ _; omega
      | @call a1 xv yv x y h hx hy =>
        have hcs : NT.cost2 (.call x y) = x.cost2 + y.cost2 + 1 := rfl
        refine ⟨_, rfl, _, _, _, _, rfl, .tup h, kit_tt K, _, rfl, iteF ⟨_, rfl, _, _, rfl, Or.inr (SqT.of h), _, _, rfl, rfl, _, rfl, ifF (show ¬ (3 : Int) < 2 by decide) ⟨_, rfl, _, _, _, _, rfl, rfl, SqT.of h, at0, _, _, _, _, rfl, .str _, kit_ss K, _, rfl, iteF ?_⟩⟩⟩
        refine ⟨_, rfl, _, _, _, _, rfl, rfl, SqT.of h, at0, rfl, _, rfl, ifT rfl ⟨_, rfl, _, _, rfl, Or.inr (SqT.of h), rfl, _, rfl, ifT rfl ?_⟩⟩
        refine ⟨_, rfl, Or.inl ⟨rfl, _, SqL.of hd6⟩, _, rfl, _, _, _, _, rfl, rfl, SqT.of h, at1, _, _, _, rfl, rfl, hd6, small (by omega), fun H8 k8 hd8 => ?_⟩
        have tu8 := kp1_tups k8 hd6
        have h8 := tu8 _ _ h
        refine ⟨_, rfl, Or.inl ⟨rfl, _, SqL.of hd8⟩, _, rfl, _, _, _, _, rfl, rfl, SqT.of h8, at2, _, _, _, rfl, rfl, hd8, small (by rw [List.length_append, List.length_singleton]; omega), fun H9 k9 hd9 => ?_⟩
        have tu9 := kp1_tups k9 hd8
        refine ⟨_, ?_, (its' ++ [x]) ++ [y], _, _, rfl, same_keep s6 (k8.trans k9) (fun x hx => by rw [List.mem_singleton.mp hx]; exact nd), hd9, paired_snoc ((hy.mono tu8).mono tu9) (paired_snoc ((hx.mono tu8).mono tu9) (nameds_mono (nameds_mono it6 tu8) tu9)), fun q hq => ?_, rfl, ?_⟩
        · rw [sumC_snoc, sumC_snoc]; show sumC its' + x.cost2 + y.cost2 < sumC its' + (x.cost2 + y.cost2 + 1); omega
        · rcases List.mem_append.mp hq with hq | hq
          · rcases List.mem_append.mp hq with hq | hq
            · exact hoks' q hq
            · rw [List.mem_singleton.mp hq]; exact hok1.1
          · rw [List.mem_singleton.mp hq]; exact hok1.2
        · rw [sumC_snoc, sumC_snoc]; omega
end
end NC
namespace NC
open PySem PySem.Spec PyProof.Rows L2
/-- a term all whose names are words -/
structure TermW (H : Hp) (v : V) (t : Tm) : Prop where
  at_ : TermAt H v t
  wd : ∀ x, t.has x → Wd x
theorem TermW.mono {H H' : Hp} {v : V} {t : Tm} (h : TermW H v t) (k : Tups H H') : TermW H' v t := ⟨h.at_.mono k, h.wd⟩
theorem TermW.same {H H' : Hp} {v : V} {t : Tm} (h : TermW H v t) (k : Same H H') : TermW H' v t := ⟨h.at_.same k, h.wd⟩
theorem TermW.name {H : Hp} {a : Addr} {w : Str} (hw : Wd w) (h : H a = some (.tup [.str "name", .str w])) : TermW H (.ref a) (.name w) := ⟨.name h, fun x e => by rw [← (show w = x from e)]; exact hw⟩
theorem TermW.place {H : Hp} {a : Addr} {n : Nat} (h : H a = some (.tup [.str "place", .int (n : Int)])) : TermW H (.ref a) (.place n) := ⟨.place h, fun x e => e.elim⟩
theorem TermW.form {H : Hp} {a : Addr} {v : V} {b : Tm} (h : H a = some (.tup [.str "form", v])) (hb : TermW H v b) : TermW H (.ref a) (.form b) := ⟨.form h hb.at_, hb.wd⟩
theorem TermW.call {H : Hp} {a : Addr} {v u : V} {x y : Tm} (h : H a = some (.tup [.str "call", v, u])) (hx : TermW H v x) (hy : TermW H u y) : TermW H (.ref a) (.call x y) := ⟨.call h hx.at_ hy.at_, fun z e => e.elim (hx.wd z) (hy.wd z)⟩
theorem wd_sat : Wd (Str.ofString "sat") := by
  have e : (Str.ofString "sat").cps.toList = [115, 97, 116] := by decide +kernel
  unfold Wd
  rw [e]
  decide
theorem wd_sut : Wd (Str.ofString "sut") := by
  have e : (Str.ofString "sut").cps.toList = [115, 117, 116] := by decide +kernel
  unfold Wd
  rw [e]
  decide
section
variable {P : Program} {w : World} {K : PySem.W.Frag} {mg : Str → Option Value} {base : Heap}
seal L2.PE L2.PA L2.PT L2.PS L2.PSs L2.PW L2.PG L2.PGs L2.PI L2.PO L2.OpR L2.UnR L2.CallR L2.TruR L2.IxR L2.SlR
abbrev s__law_grown : Stmt := top 27
theorem sc__law_grown : FnScope ["_law_cells", "_law_pile", "_law_cell", "_law_way", "_law_inner", "_law_other", "_law_one", "_law_menu"] ["_law_cells"] (defScope s__law_grown) := ⟨rfl, rfl, rfl, by decide +kernel, rfl, by decide +kernel, by decide +kernel⟩
def sumT (ts : List Tm) : Nat := (ts.map T.size).sum
theorem sumT_snoc (ts : List Tm) (t : Tm) : sumT (ts ++ [t]) = sumT ts + t.size := by
  unfold sumT
  rw [List.map_append, List.sum_append]
  simp
inductive Sp_grownI (K : PySem.W.Frag) (vs : List V) (H : Hp) (Q : VK) : Prop where
  | mk (a : _) (ns : List Int) (c1 : vs = [.ref a]) (c2 : SqL K H a (ns.map V.int)) (c3 : ns.length ≤ 100) (c4 : ∀ v t H', Same H H' → TermW H' v t → t.size ≤ 2 * ns.length + 1 → Q v H')
def sp_grown (K : PySem.W.Frag) : Sp := fun vs H Q u3_ => Sp_grownI K vs H Q
/-- between two turns: the pile at p -/
inductive InvPileI (H : Hp) (p : Addr) (n : Nat) (H' : Hp) : Prop where
  | mk (xs : _) (ts : _) (c1 : Same H H') (c2 : H' p = some (.lst xs)) (c3 : Paired (TermW H') xs ts) (c4 : sumT ts + ts.length ≤ n)
def InvPile (H : Hp) (p : Addr) (n : Nat) (H' : Hp) : Prop := InvPileI H p n H'
inductive InvMI (H : Hp) (p : Addr) (n : Nat) (H' : Hp) : Prop where
  | mk (xs : _) (ts : _) (c1 : Same H H') (c2 : H' p = some (.lst xs)) (c3 : Paired (TermW H') xs ts) (c4 : sumT ts + ts.length ≤ n) (c5 : ts ≠ [])
def InvM (H : Hp) (p : Addr) (n : Nat) (H' : Hp) : Prop := InvMI H p n H'
theorem terms_same {H H' : Hp} {xs : List V} {ts : List Tm} (h : Paired (TermW H) xs ts) (k : Same H H') : Paired (TermW H') xs ts := paired_imp (fun a b h => h.same k) h
theorem abs_nat (i : Int) : (if i < 0 then -i else i) = ((i.natAbs : Nat) : Int) := by split <;> omega
theorem ok__law_grown {f : Addr} {fd : FuncData} (F : Fun K "_law_grown" "_law_grown" s__law_grown f fd) (N_ : NoNames mg) (G__law_any : GF P w K mg base CX0 1 "_law_any" ["_law_cell"] sp_any) (G__law_any_word : GF P w K mg base CX0 1 "_law_any_word" ["_law_cell"] sp_any_wordF) :
    FnOk P w K mg base CX0 2 f fd ["_law_cells"] (sp_grown K) := by
  refine F.ok sc__law_grown (fun vs H Q E h => ?_) (fun cdv A outer s H vs Q E hr h => ?_)
  · obtain ⟨a, ns, rfl, _⟩ := h
    rfl
  · obtain ⟨a, ns, rfl, hS, hl, k⟩ := h
    have hu0 := hr.units0
    refine ⟨_, (pss_cons (ps_set (i := 1) sc__law_grown.nd rfl (Or.inl rfl) (pLst pa_nil))
      (pss_cons (ps_for PassesOwn.never rfl (pi_list (pv 0)) (pg_name (i := 2) sc__law_grown.nd rfl (Or.inl rfl)) (pss_cons (ps_set (i := 3) sc__law_grown.nd rfl (Or.inl rfl) (pe_op op_mod (pv 2) pe_int))
      (pss_one (ps_if (PW.pt (pw_and (pt_cmpR op_eq (pv 3) pe_int (nomark _)) (pw_and1 (pt_cmpR (op_neNil hu0) (pv 1) (pLst pa_nil) (nomark _))))) (pss_cons (ps_set (i := 4) sc__law_grown.nd rfl (Or.inl rfl) (pPop (pv 1)))
      (pss_one (ps_expr (pApp (pv 1) (pTup (pa_c pe_str (pa_c (pv 4) pa_nil))))))) (pss_one (ps_if (PW.pt (pw_and (pt_cmpR op_gt (pv 3) pe_int (nomark _)) (pw_and1 (pt_cmpR op_gt (pCB call_len_seq (by rfl) N_.len boot_len (pa_c (pv 1) pa_nil)) pe_int (nomark _))))) (pss_cons (ps_set (i := 5) sc__law_grown.nd rfl (Or.inl rfl) (pPop (pv 1)))
      (pss_cons (ps_set (i := 6) sc__law_grown.nd rfl (Or.inl rfl) (pPop (pv 1)))
      (pss_cons (ps_if (pt_cmpR op_gt (pv 3) pe_int (nomark _)) (pss_one (ps_set (i := 6) sc__law_grown.nd rfl (Or.inl rfl) (pTup (pa_c pe_str (pa_c (pv 6) pa_nil))))) pss_nil)
      (pss_one (ps_expr (pApp (pv 1) (pTup (pa_c pe_str (pa_c (pv 6) (pa_c (pv 5) pa_nil)))))))))) (pss_cons (ps_set (i := 7) sc__law_grown.nd rfl (Or.inl rfl) (pLst (pa_c (pTup (pa_c pe_str (pa_c pe_int pa_nil))) (pa_c (pTup (pa_c pe_str (pa_c pe_int pa_nil))) (pa_c (pTup (pa_c pe_str (pa_c pe_int pa_nil))) (pa_c (pTup (pa_c pe_str (pa_c pe_str pa_nil))) (pa_c (pTup (pa_c pe_str (pa_c pe_str pa_nil))) pa_nil)))))))
      (pss_cons (ps_expr (pApp (pv 7) (pTup (pa_c pe_str (pa_c (pCB call_abs (by rfl) N_.abs boot_abs (pa_c (pe_gf G__law_any (hr.mono (by decide)) rfl pass0 (pa_c (pv 2) pa_nil)) pa_nil)) pa_nil)))))
      (pss_cons (ps_expr (pApp (pv 7) (pTup (pa_c pe_str (pa_c (pe_gf G__law_any_word (hr.mono (by decide)) rfl pass0 (pa_c (pe_op op_fdiv (pv 2) pe_int) pa_nil)) pa_nil)))))
      (pss_one (ps_expr (pApp (pv 1) (pe_ix ix_list (pv 7) (pe_op op_mod (pe_op op_fdiv (pv 2) pe_int) pe_int) (fun _ _ => rfl))))))))))))))
      (pss_cons (ps_if (pt_cmpR (op_eqNil hu0) (pv 1) (pLst pa_nil) (nomark _)) (pss_one (ps_expr (pApp (pv 1) (pTup (pa_c pe_str (pa_c pe_str pa_nil)))))) pss_nil)
      (pss_cons (ps_while PassesOwn.never (pt_cmpR op_gt (pCB call_len_seq (by rfl) N_.len boot_len (pa_c (pv 1) pa_nil)) pe_int (nomark _)) (pss_cons (ps_set (i := 5) sc__law_grown.nd rfl (Or.inl rfl) (pPop (pv 1)))
      (pss_cons (ps_set (i := 6) sc__law_grown.nd rfl (Or.inl rfl) (pPop (pv 1)))
      (pss_one (ps_expr (pApp (pv 1) (pTup (pa_c pe_str (pa_c (pv 6) (pa_c (pv 5) pa_nil))))))))))
      (pss_one (ps_ret (pe_ix ix_list (pv 1) pe_int (fun _ _ => rfl)))))))), ?_⟩
    show (let V1_ : TS := _; let V2_ : TS := _; let V3_ : TS := tSeq _ V2_; let V4_ : TS := tSeq _ V3_; let V5_ : TS := tSeq (tWhile _ V4_) V1_; let V6_ : TS := _; let V7_ : TS := tSeq (tIfS _ V6_ _) V5_; let V8_ : TS := _; let V9_ : TS := tSeq _ V8_; let V10_ : TS := _; let V11_ : TS := _; let V12_ : TS := tSeq (tIfS _ V11_ _) V10_; let V13_ : TS := tSeq _ V12_; let V14_ : TS := tSeq _ V13_; let V15_ : TS := _; let V16_ : TS := tSeq _ V15_; let V17_ : TS := tSeq _ V16_; let V18_ : TS := tSeq _ V17_; let V19_ : TS := tIfS _ V14_ V18_; let V20_ : TS := tIfS _ V9_ V19_; let V21_ : TS := tSeq _ V20_; let V22_ : TS := tSeq (tFor _ _ V21_) V7_; tSeq _ V22_ _ _ _)
    intro V1_ V2_ V3_ V4_ V5_ V6_ V7_ V8_ V9_ V10_ V11_ V12_ V13_ V14_ V15_ V16_ V17_ V18_ V19_ V20_ V21_ V22_
    refine ⟨small' (by simp), fun p H1 np s1 hp1 => ?_⟩
    refine ⟨_, rfl, a, rfl, ⟨_, s1.seq hS⟩, for_list (K := K) (a := a) (xs := ns.map V.int) (fun i σ H' => InvPile H p (2 * i) H' ∧ i ≤ ns.length ∧ ∃ x2 x3 x4 x5 x6 x7, σ = [some (.ref a), some (.ref p), x2, x3, x4, x5, x6, x7])
      ⟨⟨[], [], s1, hp1, .nil, Nat.le_refl _⟩, Nat.zero_le _, _, _, _, _, _, _, rfl⟩ (fun i σ H' _ ⟨⟨_, _, s', _, _, _⟩, _⟩ => s'.seq hS) ?_ ?_⟩
    · rintro i y σ H2 hi ⟨⟨xs, ts, s2, hp2, hts, hsum⟩, hin, x2, x3, x4, x5, x6, x7, rfl⟩
      have hil : i < ns.length := by
        have := (List.getElem?_eq_some_iff.mp hi).1
        rw [List.length_map] at this
        exact this
      obtain ⟨c, rfl⟩ : ∃ z, y = V.int z := by
        rw [List.getElem?_map] at hi
        cases e : ns[i]? with
        | none => rw [e] at hi; cases hi
        | some z => rw [e] at hi; exact ⟨z, (Option.some.inj hi).symm⟩
      have hlt : ts.length ≤ 200 := by omega
      have hxl : xs.length ≤ 200 := by rw [Paired.length hts]; exact hlt
      refine ⟨_, rfl, _, _, rfl, rfl, (show (0 : Int) < 7 by decide), ?_⟩
      have s3 := Same.refl H2
      have np2 : H p = none := np
      refine ⟨_, rfl, rfl, _, rfl, ifD (fun hA => ⟨_, rfl, small' (by simp), fun e0 H3 n3 s3 h3 => ⟨_, _, _, rfl, rfl, SqL.of (s3 _ _ hp2), SqL.of h3, _, rfl, ifB (fun hE => ?form)
          (fun hE => ⟨_, rfl, _, _, rfl, rfl, _, rfl, ifF (by have e : c % 7 = 2 := (by injection hA); show ¬ ((2 : Int) < c % 7); omega) (iteF ?leaf1)⟩)⟩⟩)
        (fun hA => iteF ⟨_, rfl, _, _, rfl, rfl, _, rfl, ifD (fun hB => ⟨_, rfl, _, _, rfl, Or.inl (SqL.of hp2), _, _, rfl, rfl, _, rfl, ifD (fun hC => ?call) (fun hC => ?leaf3)⟩) (fun hB => iteF ?leaf2)⟩)⟩
      case form =>
          have hE' : ts ≠ [] := by
            intro z
            subst z
            cases paired_nil hts
            exact absurd hE (by simp)
          obtain ⟨ts', t1, rfl⟩ := snoc_of hE'
          obtain ⟨xs', x, rfl, hts', hx⟩ := paired_snoc_inv hts
          have hp3 := s3 _ _ hp2
          refine ⟨_, rfl, Or.inl ⟨rfl, _, SqL.of hp3⟩, _, _, _, rfl, rfl, hp3, fun H4 k4 hp4 => ?_⟩
          refine ⟨_, rfl, Or.inl ⟨rfl, _, SqL.of hp4⟩, _, rfl, small' (by simp), fun q H5 n5 s5 h5 => ⟨_, _, _, rfl, rfl, s5 _ _ hp4, small (by simp at hxl; omega), fun H6 k6 hp6 => ?_⟩⟩
          have hp5 := s5 _ _ hp4
          have tu : Tups H2 H6 := (Tups.of_same s3).trans ((k4.tup1 hp3).trans ((Tups.of_same s5).trans (k6.tup1 hp5)))
          refine ⟨⟨_, ts' ++ [.form t1], same_keep1 ((same_keep1 (s2.trans s3) k4 np).trans s5) k6 np, hp6, paired_snoc (.form (k6.tup1 hp5 _ _ h5) (hx.mono tu)) (paired_imp (fun a b h => h.mono tu) hts'), ?_⟩, hil, _, _, _, _, _, _, rfl⟩
          rw [sumT_snoc, List.length_append, List.length_singleton] at hsum ⊢
          show sumT ts' + (t1.size + 1) + (ts'.length + 1) ≤ _
          omega
      case call =>
        have hC' : 1 < ts.length := by
          have : (1 : Int) < (xs.length : Int) := hC
          rw [Paired.length hts] at this
          omega
        obtain ⟨ts1, t1, rfl⟩ := snoc_of (show ts ≠ [] by intro z; rw [z] at hC'; simp at hC')
        obtain ⟨ts2, t2, rfl⟩ := snoc_of (show ts1 ≠ [] by intro z; rw [z] at hC'; simp at hC')
        obtain ⟨xs1, x1, rfl, hts1, hx1⟩ := paired_snoc_inv hts
        obtain ⟨xs2, x2', rfl, hts2, hx2⟩ := paired_snoc_inv hts1
        rw [sumT_snoc, sumT_snoc, List.length_append, List.length_singleton, List.length_append, List.length_singleton] at hsum
        simp only [List.length_append, List.length_singleton] at hxl
        refine ⟨_, rfl, Or.inl ⟨rfl, _, SqL.of hp2⟩, _, _, _, rfl, rfl, hp2, fun H3 k3 hp3 => ⟨_, rfl, Or.inl ⟨rfl, _, SqL.of hp3⟩, _, _, _, rfl, rfl, hp3, fun H4 k4 hp4 => ?_⟩⟩
        have tu4 : Tups H2 H4 := (k3.tup1 hp2).trans (k4.tup1 hp3)
        have s4 : Same H H4 := same_keep1 (same_keep1 s2 k3 np) k4 np
        refine ⟨_, rfl, _, _, rfl, rfl, _, rfl, ifD (fun hF => ?_) (fun hF => ?_)⟩
        · refine ⟨_, rfl, small' (by simp), fun q H5 n5 s5 h5 => ?_⟩
          refine ⟨_, rfl, Or.inl ⟨rfl, _, SqL.of (s5 _ _ hp4)⟩, _, rfl, _, rfl, small' (by simp), fun r H6 n6 s6 h6 => ⟨_, _, _, rfl, rfl, s6 _ _ (s5 _ _ hp4), small (by omega), fun H7 k7 hp7 => ?_⟩⟩
          have hp6 := s6 _ _ (s5 _ _ hp4)
          have tu : Tups H4 H7 := (Tups.of_same (s5.trans s6)).trans (k7.tup1 hp6)
          have tu' := tu4.trans tu
          refine ⟨⟨_, ts2 ++ [.call (.form t2) t1], same_keep1 ((s4.trans s5).trans s6) k7 np, hp7, paired_snoc (.call (k7.tup1 hp6 _ _ h6) (.form (k7.tup1 hp6 _ _ (s6 _ _ h5)) (hx2.mono tu')) (hx1.mono tu')) (paired_imp (fun a b h => h.mono tu') hts2), ?_⟩, hil, _, _, _, _, _, _, rfl⟩
          rw [sumT_snoc, List.length_append, List.length_singleton]
          show sumT ts2 + (t2.size + 1 + t1.size + 1) + (ts2.length + 1) ≤ _
          omega
        · refine ⟨_, rfl, Or.inl ⟨rfl, _, SqL.of hp4⟩, _, rfl, _, rfl, small' (by simp), fun r H6 n6 s6 h6 => ⟨_, _, _, rfl, rfl, s6 _ _ hp4, small (by omega), fun H7 k7 hp7 => ?_⟩⟩
          have hp6 := s6 _ _ hp4
          have tu : Tups H4 H7 := (Tups.of_same s6).trans (k7.tup1 hp6)
          have tu' := tu4.trans tu
          refine ⟨⟨_, ts2 ++ [.call t2 t1], same_keep1 (s4.trans s6) k7 np, hp7, paired_snoc (.call (k7.tup1 hp6 _ _ h6) (hx2.mono tu') (hx1.mono tu')) (paired_imp (fun a b h => h.mono tu') hts2), ?_⟩, hil, _, _, _, _, _, _, rfl⟩
          rw [sumT_snoc, List.length_append, List.length_singleton]
          show sumT ts2 + (t2.size + t1.size + 1) + (ts2.length + 1) ≤ _
          omega
      case leaf1 | leaf2 | leaf3 =>
        have hp3 := s3 _ _ hp2
        refine ⟨small' (by simp), fun q0 A0 n0 t0 h0 => ⟨small' (by simp), fun q1 A1 n1 t1 h1 => ⟨small' (by simp), fun q2 A2 n2 t2 h2 => ⟨small' (by simp), fun q3 A3 n3 t3 h3 => ⟨small' (by simp), fun q4 A4 n4 t4 h4 => ⟨small' (by simp), fun mn A5 n5 t5 h5 => ?_⟩⟩⟩⟩⟩⟩
        have sA : Same H2 A4 := s3.trans (t0.trans (t1.trans (t2.trans (t3.trans t4))))
        have hpm : p ≠ mn := ne_of_none (sA _ _ hp2) n5
        have nm : H mn = none := (s2.trans sA).free n5
        refine ⟨_, rfl, Or.inl ⟨rfl, _, SqL.of h5⟩, _, rfl, _, rfl, fun i0 B0 u0 => ⟨_, rfl, small' (by simp), fun q5 B1 m5 u1 g5 => ⟨_, _, _, rfl, rfl, u1 _ _ (u0 _ _ h5), small (by simp), fun B2 kB2 hB2 => ?_⟩⟩⟩
        refine ⟨_, rfl, Or.inl ⟨rfl, _, SqL.of hB2⟩, _, rfl, _, _, rfl, rfl, ⟨by decide, by decide⟩, _, rfl, small' (by simp), fun q6 C1 m6 w1 g6 => ⟨_, _, _, rfl, rfl, w1 _ _ hB2, small (by simp), fun C2 kC2 hC2 => ?_⟩⟩
        have hmB1 := u1 _ _ (u0 _ _ h5)
        have hmC1 := w1 _ _ hB2
        have tuC1 : Tups C1 C2 := kC2.tup1 hmC1
        have tuB2 : Tups B2 C2 := (Tups.of_same w1).trans tuC1
        have tuB1 : Tups B1 C2 := (kB2.tup1 hmB1).trans tuB2
        have tuA5 : Tups A5 C2 := (Tups.of_same (u0.trans u1)).trans tuB1
        have tuA4 : Tups A4 C2 := (Tups.of_same t5).trans tuA5
        have hpC : C2 p = some (.lst xs) := kC2.at (w1 _ _ (kB2.at (u1 _ _ (u0 _ _ (t5 _ _ (sA _ _ hp2)))) hpm)) hpm
        have sC : Same H C2 := same_keep1 ((same_keep1 ((s2.trans (sA.trans t5)).trans (u0.trans u1)) kB2 nm).trans w1) kC2 nm
        have all : ∀ v ∈ ([V.ref q0, .ref q1, .ref q2, .ref q3, .ref q4] ++ [V.ref q5]) ++ [V.ref q6], ∃ t : Tm, TermW C2 v t ∧ t.size = 1 := by
          intro v hv
          simp only [List.cons_append, List.nil_append, List.mem_cons, List.not_mem_nil, or_false] at hv
          rcases hv with rfl | rfl | rfl | rfl | rfl | rfl | rfl
          · exact ⟨.place 0, .place (tuA4 _ _ (t4 _ _ (t3 _ _ (t2 _ _ (t1 _ _ h0))))), rfl⟩
          · exact ⟨.place 1, .place (tuA4 _ _ (t4 _ _ (t3 _ _ (t2 _ _ h1)))), rfl⟩
          · exact ⟨.place 2, .place (tuA4 _ _ (t4 _ _ (t3 _ _ h2))), rfl⟩
          · exact ⟨.name _, .name wd_sat (tuA4 _ _ (t4 _ _ h3)), rfl⟩
          · exact ⟨.name _, .name wd_sut (tuA4 _ _ h4), rfl⟩
          · refine ⟨.place i0.natAbs, .place ?_, rfl⟩
            have q := tuB1 _ _ g5
            rw [abs_nat] at q
            exact q
          · exact ⟨.name _, .name (wd_anyW _) (tuC1 _ _ g6), rfl⟩
        obtain ⟨v, hat, hv⟩ := atL (xs := ([V.ref q0, .ref q1, .ref q2, .ref q3, .ref q4] ++ [V.ref q5]) ++ [V.ref q6]) (i := c / 7 % 7) (by omega) (by simp; omega)
        obtain ⟨t, ht, ht1⟩ := all v hv
        refine ⟨_, rfl, Or.inl ⟨rfl, _, SqL.of hpC⟩, _, rfl, _, rfl, _, _, rfl, rfl, ⟨by decide, by decide⟩, _, _, rfl, rfl, (show (0 : Int) < 7 by decide), _, _, _, _, rfl, rfl, SqL.of hC2, hat, _, _, _, rfl, rfl, hpC, small (by omega), fun D1 kD1 hD1 => ?_⟩
        have tuD : Tups C2 D1 := kD1.tup1 hpC
        refine ⟨⟨_, ts ++ [t], same_keep1 sC kD1 np2, hD1, paired_snoc (ht.mono tuD) (paired_imp (fun a b h => h.mono (((Tups.of_same sA).trans tuA4).trans tuD)) hts), ?_⟩, hil, _, _, _, _, _, _, rfl⟩
        rw [sumT_snoc, List.length_append, List.length_singleton]
        omega
    · rintro σ H2 ⟨⟨xs, ts, s2, hp2, hts, hsum⟩, hin, x2, x3, x4, x5, x6, x7, rfl⟩
      rw [List.length_map] at hsum
      refine ⟨_, rfl, small' (by simp), fun e0 H3 n3 s3 h3 => ⟨_, _, _, rfl, rfl, SqL.of (s3 _ _ hp2), SqL.of h3, _, rfl, ifB
        (fun hE => ⟨_, rfl, Or.inl ⟨rfl, _, SqL.of (s3 _ _ hp2)⟩, small' (by simp), fun q H4 n4 s4 h4 => ⟨_, _, _, rfl, rfl, s4 _ _ (s3 _ _ hp2), ?len, fun H5 k5 hp5 => have hI : InvM H p (2 * ns.length + 2) H5 := ?hi1; ?w1⟩⟩)
        (fun hE => have hI : InvM H p (2 * ns.length + 2) H3 := ?hi2; ?w2)⟩⟩
      case len =>
        have e : xs = [] := List.isEmpty_iff.mp (by simpa using hE)
        rw [e]
        exact small (by simp)
      case hi1 =>
        have e : xs = [] := List.isEmpty_iff.mp (by simpa using hE)
        subst e
        have hp4 := s4 _ _ (s3 _ _ hp2)
        exact ⟨_, [.name "sat"], same_keep1 ((s2.trans s3).trans s4) k5 np, hp5, .cons (.name wd_sat (k5.tup1 hp4 _ _ h4)) .nil, (by show 1 + 1 ≤ _; omega), by simp⟩
      case hi2 =>
        refine ⟨xs, ts, s2.trans s3, s3 _ _ hp2, terms_same hts s3, by omega, ?_⟩
        intro z
        subst z
        cases paired_nil hts
        exact absurd hE (by simp)
      case w1 | w2 =>
        refine ⟨fun m σ H' => (∃ xs ts, Same H H' ∧ H' p = some (.lst xs) ∧ Paired (TermW H') xs ts ∧ sumT ts + ts.length ≤ 2 * ns.length + 2 ∧ ts ≠ [] ∧ m = ts.length) ∧ ∃ x2 x3 x4 x5 x6 x7, σ = [some (.ref a), some (.ref p), x2, x3, x4, x5, x6, x7], ?_, ?_⟩
        · obtain ⟨xs, ts, a1, a2, a3, a4, a5⟩ := hI
          exact ⟨_, ⟨xs, ts, a1, a2, a3, a4, a5, rfl⟩, _, _, _, _, _, _, rfl⟩
        · rintro m σ H6 ⟨⟨xs, ts, s6, hp6, hts, hsum, hne, rfl⟩, x2, x3, x4, x5, x6, x7, rfl⟩
          refine ⟨_, rfl, _, _, rfl, Or.inl (SqL.of hp6), _, _, rfl, rfl, _, rfl, ifD (fun hC => ?_) (fun hC => ?_)⟩
          · have hC' : 1 < ts.length := by
              have : (1 : Int) < (xs.length : Int) := hC
              rw [Paired.length hts] at this
              omega
            refine ⟨fun σ' H' => ∃ m', m' < ts.length ∧ ((∃ xs ts, Same H H' ∧ H' p = some (.lst xs) ∧ Paired (TermW H') xs ts ∧ sumT ts + ts.length ≤ 2 * ns.length + 2 ∧ ts ≠ [] ∧ m' = ts.length) ∧ ∃ x2 x3 x4 x5 x6 x7, σ' = [some (.ref a), some (.ref p), x2, x3, x4, x5, x6, x7]), fun _ _ h => h, ?_⟩
            obtain ⟨ts1, t1, rfl⟩ := snoc_of hne
            obtain ⟨ts2, t2, rfl⟩ := snoc_of (show ts1 ≠ [] by intro z; rw [z] at hC'; simp at hC')
            obtain ⟨xs1, x1, rfl, hts1, hx1⟩ := paired_snoc_inv hts
            obtain ⟨xs2, x2', rfl, hts2, hx2⟩ := paired_snoc_inv hts1
            rw [sumT_snoc, sumT_snoc, List.length_append, List.length_singleton, List.length_append, List.length_singleton] at hsum
            refine ⟨_, rfl, Or.inl ⟨rfl, _, SqL.of hp6⟩, _, _, _, rfl, rfl, hp6, fun H7 k7 hp7 => ⟨_, rfl, Or.inl ⟨rfl, _, SqL.of hp7⟩, _, _, _, rfl, rfl, hp7, fun H8 k8 hp8 => ?_⟩⟩
            have hl2 := Paired.length hts2
            refine ⟨_, rfl, Or.inl ⟨rfl, _, SqL.of hp8⟩, _, rfl, _, rfl, small' (by simp), fun r H9 n9 s9 h9 => ⟨_, _, _, rfl, rfl, s9 _ _ hp8, small (by omega), fun H10 k10 hp10 => ?_⟩⟩
            have hp9 := s9 _ _ hp8
            have tu : Tups H6 H10 := ((k7.tup1 hp6).trans (k8.tup1 hp7)).trans ((Tups.of_same s9).trans (k10.tup1 hp9))
            refine ⟨_, ?_, ⟨_, ts2 ++ [.call t2 t1], same_keep1 ((same_keep1 (same_keep1 s6 k7 np) k8 np).trans s9) k10 np, hp10, paired_snoc (.call (k10.tup1 hp9 _ _ h9) (hx2.mono tu) (hx1.mono tu)) (paired_imp (fun a b h => h.mono tu) hts2), ?_, by simp, rfl⟩, _, _, _, _, _, _, rfl⟩
            · simp
            · rw [sumT_snoc, List.length_append, List.length_singleton]
              show sumT ts2 + (t2.size + t1.size + 1) + (ts2.length + 1) ≤ _
              omega
          · have hC' : ¬ 1 < ts.length := by
              intro z
              refine hC ?_
              show (1 : Int) < (xs.length : Int)
              rw [Paired.length hts]
              omega
            match ts, hts, hne, hC', hsum with
            | [t], .cons (a := x) (l₁ := r) hx hr, _, _, hsum =>
              cases hr
              refine ⟨_, rfl, _, _, _, _, rfl, rfl, SqL.of hp6, at0, k _ t H6 s6 hx ?_⟩
              have : t.size + 0 + 1 ≤ 2 * ns.length + 2 := hsum
              omega
            | _ :: _ :: _, _, _, hC', _ => exact absurd hC' (by simp)
end
end NC
/-! ### the law k06 -/
namespace NC
open PySem PySem.Spec PyProof.Rows L2
theorem boot_ValueError : bootBuiltins "ValueError" = some (.type "ValueError") := by decide +kernel
theorem passF {P : Program} {w : World} {X : Cx} : Passes (CXE P w) X E0 := by
  intro pins σ H1 s1 e s' I h
  obtain ⟨ea, C, H', rfl, F, hE⟩ := h
  exact hE.elim
structure ExcsO (K : PySem.W.Frag) (mg : Str → Option Value) (cE cN cO cL : Addr) : Prop where
  mE : mg "CallError" = some (.ref cE)
  mN : mg "NoStep" = some (.ref cN)
  mO : mg "Outer" = some (.ref cO)
  mL : mg "NoLine" = some (.ref cL)
  x1 : PySem.W.exmOne K (.ref cO) (.ref cE) = some true
  x2 : PySem.W.exmOne K (.ref cO) (.ref cO) = some true
  k1 : PySem.W.kitOne K (.ref cO) (.ref cN) = some false
  k2 : PySem.W.kitOne K (.ref cO) (.ref cO) = some true
  k3 : PySem.W.kitOne K (.ref cO) (.ref cL) = some false
  k4 : PySem.W.kitOne K (.ref cO) (.type "ValueError") = some true
  cl : ClsE K cO
theorem sqlX {K : PySem.W.Frag} {H H' : Hp} {a : Addr} {xs : List V} (h : SqL K H a xs) (s : SameX H H') : SqL K H' a xs := by
  rcases h with (h | ⟨o, h⟩) | h
  · exact .inl (.inl (s _ _ (fun _ z => by cases z) h))
  · exact .inl (.inr ⟨o, s _ _ (fun _ z => by cases z) h⟩)
  · exact .inr h
theorem any_perm {α : Type} {p : α → Bool} {l m : List α} (h : l.Perm m) : l.any p = m.any p := by
  rw [Bool.eq_iff_iff, List.any_eq_true, List.any_eq_true]
  exact ⟨fun ⟨x, hx, q⟩ => ⟨x, h.mem_iff.mp hx, q⟩, fun ⟨x, hx, q⟩ => ⟨x, h.mem_iff.mpr hx, q⟩⟩
theorem tseq_via6 {t u : TS} {D : Ends} {σ : L2.St} {H : Hp} (Pd : L2.St → Hp → Prop) (hu : ∀ σ' H', Pd σ' H' → u D σ' H') (ht : (∀ σ' H', Pd σ' H' → u D σ' H') → t { D with nx := u D } σ H) : tSeq t u D σ H := ht hu
abbrev T.anyOut (t : Tm) : Bool := (t.parts 0).any fun q => T.outer q.1 q.2
section
variable {P : Program} {w : World} {K : PySem.W.Frag} {mg : Str → Option Value} {base : Heap}
seal L2.PE L2.PA L2.PT L2.PS L2.PSs L2.PW L2.PG L2.PGs L2.PI L2.PO L2.OpR L2.UnR L2.CallR L2.TruR L2.IxR L2.SlR
abbrev s__law_outer : Stmt := top 29
theorem sc__law_outer : FnScope ["_law_term", "_law_part", "_law_deep"] ["_law_term"] (defScope s__law_outer) := ⟨rfl, rfl, rfl, by decide +kernel, rfl, by decide +kernel, by decide +kernel⟩
abbrev s__law_base_tells : Stmt := top 33
theorem sc__law_base_tells : FnScope ["_law_term", "e", "_law_many"] ["_law_term"] (defScope s__law_base_tells) := ⟨rfl, rfl, rfl, by decide +kernel, rfl, by decide +kernel, by decide +kernel⟩
abbrev s_law : Stmt := top 34
theorem sc_law : FnScope ["_law_script", "_law_term", "_law_due", "_law_found", "_law_again", "_law_plain", "_law_turn", "_law_refused"] ["_law_script"] (defScope s_law) := ⟨rfl, rfl, rfl, by decide +kernel, rfl, by decide +kernel, by decide +kernel⟩
inductive Sp_outerI (vs : List V) (H : Hp) (Q : VK) : Prop where
  | mk (v : V) (t : Tm) (c1 : vs = [v]) (c2 : TermAt H v t) (c3 : t.size ≤ 100000) (c4 : ∀ H', Same H H' → Q (.bl t.anyOut) H')
def sp_outer : Sp := fun vs H Q _ => Sp_outerI vs H Q
theorem ok__law_outer {f : Addr} {fd : FuncData} (F : Fun K "_law_outer" "_law_outer" s__law_outer f fd) (G__law_parts : GF P w K mg base CX0 1 "_law_parts" ["_law_term"] sp_lparts) : FnOk P w K mg base CX0 2 f fd ["_law_term"] sp_outer := by
  refine F.ok sc__law_outer (fun vs H Q E h => ?_) (fun cdv A outer s H vs Q E hr h => ?_)
  · obtain ⟨v, t, rfl, _⟩ := h
    rfl
  · obtain ⟨v, t, rfl, ht, hsz, k⟩ := h
    refine ⟨_, (pss_cons (ps_for PassesOwn.never rfl (pi_list (pe_gf G__law_parts (hr.mono (by decide)) rfl pass0 (pa_c (pv 0) pa_nil))) (pg_tup rfl (pgs_cons (pg_name (i := 1) sc__law_outer.nd rfl (Or.inl rfl)) (pgs_cons (pg_name (i := 2) sc__law_outer.nd rfl (Or.inl rfl)) pgs_nil))) (pss_one (ps_if (PW.pt (pw_and (pt_cmpR op_eq (pe_ix ix_tup (pv 1) pe_int (fun _ _ => rfl)) pe_str (nomark _)) (pw_and1 (pt_cmpR op_ge (pe_ix ix_tup (pv 1) pe_int (fun _ _ => rfl)) (pv 2) (nomark _))))) (pss_one (ps_ret pe_bl)) pss_nil)))
      (pss_one (ps_ret pe_bl))), ?_⟩
    show (let V1_ : TS := _; let V2_ : TS := _; let V3_ : TS := tIfS _ V2_ _; tSeq (tFor _ _ V3_) V1_ _ _ _)
    intro V1_ V2_ V3_
    refine ⟨_, rfl, v, t, rfl, ht, hsz, fun l rs H1 s1 nl hl1 hr1 => ?_⟩
    have hpm : (t.lparts 0).reverse.Perm (t.parts 0) := (List.reverse_perm _).trans (lparts_perm t 0)
    have hlen : rs.length = (t.lparts 0).reverse.length := Paired.length hr1
    have k : ∀ b, b = t.anyOut → Q (.bl b) H1 := fun b e => by rw [e]; exact k H1 s1
    rw [show t.anyOut = (t.lparts 0).reverse.any (fun q => T.outer q.1 q.2) from (any_perm hpm).symm] at k
    refine ⟨l, rfl, ⟨_, SqL.of hl1⟩, for_list (K := K) (a := l) (xs := rs) (fun i σ H' => H' = H1 ∧ ((t.lparts 0).reverse.take i).any (fun q => T.outer q.1 q.2) = false ∧ ∃ x1 x2, σ = [some v, x1, x2]) ⟨rfl, rfl, none, none, rfl⟩ ?_ ?_ ?_⟩
    · rintro i σ H' _ ⟨rfl, _⟩
      exact SqL.of hl1
    · rintro i x σ H' hi ⟨rfl, hany, x1, x2, rfl⟩
      obtain ⟨⟨t1, k1⟩, hi2, a, tv, rfl, ha, htv⟩ := paired_get hr1 hi
      have htv : TermAt H' tv t1 := htv
      have tk1 : (t.lparts 0).reverse.take (i + 1) = (t.lparts 0).reverse.take i ++ [(t1, k1)] := by rw [List.take_add_one, hi2]; rfl
      have go : T.outer t1 k1 = false → ((t.lparts 0).reverse.take (i + 1)).any (fun q => T.outer q.1 q.2) = false := fun e => by
        rw [tk1, List.any_append, hany]
        simp [e]
      refine ⟨a, _, rfl, SqT.of ha, rfl, _, _, rfl, _, _, rfl, rfl, ?_⟩
      cases htv with
      | name h => exact ⟨_, rfl, _, _, _, _, rfl, rfl, SqT.of h, at0, rfl, _, rfl, ifF n_np (iteF ⟨rfl, go rfl, _, _, rfl⟩)⟩
      | form h _ => exact ⟨_, rfl, _, _, _, _, rfl, rfl, SqT.of h, at0, rfl, _, rfl, ifF n_fp (iteF ⟨rfl, go rfl, _, _, rfl⟩)⟩
      | call h _ _ => exact ⟨_, rfl, _, _, _, _, rfl, rfl, SqT.of h, at0, rfl, _, rfl, ifF n_cp (iteF ⟨rfl, go rfl, _, _, rfl⟩)⟩
      | @place a1 n h =>
        refine ⟨_, rfl, _, _, _, _, rfl, rfl, SqT.of h, at0, rfl, _, rfl, ifT rfl ⟨_, rfl, _, _, _, _, rfl, rfl, SqT.of h, at1, _, rfl, _, _, rfl, rfl, _, rfl, ?_⟩⟩
        by_cases e : k1 ≤ n
        · refine ifT (by omega) (k true ?_)
          have : T.outer (T.place n : Tm) k1 = true := decide_eq_true e
          exact (List.any_eq_true.mpr ⟨_, List.mem_of_getElem? hi2, this⟩).symm
        · exact ifF (by omega) ⟨rfl, go (decide_eq_false e), _, _, rfl⟩
    · rintro σ H' ⟨rfl, hany, x1, x2, rfl⟩
      refine k false ?_
      rw [hlen, List.take_length] at hany
      exact hany.symm
inductive Sp_tells6I (TL : Tabs) (T0 : Addr) (vs : List V) (H : Hp) (Q : VK) : Prop where
  | mk (v : V) (t : Tm) (c1 : vs = [v]) (c2 : TermAt H v t) (c3 : t.size ≤ 63) (c4 : TO TL H) (c5 : NamTab T0 H) (c6 : t.anyOut = true) (c7 : ∀ H', Q (.bl true) H')
def sp_tells6 (TL : Tabs) (T0 : Addr) : Sp := fun vs H Q _ => Sp_tells6I TL T0 vs H Q
theorem few_names {t : Tm} (h : t.size ≤ 63) : ∀ ks : List Str, ks.Nodup → (∀ x ∈ ks, x ∈ t.nameL) → ks.length < 64 := fun ks nd sub => by
  have h1 := sub_len nd sub
  have h2 : t.nameL.length ≤ t.size := by
    have h1 : ∀ l : List (Tm × Nat), (l.flatMap fun q => q.1.nameOf).length ≤ l.length := fun l => by
      induction l with
      | nil => exact Nat.le_refl _
      | cons q l ih =>
        rw [List.flatMap_cons, List.length_append, List.length_cons]
        have : q.1.nameOf.length ≤ 1 := by
          cases q.1 <;> simp [T.nameOf]
        omega
    have h2 := h1 (t.parts 0)
    rw [parts_len] at h2
    exact h2
  omega
theorem ok_tells6 {f T0 c_CallError c_NoStep c_Outer c_NoLine : Addr} {fd : FuncData} {TL : Tabs} (F : Fun K "_law_base_tells" "_law_base_tells" s__law_base_tells f fd) (N_ : NoNames mg) (X_ : ExcsO K mg c_CallError c_NoStep c_Outer c_NoLine) (G_named : GF P w K mg base (CXE P w) 5 "named" ["term"] (sp_namedE TL T0 c_Outer)) :
    FnOk P w K mg base CX0 6 f fd ["_law_term"] (sp_tells6 TL T0) := by
  refine F.ok sc__law_base_tells (fun vs H Q E h => ?_) (fun cdv A outer s H vs Q E hr h => ?_)
  · obtain ⟨v, t, rfl, _⟩ := h
    rfl
  · obtain ⟨v, t, rfl, ht, hsz, to, tab, hout, k⟩ := h
    have hm_CallError := X_.mE
    have hm_NoStep := X_.mN
    have hm_Outer := X_.mO
    have hm_NoLine := X_.mL
    have clE := X_.cl
    refine ⟨_, (pss_cons (ps_tryB (i := 1) ⟨rfl, rfl, rfl⟩ sc__law_base_tells.nd rfl rfl (pex_gf G_named (hr.mono (by decide)) rfl (pa_c (pv 0) pa_nil)) rfl hm_CallError (fun ea oe hoc hon => (pss_cons (ps_set (i := 2) sc__law_base_tells.nd rfl (Or.inl rfl) (pe_op op_add (pCT call_int1 (by rfl) N_.int boot_int (pa_c (pCB (call_isH List.mem_cons_self hoc hon clE) (by rfl) N_.isinstance boot_isinstance (pa_c (pv 1) (pa_c (pe_glob (v := .ref c_NoStep) rfl hm_NoStep rfl) pa_nil))) pa_nil)) (pCT call_int1 (by rfl) N_.int boot_int (pa_c (pCB (call_isH List.mem_cons_self hoc hon clE) (by rfl) N_.isinstance boot_isinstance (pa_c (pv 1) (pa_c (pe_glob (v := .ref c_Outer) rfl hm_Outer rfl) pa_nil))) pa_nil))))
      (pss_cons (ps_set (i := 2) sc__law_base_tells.nd rfl (Or.inl rfl) (pe_op op_add (pv 2) (pCT call_int1 (by rfl) N_.int boot_int (pa_c (pCB (call_isH List.mem_cons_self hoc hon clE) (by rfl) N_.isinstance boot_isinstance (pa_c (pv 1) (pa_c (pe_glob (v := .ref c_NoLine) rfl hm_NoLine rfl) pa_nil))) pa_nil))))
      (pss_one (ps_ret (pe_and (pCB (call_isH List.mem_cons_self hoc hon clE) (by rfl) N_.isinstance boot_isinstance (pa_c (pv 1) (pa_c (pe_bltn (v := V.ty "ValueError") rfl N_.ValueError boot_ValueError rfl) pa_nil))) (pe_one (pe_cmpR op_eq (pv 2) pe_int (nomark _))))))))))
      (pss_one (ps_ret pe_bl))), ?_⟩
    show (let V1_ : TS := _; tSeq _ V1_ _ _ _)
    intro V1_
    refine ⟨_, rfl, v, t, rfl, ht, by omega, to, tab, few_names hsz, fun z => absurd (z.symm.trans hout) (by decide), fun _ e H1 sx1 to1 tab1 => ?_⟩
    refine ⟨e, _, rfl, rfl, X_.x1, rfl, ?_⟩
    refine ⟨_, rfl, Or.inl ⟨_, false, rfl, X_.k1, Or.inr ⟨false, rfl, _, rfl, Or.inl ⟨_, true, rfl, X_.k2, Or.inr ⟨true, rfl, _, _, rfl, rfl, ?_⟩⟩⟩⟩⟩
    refine ⟨_, rfl, _, rfl, Or.inl ⟨_, false, rfl, X_.k3, Or.inr ⟨false, rfl, _, _, rfl, rfl, ?_⟩⟩⟩
    refine ⟨_, rfl, Or.inr ⟨_, true, rfl, X_.k4, _, rfl, iteT ⟨_, rfl, rfl, ?_⟩⟩⟩
    exact k H1
inductive Sp_lawI (TL : Tabs) (T0 T1 : Addr) (K : PySem.W.Frag) (vs : List V) (H : Hp) (Q : VK) : Prop where
  | mk (a : _) (ns : List Int) (c1 : vs = [.ref a]) (c2 : SqL K H a (ns.map V.int)) (c3 : ns.length ≤ 63) (c4 : TO TL H) (c5 : NumTab T0 H) (c6 : NamTab T1 H) (c7 : ∀ H', Q (.bl true) H')
def sp_law (TL : Tabs) (T0 T1 : Addr) (K : PySem.W.Frag) : Sp := fun vs H Q u3_ => Sp_lawI TL T0 T1 K vs H Q
/-- forms round a term -/
def T.wrap (t : Tm) : Nat → Tm
  | 0 => t
  | n + 1 => .form (t.wrap n)
theorem wrap_size (t : Tm) : ∀ n, (t.wrap n).size = t.size + n
  | 0 => rfl
  | n + 1 => by show (t.wrap n).size + 1 = _; rw [wrap_size t n]; rfl
theorem wrap_has {t : Tm} {x : Str} : ∀ {n : Nat}, (t.wrap n).has x ↔ t.has x
  | 0 => Iff.rfl
  | n + 1 => wrap_has (n := n)
theorem ok_law {f T0 T1 c_CallError c_NoStep c_Outer c_NoLine : Addr} {fd : FuncData} {TL : Tabs} (F : Fun K "law" "law" s_law f fd) (N_ : NoNames mg) (X_ : ExcsO K mg c_CallError c_NoStep c_Outer c_NoLine) (n0 : T0 ∉ TL.map (·.1)) (n1 : T1 ≠ T0)
    (G__law_wordy : GF P w K mg base CX0 2 "_law_wordy" ["_law_cells"] (sp_wordy K)) (G__law_room : GF P w K mg base CX0 1 "_law_room" ["_law_script", "_law_most", "_law_bound"] (sp_room K)) (G__law_counted : GF P w K mg base CX0 1 "_law_counted" ["_law_term"] sp_counted)
    (G_numbered : GF P w K mg base CX0 3 "numbered" ["term"] (sp_numbered T0)) (G__law_is_term : GF P w K mg base CX0 2 "_law_is_term" ["_law_found"] sp_lis_term) (G_named : GF P w K mg base (CXE P w) 5 "named" ["term"] (sp_namedE TL T1 c_Outer)) (G__law_is_named : GF P w K mg base CX0 2 "_law_is_named" ["_law_found"] sp_is_named)
    (G__law_grown : GF P w K mg base CX0 2 "_law_grown" ["_law_cells"] (sp_grown K)) (G__law_outer : GF P w K mg base CX0 2 "_law_outer" ["_law_term"] sp_outer) (G__law_base_tells : GF P w K mg base CX0 6 "_law_base_tells" ["_law_term"] (sp_tells6 TL T1)) :
    FnOk P w K mg base CX0 7 f fd ["_law_script"] (sp_law TL T0 T1 K) := by
  refine F.ok sc_law (fun vs H Q E h => ?_) (fun cdv A outer s H vs Q E hr h => ?_)
  · obtain ⟨a, ns, rfl, _⟩ := h
    rfl
  · obtain ⟨a, ns, rfl, hS, hl, to0, tab0, nam0, k⟩ := h
    have huu : A.units + 3 + 16 * 6 + 200 < cLine := hr.un
    have hm_Outer := X_.mO
    refine ⟨_, (pss_cons (ps_set (i := 1) sc_law.nd rfl (Or.inl rfl) (pe_gf G__law_wordy (hr.mono (by decide)) rfl pass0 (pa_c (pe_slice sl_ls (pv 0) (po_some pe_int) (po_some (pe_op op_add pe_int (pe_gf G__law_room (hr.mono (by decide)) rfl pass0 (pa_c (pv 0) (pa_c pe_int (pa_c pe_int pa_nil))))))) pa_nil)))
      (pss_cons (ps_set (i := 2) sc_law.nd rfl (Or.inl rfl) (pe_gf G__law_counted (hr.mono (by decide)) rfl pass0 (pa_c (pv 1) pa_nil)))
      (pss_cons (ps_set (i := 3) sc_law.nd rfl (Or.inl rfl) (pe_gf G_numbered (hr.mono (by decide)) rfl pass0 (pa_c (pv 1) pa_nil)))
      (pss_cons (ps_if (PW.pt (pw_or (pt_not (pt_val (pe_gf G__law_is_term (hr.mono (by decide)) rfl pass0 (pa_c (pv 3) pa_nil)))) (pw_or1 (pt_cmpR op_neD (pv 3) (pv 2) (nomark _))))) (pss_one (ps_ret pe_bl)) pss_nil)
      (pss_cons (ps_set (i := 4) sc_law.nd rfl (Or.inl rfl) (pe_gf G_named (hr.mono (by decide)) rfl passF (pa_c (pv 2) pa_nil)))
      (pss_cons (ps_if (PW.pt (pw_or (pt_not (pt_val (pe_gf G__law_is_named (hr.mono (by decide)) rfl pass0 (pa_c (pv 4) pa_nil)))) (pw_or1 (pt_cmpR op_neD (pe_gf G__law_counted (hr.mono (by decide)) rfl pass0 (pa_c (pv 4) pa_nil)) (pv 2) (nomark _))))) (pss_one (ps_ret pe_bl)) pss_nil)
      (pss_cons (ps_set (i := 5) sc_law.nd rfl (Or.inl rfl) (pe_gf G__law_grown (hr.mono (by decide)) rfl pass0 (pa_c (pe_slice sl_ls (pv 0) (po_some pe_int) (po_some (pe_op op_add pe_int (pe_gf G__law_room (hr.mono (by decide)) rfl pass0 (pa_c (pv 0) (pa_c pe_int (pa_c pe_int pa_nil))))))) pa_nil)))
      (pss_cons (ps_if (pt_cmpR op_eq (pe_op op_mod (pCB call_len_seq (by rfl) N_.len boot_len (pa_c (pv 0) pa_nil)) pe_int) pe_int (nomark _)) (pss_one (ps_for PassesOwn.never rfl (pi_range1 rfl N_.range (pa_c (pe_ix ix_list (pLst (pa_c pe_int (pa_c pe_int pa_nil))) (pe_op op_mod (pe_op op_fdiv (pCB call_len_seq (by rfl) N_.len boot_len (pa_c (pv 0) pa_nil)) pe_int) pe_int) (fun _ _ => rfl)) pa_nil)) (pg_name (i := 6) sc_law.nd rfl (Or.inl rfl)) (pss_one (ps_set (i := 5) sc_law.nd rfl (Or.inl rfl) (pTup (pa_c pe_str (pa_c (pv 5) pa_nil))))))) pss_nil)
      (pss_cons (ps_set (i := 3) sc_law.nd rfl (Or.inl rfl) pe_non)
      (pss_cons (ps_set (i := 7) sc_law.nd rfl (Or.inl rfl) pe_bl)
      (pss_cons (ps_tryA (i := 3) ⟨rfl, rfl, rfl⟩ sc_law.nd rfl (Or.inl rfl) (pex_gf G_named (hr.mono (by decide)) rfl (pa_c (pv 5) pa_nil)) rfl hm_Outer (fun ea => (pss_one (ps_set (i := 7) sc_law.nd rfl (Or.inl rfl) pe_bl))))
      (pss_cons (ps_if (pt_val (pe_gf G__law_outer (hr.mono (by decide)) rfl pass0 (pa_c (pv 5) pa_nil))) (pss_one (ps_ret (pe_and (pv 7) (pe_one (pe_gf G__law_base_tells (hr.mono (by decide)) rfl pass0 (pa_c (pv 5) pa_nil)))))) pss_nil)
      (pss_one (ps_ret (pe_and (pe_not (pv 7)) (pe_and (pe_gf G__law_is_named (hr.mono (by decide)) rfl pass0 (pa_c (pv 3) pa_nil)) (pe_one (pe_cmpR op_eqD (pe_gf G__law_counted (hr.mono (by decide)) rfl pass0 (pa_c (pv 3) pa_nil)) (pv 5) (nomark _))))))))))))))))))), ?_⟩
    show (let V1_ : TS := _; let V2_ : TS := _; let V3_ : TS := tSeq (tIfS _ V2_ _) V1_; let V4_ : TS := tSeq _ V3_; let V5_ : TS := tSeq _ V4_; let V6_ : TS := tSeq _ V5_; let V7_ : TS := _; let V8_ : TS := tFor _ _ V7_; let V9_ : TS := tSeq (tIfS _ V8_ _) V6_; let V10_ : TS := tSeq _ V9_; let V11_ : TS := _; let V12_ : TS := tSeq (tIfS _ V11_ _) V10_; let V13_ : TS := tSeq _ V12_; let V14_ : TS := _; let V15_ : TS := tSeq (tIfS _ V14_ _) V13_; let V16_ : TS := tSeq _ V15_; let V17_ : TS := tSeq _ V16_; tSeq _ V17_ _ _ _)
    intro V1_ V2_ V3_ V4_ V5_ V6_ V7_ V8_ V9_ V10_ V11_ V12_ V13_ V14_ V15_ V16_ V17_
    refine ⟨_, rfl, _, rfl, _, rfl, a, ns, _, _, rfl, hS, hl, _, _, rfl, rfl, _, rfl, a, _, rfl, hS, fun p1 H1 np1 s1 h1 => ?_⟩
    obtain ⟨ms, h1, hms⟩ := cut_atB 1 31 h1
    refine ⟨p1, ms, rfl, SqL.of h1, by omega, fun v1 H2 s2 hv1 => ?_⟩
    have hS2 := sql_same (sql_same hS s1) s2
    have hst := wordyT_size ms
    have hok := wordyT_ok ms
    generalize wordyT ms = t at hv1 hst hok
    have hst : t.size ≤ 61 := by omega
    have zt : t.numbered.size = t.size := num_size t []
    have ct : t.numbered.closed 0 := num_closed t []
    have dt : t.numbered.deep ≤ 127 := by
      have := T.deep_le t.numbered
      omega
    -- due, found
    refine ⟨_, rfl, v1, t, rfl, hv1, by omega, fun vd H3 s3 hvd => ?_⟩
    have s03 : Same H H3 := (s1.trans s2).trans s3
    refine ⟨_, rfl, v1, t, rfl, hv1.same s3, by omega, tab0.nl (.of_same s03), fun vf H4 sx4 oth4 tab4 hvf => ?_⟩
    have hvd4 := hvd.mono sx4.tups
    have to4 : TO TL H4 := fun x hx => by
      have nx : x.1 ≠ T0 := fun z => n0 (by rw [← z]; exact List.mem_map.mpr ⟨x, hx, rfl⟩)
      rcases to0.same s03 x hx with q | ⟨c', q, q2⟩
      · exact .inl (oth4 _ nx _ q)
      · exact .inr ⟨c', oth4 _ nx _ q, sx4 _ _ (fun _ z => by cases z) q2⟩
    have nam4 : NamTab T1 H4 := (nam0.same s03).oth (L := [T0]) sx4 (fun Q n ps e => oth4 Q (fun z => n (by rw [z]; exact List.mem_singleton.mpr rfl)) ps e) (fun z => n1 (List.mem_singleton.mp z))
    have hS4 : SqL K H4 a (ns.map V.int) := sqlX (sql_same hS s03) sx4
    obtain ⟨cf, rfl⟩ := hvf.ref
    obtain ⟨cd, rfl⟩ := hvd.ref
    refine ⟨_, rfl, _, _, rfl, hvf, by omega, fun H5 s5 => ⟨_, rfl, iteF ⟨_, rfl, _, rfl, ?_⟩⟩⟩
    refine ⟨127, termD t.numbered, termD t.numbered, cf, cd, rfl, rfl, term_lim _ _ (by omega), by show A.units + 3 + 127 + 1 < cLine; omega, term_dat (hvf.same s5), term_dat (hvd4.same s5), fun b hb => ?_⟩
    rw [hb.mpr rfl]
    refine ⟨_, rfl, iteF ?_⟩
    -- again
    have hvd5 := hvd4.same s5
    have to5 := to4.same s5
    have nam5 := nam4.same s5
    have hno : t.numbered.anyOut = false := by
      rw [Bool.eq_false_iff]
      intro z
      obtain ⟨⟨t1, k1⟩, hq, ho⟩ := List.any_eq_true.mp z
      cases t1 with
      | place i =>
        have h1 := closed_parts t.numbered 0 ct _ hq i rfl
        have h2 : k1 ≤ i := of_decide_eq_true ho
        exact absurd h1 (Nat.not_lt.mpr h2)
      | _ => cases ho
    refine ⟨_, rfl, _, t.numbered, rfl, hvd5, by omega, to5, nam5, few_names (by omega), fun _ va ws H6 nd6 wd6 fr6 cl6 fi6 sx6 to6 nam6 hva => ?_, fun z => absurd (z.symm.trans hno) (by decide)⟩
    obtain ⟨ca, rfl⟩ := hva.ref
    have oka : (t.numbered.nm ws 0).ok := nm_ok wd6 _ 0 cl6 fi6 fun x h => num_has t [] hok x h
    have sza : (t.numbered.nm ws 0).size = t.size := (nm_size ws _ 0).trans zt
    have ea : (t.numbered.nm ws 0).numbered = t.numbered := count_nm nd6 _ 0 cl6 fi6 fr6
    refine ⟨_, rfl, _, _, rfl, hva, oka, by omega, fun H7 s7 => ⟨_, rfl, iteF ⟨_, rfl, _, _, rfl, hva.same s7, by omega, fun vc H8 s8 hvc => ⟨_, rfl, ?_⟩⟩⟩⟩
    rw [ea] at hvc
    obtain ⟨cc, rfl⟩ := hvc.ref
    have hvd8 := ((hvd5.mono sx6.tups).same s7).same s8
    refine ⟨127, termD t.numbered, termD t.numbered, cc, cd, rfl, rfl, term_lim _ _ (by omega), by show A.units + 3 + 127 + 1 < cLine; omega, term_dat hvc, term_dat hvd8, fun b hb => ?_⟩
    rw [hb.mpr rfl]
    refine ⟨_, rfl, iteF ?_⟩
    have s78 := s7.trans s8
    have hS8 : SqL K H8 a (ns.map V.int) := sql_same (sqlX (sql_same hS4 s5) sx6) s78
    have to8 := to6.same s78
    have nam8 := nam6.same s78
    -- plain
    refine ⟨_, rfl, _, rfl, _, rfl, a, ns, _, _, rfl, hS8, hl, _, _, rfl, rfl, _, rfl, a, _, rfl, hS8, fun p9 H9 np9 s9 h9 => ?_⟩
    obtain ⟨ms2, h9, hms2⟩ := cut_atB 1 17 h9
    refine ⟨p9, ms2, rfl, SqL.of h9, by omega, fun vp p H10 s10 hvp hsp => ?_⟩
    have hsp : p.size ≤ 33 := by omega
    have hS10 := sql_same (sql_same hS8 s9) s10
    have s810 := s9.trans s10
    show V9_ _ _ H10
    have e9 : V9_ = tSeq (tIfS _ V8_ _) V6_ := rfl
    rw [e9]
    refine tseq_via6 (fun σ' H' => ∃ vp p x6, σ' = [some (.ref a), some v1, some (.ref cd), some (.ref cf), some (.ref ca), some vp, x6, none] ∧ Same H8 H' ∧ TermAt H' vp p ∧ p.size ≤ 63 ∧ ∀ x, p.has x → Wd x) ?_ ?_
    · rintro σ' H11 ⟨vp, p, x6, rfl, s811, hvp, hsp, hpw⟩
      have to11 := to8.same s811
      have nam11 := nam8.same s811
      refine ⟨_, rfl, vp, p, rfl, hvp, by omega, to11, nam11, few_names hsp, fun hno2 va ws2 H12 nd12 wd12 fr12 cl12 fi12 sx12 to12 nam12 hva2 => ?_, fun hout e H12 sx12 to12 nam12 => ?_⟩
      · refine ⟨_, rfl, vp, p, rfl, hvp.mono sx12.tups, by omega, fun H13 s13 => ⟨_, rfl, ?_⟩⟩
        rw [show p.anyOut = false from hno2]
        refine iteF ?_
        have okp : (p.nm ws2 0).ok := nm_ok wd12 _ 0 cl12 fi12 hpw
        have szp : (p.nm ws2 0).size = p.size := nm_size ws2 _ 0
        have ep : (p.nm ws2 0).numbered = p := count_nm nd12 _ 0 cl12 fi12 fr12
        obtain ⟨cv, rfl⟩ := hva2.ref
        refine ⟨_, rfl, _, rfl, _, rfl, iteT ⟨_, rfl, _, _, rfl, hva2.same s13, okp, by omega, fun H14 s14 => ⟨_, rfl, iteT ⟨_, rfl, _, _, rfl, (hva2.same s13).same s14, by omega, fun vc2 H15 s15 hvc2 => ⟨_, rfl, ?_⟩⟩⟩⟩⟩
        rw [ep] at hvc2
        obtain ⟨c2, rfl⟩ := hvc2.ref
        obtain ⟨c3, rfl⟩ := hvp.ref
        have dp : p.deep ≤ 127 := by
          have := T.deep_le p
          omega
        refine ⟨127, termD p, termD p, c2, c3, rfl, rfl, term_lim _ _ (by omega), by show A.units + 3 + 127 + 1 < cLine; omega, term_dat hvc2, term_dat ((((hvp.mono sx12.tups).same s13).same s14).same s15), fun b hb => ?_⟩
        rw [hb.mpr rfl]
        exact k _
      · refine ⟨e, _, rfl, rfl, X_.x2, ?_⟩
        refine ⟨_, rfl, vp, p, rfl, hvp.mono sx12.tups, by omega, fun H13 s13 => ⟨_, rfl, ?_⟩⟩
        rw [show p.anyOut = true from hout]
        exact iteT ⟨_, rfl, _, rfl, iteT ⟨_, rfl, vp, p, rfl, (hvp.mono sx12.tups).same s13, hsp, to12.same s13, nam12.same s13, hout, fun H14 => k H14⟩⟩
    · intro nxt
      have hln : ((ns.map V.int).length : Int) = (ns.length : Int) := by rw [List.length_map]
      refine ⟨_, rfl, _, _, rfl, Or.inl hS10, _, _, rfl, rfl, (show (0 : Int) < 2 by decide), rfl, _, rfl, ifD (fun _ => ?_) (fun _ => nxt _ _ ⟨vp, p, none, rfl, s810, hvp.at_, by omega, hvp.wd⟩)⟩
      obtain ⟨n, hn, hn30⟩ : ∃ n : Nat, atI [V.int 3, V.int 30] (((ns.map V.int).length : Int) / 2 % 2) = some (.int (n : Int)) ∧ n ≤ 30 := by
        have h0 : 0 ≤ ((ns.map V.int).length : Int) / 2 % 2 := Int.emod_nonneg _ (by decide)
        have h2 : ((ns.map V.int).length : Int) / 2 % 2 < 2 := Int.emod_lt_of_pos _ (by decide)
        obtain ⟨m, hm⟩ : ∃ m : Nat, ((ns.map V.int).length : Int) / 2 % 2 = (m : Int) := ⟨_, (Int.toNat_of_nonneg h0).symm⟩
        rw [hm] at h2 ⊢
        match m, h2 with
        | 0, _ => exact ⟨3, rfl, by decide⟩
        | 1, _ => exact ⟨30, rfl, by decide⟩
        | m + 2, h2 => omega
      refine ⟨small' (by show 2 ≤ 1000000; decide), fun q11 H11 nq11 s11 h11 => ?_⟩
      refine ⟨_, rfl, _, _, rfl, Or.inl (sql_same hS10 s11), _, _, rfl, rfl, ⟨by decide, by decide⟩, _, _, rfl, rfl, (show (0 : Int) < 2 by decide), _, _, _, _, rfl, rfl, SqL.of h11, hn, _, rfl, (by omega), (by omega), ?_⟩
      refine for_range (lo := 0) (n := n) (fun i σ H' => ∃ vp x6, σ = [some (.ref a), some v1, some (.ref cd), some (.ref cf), some (.ref ca), some vp, x6, none] ∧ Same H8 H' ∧ TermAt H' vp (p.wrap i)) ⟨vp, none, rfl, s810.trans s11, hvp.at_.same s11⟩ ?_ ?_
      · rintro i σ H12 hi ⟨vp2, x6, rfl, s12, hvp2⟩
        refine ⟨_, rfl, small' (by show 2 ≤ 1000000; decide), fun b9 H13 n9 s13 h13 => ⟨_, _, rfl, s12.trans s13, .form h13 (hvp2.same s13)⟩⟩
      · rintro σ H12 ⟨vp2, x6, rfl, s12, hvp2⟩
        exact nxt _ _ ⟨vp2, _, x6, rfl, s12, hvp2, by rw [wrap_size]; omega, fun x h => hvp.wd x (wrap_has.mp h)⟩
end
end NC
def PySem.W.Fast.tw9045258089974063498 : Nat := 0
def PySem.W.Fast.tw13466744350803042328 : Nat := 0
def PySem.W.Fast.tw12230306611717101352 : Nat := 0
def PySem.W.Fast.tw15596268683851758799 : Nat := 0
def PySem.W.Fast.tw5158561065478009601 : Nat := 0
def PySem.W.Fast.tw11302402290151989194 : Nat := 0
def PySem.W.Fast.tw1347712879878761442 : Nat := 0
def PySem.W.Fast.tw8495205238415323540 : Nat := 0
def PySem.W.Fast.tw4580651991695725958 : Nat := 0
namespace NC
open PySem PySem.Spec PyProof.Rows L2
theorem all_mk {l : PySem.W.OpenLaw} {w : World} {K : PySem.W.Frag} {h : Heap} {mg : Str → Option Value} {fa c0 c1 c2 f1 f2 f3 f4 f5 f6 f7 f8 f9 f10 f11 f12 f13 f14 f15 f16 f17 f18 f19 f20 f21 f22 f23 f24 f25 : Addr} (T0 T1 T2 : Addr) {cE cN cO cL : Addr} (X : K.In h) (G : h.Ns mainGlobals mg) (hfa : mg "law" = some (.ref fa))
    {od1 an1 od2 an2 od3 an3 od4 an4 od5 an5 od6 an6 od7 an7 od8 an8 od9 an9 od10 an10 od11 an11 od12 an12 od13 an13 od14 an14 od15 an15 od16 an16 od17 an17 od18 an18 od19 an19 od20 an20 od21 an21 od22 an22 od23 an23 od24 an24 od25 an25 : Option Addr} {sl1 sl2 sl3 sl4 sl5 sl6 sl7 sl8 sl9 sl10 sl11 sl12 sl13 sl14 sl15 sl16 sl17 sl18 sl19 sl20 sl21 sl22 sl23 sl24 sl25 : Array (Option Value)} {oc1 kV1 dc1 pm1 ct1 cd1 oc2 kV2 dc2 pm2 ct2 cd2 oc3 kV3 dc3 pm3 ct3 oc4 kV4 dc4 pm4 ct4 cd4 oc5 kV5 dc5 pm5 ct5 cd5 oc6 kV6 dc6 pm6 ct6 cd6 oc7 kV7 dc7 pm7 ct7 cd7 oc8 kV8 dc8 pm8 ct8 cd8 oc9 kV9 dc9 pm9 ct9 cd9 oc10 kV10 dc10 pm10 ct10 oc11 kV11 dc11 pm11 ct11 oc12 kV12 dc12 pm12 ct12 cd12 oc13 kV13 dc13 pm13 ct13 cd13 oc14 kV14 dc14 pm14 ct14 cd14 oc15 kV15 dc15 pm15 ct15 cd15 oc16 kV16 dc16 pm16 ct16 cd16 oc17 kV17 dc17 pm17 ct17 cd17 oc18 kV18 dc18 pm18 ct18 cd18 oc19 kV19 dc19 pm19 ct19 cd19 oc20 kV20 dc20 pm20 ct20 cd20 oc21 kV21 dc21 pm21 ct21 cd21 oc22 kV22 dc22 pm22 ct22 cd22 oc23 kV23 dc23 pm23 ct23 cd23 oc24 kV24 dc24 pm24 ct24 cd24 oc25 kV25 dc25 pm25 ct25 cd25 : Value}
    (a1 : PySem.W.nsIn K mainGlobals "is_outer" = some (some (.ref f1)))
    (a2 : PySem.W.nsIn K mainGlobals "walk" = some (some (.ref f2)))
    (a3 : PySem.W.nsIn K mainGlobals "parts_of" = some (some (.ref f3)))
    (a4 : PySem.W.nsIn K mainGlobals "built" = some (some (.ref f4)))
    (a5 : PySem.W.nsIn K mainGlobals "names_of" = some (some (.ref f5)))
    (a6 : PySem.W.nsIn K mainGlobals "has_outer" = some (some (.ref f6)))
    (a7 : PySem.W.nsIn K mainGlobals "word_of" = some (some (.ref f7)))
    (a8 : PySem.W.nsIn K mainGlobals "free_words" = some (some (.ref f8)))
    (a9 : PySem.W.nsIn K mainGlobals "told_by_number" = some (some (.ref f9)))
    (a10 : PySem.W.nsIn K mainGlobals "numbered" = some (some (.ref f10)))
    (a11 : PySem.W.nsIn K mainGlobals "named" = some (some (.ref f11)))
    (a12 : PySem.W.nsIn K mainGlobals "_law_whole" = some (some (.ref f12)))
    (a13 : PySem.W.nsIn K mainGlobals "_law_wordy" = some (some (.ref f13)))
    (a14 : PySem.W.nsIn K mainGlobals "_law_counted" = some (some (.ref f14)))
    (a15 : PySem.W.nsIn K mainGlobals "_law_letters" = some (some (.ref f15)))
    (a16 : PySem.W.nsIn K mainGlobals "_law_is_named" = some (some (.ref f16)))
    (a17 : PySem.W.nsIn K mainGlobals "_law_is_term" = some (some (.ref f17)))
    (a18 : PySem.W.nsIn K mainGlobals "_law_grown" = some (some (.ref f18)))
    (a19 : PySem.W.nsIn K mainGlobals "_law_parts" = some (some (.ref f19)))
    (a20 : PySem.W.nsIn K mainGlobals "_law_outer" = some (some (.ref f20)))
    (a21 : PySem.W.nsIn K mainGlobals "_law_room" = some (some (.ref f21)))
    (a22 : PySem.W.nsIn K mainGlobals "_law_any_word" = some (some (.ref f22)))
    (a23 : PySem.W.nsIn K mainGlobals "_law_any" = some (some (.ref f23)))
    (a24 : PySem.W.nsIn K mainGlobals "_law_base_tells" = some (some (.ref f24)))
    (a25 : PySem.W.nsIn K mainGlobals "law" = some (some (.ref f25)))
    (eE : PySem.W.nsIn K mainGlobals "CallError" = some (some (.ref cE))) (eN : PySem.W.nsIn K mainGlobals "NoStep" = some (some (.ref cN))) (eO : PySem.W.nsIn K mainGlobals "Outer" = some (some (.ref cO))) (eL : PySem.W.nsIn K mainGlobals "NoLine" = some (some (.ref cL)))
    (eX : PySem.W.excIn K cO [.type "ValueError", .type "Exception", .type "BaseException", .type "object"] "ValueError.__new__" = true)
    (e1 : PySem.W.exmOne K (.ref cO) (.ref cE) = some true) (e2 : PySem.W.exmOne K (.ref cO) (.ref cO) = some true) (e3 : PySem.W.kitOne K (.ref cO) (.ref cN) = some false) (e4 : PySem.W.kitOne K (.ref cO) (.ref cO) = some true) (e5 : PySem.W.kitOne K (.ref cO) (.ref cL) = some false) (e6 : PySem.W.kitOne K (.ref cO) (.type "ValueError") = some true)
    (e7 : PySem.W.findIn K (.ref cO) "__getattribute__" = some (some (.builtin "BaseException.__getattribute__"))) (e13 : PySem.W.findIn K (.ref cO) "__getattr__" = some none) (e14 : PySem.W.mroIn K cO (.type "BaseException") = some true) (e8 : PySem.W.hasDictIn K cO = true) (e9 : PySem.W.findIn K (.ref cO) "__class__" = some (some (.builtin "object.__class__"))) (e10 : PySem.W.specialIn K (.builtin "object.__class__") "__get__" = some (some (.builtin "getset_descriptor.__get__"))) (e11 : PySem.W.takesIn K (.builtin "object.__class__") = some true) (e12 : PySem.W.mroIn K cO (.type "object") = some true)
    {tk_LETTERS : Tok} (yG_LETTERS : PySem.W.nsIn K mainGlobals "LETTERS" = some (some (.str (Str.ofString "abcdefghijklmnopqrstuvwxyz") tk_LETTERS)))
    (l1 : K.lookup f1 = some ⟨oc1, od1, .func (PySem.W.fnOf "is_outer" "is_outer" (defArgs s_is_outer) (defBody s_is_outer) (defScope s_is_outer) .none kV1 dc1 pm1 an1 cd1 ct1), sl1⟩) (c1' : PySem.W.codeIn K cd1 "is_outer" = true) (k1 : PySem.W.keepIn K (.ref f1) = true)
    (l2 : K.lookup f2 = some ⟨oc2, od2, .func (PySem.W.fnOf "walk" "walk" (defArgs s_walk) (defBody s_walk) (defScope s_walk) .none kV2 dc2 pm2 an2 cd2 ct2), sl2⟩) (c2' : PySem.W.codeIn K cd2 "walk" = true) (k2 : PySem.W.keepIn K (.ref f2) = true)
    (l3 : K.lookup f3 = some ⟨oc3, od3, .func (PySem.W.fnOf "parts_of" "parts_of" (defArgs s_parts_of) (defBody s_parts_of) (defScope s_parts_of) .none kV3 dc3 pm3 an3 (.ref c2) ct3), sl3⟩) (c3' : PySem.W.codeIn K (.ref c2) "parts_of" = true) (k3 : PySem.W.keepIn K (.ref f3) = true)
    (l4 : K.lookup f4 = some ⟨oc4, od4, .func (PySem.W.fnOf "built" "built" (defArgs s_built) (defBody s_built) (defScope s_built) .none kV4 dc4 pm4 an4 cd4 ct4), sl4⟩) (c4' : PySem.W.codeIn K cd4 "built" = true) (k4 : PySem.W.keepIn K (.ref f4) = true)
    (l5 : K.lookup f5 = some ⟨oc5, od5, .func (PySem.W.fnOf "names_of" "names_of" (defArgs s_names_of) (defBody s_names_of) (defScope s_names_of) .none kV5 dc5 pm5 an5 cd5 ct5), sl5⟩) (c5' : PySem.W.codeIn K cd5 "names_of" = true) (k5 : PySem.W.keepIn K (.ref f5) = true)
    (l6 : K.lookup f6 = some ⟨oc6, od6, .func (PySem.W.fnOf "has_outer" "has_outer" (defArgs s_has_outer) (defBody s_has_outer) (defScope s_has_outer) .none kV6 dc6 pm6 an6 cd6 ct6), sl6⟩) (c6' : PySem.W.codeIn K cd6 "has_outer" = true) (k6 : PySem.W.keepIn K (.ref f6) = true)
    (l7 : K.lookup f7 = some ⟨oc7, od7, .func (PySem.W.fnOf "word_of" "word_of" (defArgs s_word_of) (defBody s_word_of) (defScope s_word_of) .none kV7 dc7 pm7 an7 cd7 ct7), sl7⟩) (c7' : PySem.W.codeIn K cd7 "word_of" = true) (k7 : PySem.W.keepIn K (.ref f7) = true)
    (l8 : K.lookup f8 = some ⟨oc8, od8, .func (PySem.W.fnOf "free_words" "free_words" (defArgs s_free_words) (defBody s_free_words) (defScope s_free_words) .none kV8 dc8 pm8 an8 cd8 ct8), sl8⟩) (c8' : PySem.W.codeIn K cd8 "free_words" = true) (k8 : PySem.W.keepIn K (.ref f8) = true)
    (l9 : K.lookup f9 = some ⟨oc9, od9, .func (PySem.W.fnOf "told_by_number" "told_by_number" (defArgs s_told_by_number) (defBody s_told_by_number) (defScope s_told_by_number) .none kV9 dc9 pm9 an9 cd9 ct9), sl9⟩) (c9' : PySem.W.codeIn K cd9 "told_by_number" = true) (k9 : PySem.W.keepIn K (.ref f9) = true)
    (l10 : K.lookup f10 = some ⟨oc10, od10, .func (PySem.W.fnOf "numbered" "numbered" (defArgs s_numbered) (defBody s_numbered) (defScope s_numbered) .none kV10 dc10 pm10 an10 (.ref c0) ct10), sl10⟩) (c10' : PySem.W.codeIn K (.ref c0) "numbered" = true) (k10 : PySem.W.keepIn K (.ref f10) = true)
    (l11 : K.lookup f11 = some ⟨oc11, od11, .func (PySem.W.fnOf "named" "named" (defArgs s_named) (defBody s_named) (defScope s_named) .none kV11 dc11 pm11 an11 (.ref c1) ct11), sl11⟩) (c11' : PySem.W.codeIn K (.ref c1) "named" = true) (k11 : PySem.W.keepIn K (.ref f11) = true)
    (l12 : K.lookup f12 = some ⟨oc12, od12, .func (PySem.W.fnOf "_law_whole" "_law_whole" (defArgs s__law_whole) (defBody s__law_whole) (defScope s__law_whole) .none kV12 dc12 pm12 an12 cd12 ct12), sl12⟩) (c12' : PySem.W.codeIn K cd12 "_law_whole" = true) (k12 : PySem.W.keepIn K (.ref f12) = true)
    (l13 : K.lookup f13 = some ⟨oc13, od13, .func (PySem.W.fnOf "_law_wordy" "_law_wordy" (defArgs s__law_wordy) (defBody s__law_wordy) (defScope s__law_wordy) .none kV13 dc13 pm13 an13 cd13 ct13), sl13⟩) (c13' : PySem.W.codeIn K cd13 "_law_wordy" = true) (k13 : PySem.W.keepIn K (.ref f13) = true)
    (l14 : K.lookup f14 = some ⟨oc14, od14, .func (PySem.W.fnOf "_law_counted" "_law_counted" (defArgs s__law_counted) (defBody s__law_counted) (defScope s__law_counted) .none kV14 dc14 pm14 an14 cd14 ct14), sl14⟩) (c14' : PySem.W.codeIn K cd14 "_law_counted" = true) (k14 : PySem.W.keepIn K (.ref f14) = true)
    (l15 : K.lookup f15 = some ⟨oc15, od15, .func (PySem.W.fnOf "_law_letters" "_law_letters" (defArgs s__law_letters) (defBody s__law_letters) (defScope s__law_letters) .none kV15 dc15 pm15 an15 cd15 ct15), sl15⟩) (c15' : PySem.W.codeIn K cd15 "_law_letters" = true) (k15 : PySem.W.keepIn K (.ref f15) = true)
    (l16 : K.lookup f16 = some ⟨oc16, od16, .func (PySem.W.fnOf "_law_is_named" "_law_is_named" (defArgs s__law_is_named) (defBody s__law_is_named) (defScope s__law_is_named) .none kV16 dc16 pm16 an16 cd16 ct16), sl16⟩) (c16' : PySem.W.codeIn K cd16 "_law_is_named" = true) (k16 : PySem.W.keepIn K (.ref f16) = true)
    (l17 : K.lookup f17 = some ⟨oc17, od17, .func (PySem.W.fnOf "_law_is_term" "_law_is_term" (defArgs s__law_is_term) (defBody s__law_is_term) (defScope s__law_is_term) .none kV17 dc17 pm17 an17 cd17 ct17), sl17⟩) (c17' : PySem.W.codeIn K cd17 "_law_is_term" = true) (k17 : PySem.W.keepIn K (.ref f17) = true)
    (l18 : K.lookup f18 = some ⟨oc18, od18, .func (PySem.W.fnOf "_law_grown" "_law_grown" (defArgs s__law_grown) (defBody s__law_grown) (defScope s__law_grown) .none kV18 dc18 pm18 an18 cd18 ct18), sl18⟩) (c18' : PySem.W.codeIn K cd18 "_law_grown" = true) (k18 : PySem.W.keepIn K (.ref f18) = true)
    (l19 : K.lookup f19 = some ⟨oc19, od19, .func (PySem.W.fnOf "_law_parts" "_law_parts" (defArgs s__law_parts) (defBody s__law_parts) (defScope s__law_parts) .none kV19 dc19 pm19 an19 cd19 ct19), sl19⟩) (c19' : PySem.W.codeIn K cd19 "_law_parts" = true) (k19 : PySem.W.keepIn K (.ref f19) = true)
    (l20 : K.lookup f20 = some ⟨oc20, od20, .func (PySem.W.fnOf "_law_outer" "_law_outer" (defArgs s__law_outer) (defBody s__law_outer) (defScope s__law_outer) .none kV20 dc20 pm20 an20 cd20 ct20), sl20⟩) (c20' : PySem.W.codeIn K cd20 "_law_outer" = true) (k20 : PySem.W.keepIn K (.ref f20) = true)
    (l21 : K.lookup f21 = some ⟨oc21, od21, .func (PySem.W.fnOf "_law_room" "_law_room" (defArgs s__law_room) (defBody s__law_room) (defScope s__law_room) .none kV21 dc21 pm21 an21 cd21 ct21), sl21⟩) (c21' : PySem.W.codeIn K cd21 "_law_room" = true) (k21 : PySem.W.keepIn K (.ref f21) = true)
    (l22 : K.lookup f22 = some ⟨oc22, od22, .func (PySem.W.fnOf "_law_any_word" "_law_any_word" (defArgs s__law_any_word) (defBody s__law_any_word) (defScope s__law_any_word) .none kV22 dc22 pm22 an22 cd22 ct22), sl22⟩) (c22' : PySem.W.codeIn K cd22 "_law_any_word" = true) (k22 : PySem.W.keepIn K (.ref f22) = true)
    (l23 : K.lookup f23 = some ⟨oc23, od23, .func (PySem.W.fnOf "_law_any" "_law_any" (defArgs s__law_any) (defBody s__law_any) (defScope s__law_any) .none kV23 dc23 pm23 an23 cd23 ct23), sl23⟩) (c23' : PySem.W.codeIn K cd23 "_law_any" = true) (k23 : PySem.W.keepIn K (.ref f23) = true)
    (l24 : K.lookup f24 = some ⟨oc24, od24, .func (PySem.W.fnOf "_law_base_tells" "_law_base_tells" (defArgs s__law_base_tells) (defBody s__law_base_tells) (defScope s__law_base_tells) .none kV24 dc24 pm24 an24 cd24 ct24), sl24⟩) (c24' : PySem.W.codeIn K cd24 "_law_base_tells" = true) (k24 : PySem.W.keepIn K (.ref f24) = true)
    (l25 : K.lookup f25 = some ⟨oc25, od25, .func (PySem.W.fnOf "law" "law" (defArgs s_law) (defBody s_law) (defScope s_law) .none kV25 dc25 pm25 an25 cd25 ct25), sl25⟩) (c25' : PySem.W.codeIn K cd25 "law" = true) (k25 : PySem.W.keepIn K (.ref f25) = true)
    (z0 : PySem.W.nsIn K mainGlobals "len" = some none) (z1 : PySem.W.nsIn K mainGlobals "abs" = some none) (z2 : PySem.W.nsIn K mainGlobals "isinstance" = some none) (z3 : PySem.W.nsIn K mainGlobals "list" = some none) (z4 : PySem.W.nsIn K mainGlobals "tuple" = some none) (z5 : PySem.W.nsIn K mainGlobals "str" = some none) (z6 : PySem.W.nsIn K mainGlobals "reversed" = some none) (z7 : PySem.W.nsIn K mainGlobals "int" = some none) (z8 : PySem.W.nsIn K mainGlobals "bool" = some none) (z9 : PySem.W.nsIn K mainGlobals "sorted" = some none) (z10 : PySem.W.nsIn K mainGlobals "set" = some none) (z11 : PySem.W.nsIn K mainGlobals "any" = some none) (z12 : PySem.W.nsIn K mainGlobals "range" = some none) (z13 : PySem.W.nsIn K mainGlobals "max" = some none) (z14 : PySem.W.nsIn K mainGlobals "dict" = some none) (z15 : PySem.W.nsIn K mainGlobals "ValueError" = some none)
    (hC0 : PySem.W.codeHdIn K c0 T0 = true) (hC1 : PySem.W.codeHdIn K c1 T1 = true) (hC2 : PySem.W.codeHdIn K c2 T2 = true) (hT : [T0, T1, T2].Nodup) :
    ∃ fd : FuncData, (∀ (s : Shared) (v : Value), BindsTo s fd ⟨[v], []⟩ [("_law_script", v)]) ∧ ∀ base : Heap, K.In base → base.Ns mainGlobals mg → BltAt base mg → FnOk l.prog w K mg base CX0 7 fa fd ["_law_script"] (sp_law [(T2, lamPos l_parts_of_0, q_parts_of_0)] T0 T1 K) := by
  have e := hfa.symm.trans (PySem.W.mg_of X G a25)
  cases e
  have N_ : NoNames mg := ⟨PySem.W.mg_none_of X G z0, PySem.W.mg_none_of X G z1, PySem.W.mg_none_of X G z2, PySem.W.mg_none_of X G z3, PySem.W.mg_none_of X G z4, PySem.W.mg_none_of X G z5, PySem.W.mg_none_of X G z6, PySem.W.mg_none_of X G z7, PySem.W.mg_none_of X G z8, PySem.W.mg_none_of X G z9, PySem.W.mg_none_of X G z10, PySem.W.mg_none_of X G z11, PySem.W.mg_none_of X G z12, PySem.W.mg_none_of X G z13, PySem.W.mg_none_of X G z14, PySem.W.mg_none_of X G z15⟩
  have dis : TDis [(T2, lamPos l_parts_of_0, q_parts_of_0)] := tdis_of (List.nodup_cons.mp (List.nodup_cons.mp hT).2).2
  have n0 : T0 ∉ ([(T2, lamPos l_parts_of_0, q_parts_of_0)] : Tabs).map (·.1) := fun z => (List.nodup_cons.mp hT).1 (List.mem_cons_of_mem _ z)
  have n1 : T1 ≠ T0 := fun e => (List.nodup_cons.mp hT).1 (by rw [← e]; exact List.mem_cons_self)
  have nT1 : T1 ∉ ([(T2, lamPos l_parts_of_0, q_parts_of_0)] : Tabs).map (·.1) := (List.nodup_cons.mp (List.nodup_cons.mp hT).2).1
  have hT2 : (T2, lamPos l_parts_of_0, q_parts_of_0) ∈ ([(T2, lamPos l_parts_of_0, q_parts_of_0)] : Tabs) := (.head _)
  have X_ : ExcsO K mg cE cN cO cL := ⟨PySem.W.mg_of X G eE, PySem.W.mg_of X G eN, PySem.W.mg_of X G eO, PySem.W.mg_of X G eL, e1, e2, e3, e4, e5, e6, ⟨e7, e13, e14, e8, e9, e10, e11, e12⟩⟩
  have hG_LETTERS := PySem.W.mg_of X G yG_LETTERS
  have F1 := fun_mk (st := s_is_outer) l1 c1' k1
  have b1 := F1.binds (ps := ["part", "forms"]) fun _ _ _ _ _ _ us hl => by obtain ⟨_, _, rfl⟩ := len2 hl; rfl
  have m1 := PySem.W.mg_of X G a1
  have F2 := fun_mk (st := s_walk) l2 c2' k2
  have b2 := F2.binds (ps := ["term", "around", "inward"]) fun _ _ _ _ _ _ us hl => by obtain ⟨_, _, _, rfl⟩ := len3 hl; rfl
  have m2 := PySem.W.mg_of X G a2
  have F3 : FunC K "parts_of" "parts_of" s_parts_of f3 _ c2 := ⟨⟨_, _, _, _, _, _, _, _, rfl, l3, c3'⟩⟩
  have b3 : Binds K (PySem.W.fnOf "parts_of" "parts_of" (defArgs s_parts_of) (defBody s_parts_of) (defScope s_parts_of) .none kV3 dc3 pm3 an3 (.ref c2) ct3) ["term"] [] := .all fun us hl => by obtain ⟨_, rfl⟩ := len1 hl; rfl
  have m3 := PySem.W.mg_of X G a3
  have F4 := fun_mk (st := s_built) l4 c4' k4
  have b4 := F4.binds (ps := ["found", "leaf", "over"]) fun _ _ _ _ _ _ us hl => by obtain ⟨_, _, _, rfl⟩ := len3 hl; rfl
  have m4 := PySem.W.mg_of X G a4
  have F5 := fun_mk (st := s_names_of) l5 c5' k5
  have b5 := F5.binds (ps := ["term"]) fun _ _ _ _ _ _ us hl => by obtain ⟨_, rfl⟩ := len1 hl; rfl
  have m5 := PySem.W.mg_of X G a5
  have F6 := fun_mk (st := s_has_outer) l6 c6' k6
  have b6 := F6.binds (ps := ["term"]) fun _ _ _ _ _ _ us hl => by obtain ⟨_, rfl⟩ := len1 hl; rfl
  have m6 := PySem.W.mg_of X G a6
  have F7 := fun_mk (st := s_word_of) l7 c7' k7
  have b7 := F7.binds (ps := ["number"]) fun _ _ _ _ _ _ us hl => by obtain ⟨_, rfl⟩ := len1 hl; rfl
  have m7 := PySem.W.mg_of X G a7
  have F8 := fun_mk (st := s_free_words) l8 c8' k8
  have b8 := F8.binds (ps := ["many", "taken"]) fun _ _ _ _ _ _ us hl => by obtain ⟨_, _, rfl⟩ := len2 hl; rfl
  have m8 := PySem.W.mg_of X G a8
  have F9 := fun_mk (st := s_told_by_number) l9 c9' k9
  have b9 := F9.binds (ps := ["part", "around"]) fun _ _ _ _ _ _ us hl => by obtain ⟨_, _, rfl⟩ := len2 hl; rfl
  have m9 := PySem.W.mg_of X G a9
  have F10 : FunC K "numbered" "numbered" s_numbered f10 _ c0 := ⟨⟨_, _, _, _, _, _, _, _, rfl, l10, c10'⟩⟩
  have b10 : Binds K (PySem.W.fnOf "numbered" "numbered" (defArgs s_numbered) (defBody s_numbered) (defScope s_numbered) .none kV10 dc10 pm10 an10 (.ref c0) ct10) ["term"] [] := .all fun us hl => by obtain ⟨_, rfl⟩ := len1 hl; rfl
  have m10 := PySem.W.mg_of X G a10
  have F11 : FunC K "named" "named" s_named f11 _ c1 := ⟨⟨_, _, _, _, _, _, _, _, rfl, l11, c11'⟩⟩
  have b11 : Binds K (PySem.W.fnOf "named" "named" (defArgs s_named) (defBody s_named) (defScope s_named) .none kV11 dc11 pm11 an11 (.ref c1) ct11) ["term"] [] := .all fun us hl => by obtain ⟨_, rfl⟩ := len1 hl; rfl
  have m11 := PySem.W.mg_of X G a11
  have F12 := fun_mk (st := s__law_whole) l12 c12' k12
  have b12 := F12.binds (ps := ["_law_found"]) fun _ _ _ _ _ _ us hl => by obtain ⟨_, rfl⟩ := len1 hl; rfl
  have m12 := PySem.W.mg_of X G a12
  have F13 := fun_mk (st := s__law_wordy) l13 c13' k13
  have b13 := F13.binds (ps := ["_law_cells"]) fun _ _ _ _ _ _ us hl => by obtain ⟨_, rfl⟩ := len1 hl; rfl
  have m13 := PySem.W.mg_of X G a13
  have F14 := fun_mk (st := s__law_counted) l14 c14' k14
  have b14 := F14.binds (ps := ["_law_term"]) fun _ _ _ _ _ _ us hl => by obtain ⟨_, rfl⟩ := len1 hl; rfl
  have m14 := PySem.W.mg_of X G a14
  have F15 := fun_mk (st := s__law_letters) l15 c15' k15
  have b15 := F15.binds (ps := ["_law_found"]) fun _ _ _ _ _ _ us hl => by obtain ⟨_, rfl⟩ := len1 hl; rfl
  have m15 := PySem.W.mg_of X G a15
  have F16 := fun_mk (st := s__law_is_named) l16 c16' k16
  have b16 := F16.binds (ps := ["_law_found"]) fun _ _ _ _ _ _ us hl => by obtain ⟨_, rfl⟩ := len1 hl; rfl
  have m16 := PySem.W.mg_of X G a16
  have F17 := fun_mk (st := s__law_is_term) l17 c17' k17
  have b17 := F17.binds (ps := ["_law_found"]) fun _ _ _ _ _ _ us hl => by obtain ⟨_, rfl⟩ := len1 hl; rfl
  have m17 := PySem.W.mg_of X G a17
  have F18 := fun_mk (st := s__law_grown) l18 c18' k18
  have b18 := F18.binds (ps := ["_law_cells"]) fun _ _ _ _ _ _ us hl => by obtain ⟨_, rfl⟩ := len1 hl; rfl
  have m18 := PySem.W.mg_of X G a18
  have F19 := fun_mk (st := s__law_parts) l19 c19' k19
  have b19 := F19.binds (ps := ["_law_term"]) fun _ _ _ _ _ _ us hl => by obtain ⟨_, rfl⟩ := len1 hl; rfl
  have m19 := PySem.W.mg_of X G a19
  have F20 := fun_mk (st := s__law_outer) l20 c20' k20
  have b20 := F20.binds (ps := ["_law_term"]) fun _ _ _ _ _ _ us hl => by obtain ⟨_, rfl⟩ := len1 hl; rfl
  have m20 := PySem.W.mg_of X G a20
  have F21 := fun_mk (st := s__law_room) l21 c21' k21
  have b21 := F21.binds (ps := ["_law_script", "_law_most", "_law_bound"]) fun _ _ _ _ _ _ us hl => by obtain ⟨_, _, _, rfl⟩ := len3 hl; rfl
  have m21 := PySem.W.mg_of X G a21
  have F22 := fun_mk (st := s__law_any_word) l22 c22' k22
  have b22 := F22.binds (ps := ["_law_cell"]) fun _ _ _ _ _ _ us hl => by obtain ⟨_, rfl⟩ := len1 hl; rfl
  have m22 := PySem.W.mg_of X G a22
  have F23 := fun_mk (st := s__law_any) l23 c23' k23
  have b23 := F23.binds (ps := ["_law_cell"]) fun _ _ _ _ _ _ us hl => by obtain ⟨_, rfl⟩ := len1 hl; rfl
  have m23 := PySem.W.mg_of X G a23
  have F24 := fun_mk (st := s__law_base_tells) l24 c24' k24
  have b24 := F24.binds (ps := ["_law_term"]) fun _ _ _ _ _ _ us hl => by obtain ⟨_, rfl⟩ := len1 hl; rfl
  have m24 := PySem.W.mg_of X G a24
  have F25 := fun_mk (st := s_law) l25 c25' k25
  have b25 := F25.binds (ps := ["_law_script"]) fun _ _ _ _ _ _ us hl => by obtain ⟨_, rfl⟩ := len1 hl; rfl
  have m25 := PySem.W.mg_of X G a25
  refine ⟨PySem.W.fnOf "law" "law" (defArgs s_law) (defBody s_law) (defScope s_law) .none kV25 dc25 pm25 an25 cd25 ct25, fun s v => .of_eq rfl, fun base KB _ BB => ?_⟩
  have Go : ∀ base, GF l.prog w K mg base CX0 1 "is_outer" ["part", "forms"] sp_is_outer := fun base => ⟨_, _, ok_is_outer F1, m1, k1, b1⟩
  have Gw : ∀ base, GB l.prog w K mg base CX0 2 "walk" ["term", "around", "inward"] (sp_walk 1 l.prog w K mg) := fun base base' _ => ⟨_, _, ok_walk F2, m2, k2, b2⟩
  have Gp : ∀ base, BltAt base mg → GF l.prog w K mg base CX0 3 "parts_of" ["term"] (sp_parts [(T2, lamPos l_parts_of_0, q_parts_of_0)]) := fun base BB => ⟨_, _, ok_parts_of F3 hC2 BB dis hT2 (Gw base), m3, k3, b3⟩
  have G_names_of : GF l.prog w K mg base CX0 4 "names_of" ["term"] (sp_names_of [(T2, lamPos l_parts_of_0, q_parts_of_0)]) := ⟨_, _, ok_names_of F5 N_ (Gp base BB), m5, k5, b5⟩
  have G_has_outer : GF l.prog w K mg base CX0 4 "has_outer" ["term"] (sp_has_outer [(T2, lamPos l_parts_of_0, q_parts_of_0)]) := ⟨_, _, ok_has_outer F6 N_ (Go base) (Gp base BB), m6, k6, b6⟩
  have GwN : GB l.prog w K mg base CX0 2 "walk" ["term", "around", "inward"] (sp_walkN 1 l.prog w K mg) := fun base' _ => ⟨_, _, ok_walkN F2, m2, k2, b2⟩
  have GbN : GB l.prog w K mg base CX0 2 "built" ["found", "leaf", "over"] (sp_builtN 1 l.prog w K mg) := fun base' _ => ⟨_, _, ok_builtN F4 N_, m4, k4, b4⟩
  have Ft : FV l.prog w K mg base CX0 1 f9 ["part", "around"] (sp_leafN byNum) := ⟨_, _, _, _, ok_told F9, KB _ _ l9, b9⟩
  have G_numbered : GF l.prog w K mg base CX0 3 "numbered" ["term"] (sp_numbered T0) := ⟨_, _, ok_numbered F10 hC0 BB m9 (fun base' lg => Ft.larger lg) GwN GbN, m10, k10, b10⟩
  have G_word_of : GF l.prog w K mg base CX0 1 "word_of" ["number"] sp_word_of := ⟨_, _, ok_word_of F7 hG_LETTERS, m7, k7, b7⟩
  have G_free_words : GF l.prog w K mg base CX0 2 "free_words" ["many", "taken"] sp_free_words := ⟨_, _, ok_free_words F8 N_ G_word_of, m8, k8, b8⟩
  have GbW : GB l.prog w K mg base CX0 2 "built" ["found", "leaf", "over"] (sp_builtW 1 l.prog w K mg) := fun base' _ => ⟨_, _, ok_builtW F4 N_, m4, k4, b4⟩
  have G_named : GF l.prog w K mg base (CXE l.prog w) 5 "named" ["term"] (sp_namedE [(T2, lamPos l_parts_of_0, q_parts_of_0)] T1 cO) := ⟨_, _, ok_namedE F11 hC1 BB N_ nT1 (exc_of KB X_.mO eX) G_has_outer (Gp base BB) G_names_of G_free_words GbW, m11, k11, b11⟩
  have G__law_whole : GF l.prog w K mg base CX0 1 "_law_whole" ["_law_found"] sp_whole := ⟨_, _, ok__law_whole F12 N_, m12, k12, b12⟩
  have G__law_any : GF l.prog w K mg base CX0 1 "_law_any" ["_law_cell"] sp_any := ⟨_, _, ok__law_any F23 , m23, k23, b23⟩
  have G__law_any_word : GF l.prog w K mg base CX0 1 "_law_any_word" ["_law_cell"] sp_any_wordF := ⟨_, _, ok_any_wordF F22 N_, m22, k22, b22⟩
  have G__law_wordy : GF l.prog w K mg base CX0 2 "_law_wordy" ["_law_cells"] (sp_wordy K) := ⟨_, _, ok__law_wordy F13 N_ G__law_any_word, m13, k13, b13⟩
  have G__law_grown : GF l.prog w K mg base CX0 2 "_law_grown" ["_law_cells"] (sp_grown K) := ⟨_, _, ok__law_grown F18 N_ G__law_any G__law_any_word, m18, k18, b18⟩
  have G__law_room : GF l.prog w K mg base CX0 1 "_law_room" ["_law_script", "_law_most", "_law_bound"] (sp_room K) := ⟨_, _, ok__law_room F21 N_, m21, k21, b21⟩
  have G__law_parts : GF l.prog w K mg base CX0 1 "_law_parts" ["_law_term"] sp_lparts := ⟨_, _, ok__law_parts F19 N_, m19, k19, b19⟩
  have G__law_counted : GF l.prog w K mg base CX0 1 "_law_counted" ["_law_term"] sp_counted := ⟨_, _, ok__law_counted F14 N_, m14, k14, b14⟩
  have G__law_letters : GF l.prog w K mg base CX0 1 "_law_letters" ["_law_found"] sp_letters := ⟨_, _, ok__law_letters F15 N_, m15, k15, b15⟩
  have G__law_is_named : GF l.prog w K mg base CX0 2 "_law_is_named" ["_law_found"] sp_is_named := ⟨_, _, ok__law_is_named F16 N_ G__law_letters, m16, k16, b16⟩
  have G__law_is_term : GF l.prog w K mg base CX0 2 "_law_is_term" ["_law_found"] sp_lis_term := ⟨_, _, ok__law_is_term F17 N_ G__law_whole, m17, k17, b17⟩
  have G__law_outer : GF l.prog w K mg base CX0 2 "_law_outer" ["_law_term"] sp_outer := ⟨_, _, ok__law_outer F20 G__law_parts, m20, k20, b20⟩
  have G__law_base_tells : GF l.prog w K mg base CX0 6 "_law_base_tells" ["_law_term"] (sp_tells6 [(T2, lamPos l_parts_of_0, q_parts_of_0)] T1) := ⟨_, _, ok_tells6 F24 N_ X_ G_named, m24, k24, b24⟩
  exact ok_law F25 N_ X_ n0 n1 G__law_wordy G__law_room G__law_counted G_numbered G__law_is_term G_named G__law_is_named G__law_grown G__law_outer G__law_base_tells
end NC
open PySem PySem.W PyProof.Rows
set_option maxRecDepth 100000 in
set_option maxHeartbeats 0 in
theorem PySem.Challenge.cw_namecall_k06_whole_numbered_and_named_holds : PySem.Challenge.rw_namecall_k06_whole_numbered_and_named.Holds := by
  w_on; o_law; k_head; (case hw => w_witness2)
  k_fill
  refine NC.walk_T (l := PySem.Challenge.rw_namecall_k06_whole_numbered_and_named) (k := 7) (tabs := [(126, 122), (131, 129), (83, 79)]) (sp := NC.sp_law [(79, NC.lamPos NC.l_parts_of_0, NC.q_parts_of_0)] 122 129) (x := "_law_script") rfl rfl ⟨rfl, by decide, by decide⟩ (fun w h Y => PySem.W.km_in_of Y) ?Y ?T1 ?T2 ?F ?S
  case Y => exact fun w h Y => List.forall_mem_cons.mpr ⟨PySem.W.km_tabs_of Y 122 (by k_mem), List.forall_mem_cons.mpr ⟨PySem.W.km_tabs_of Y 129 (by k_mem), List.forall_mem_cons.mpr ⟨PySem.W.km_tabs_of Y 79 (by k_mem), fun _ h => nomatch h⟩⟩⟩
  case T1 => exact fun P => List.forall_mem_cons.mpr ⟨by kernel_rfl, List.forall_mem_cons.mpr ⟨by kernel_rfl, List.forall_mem_cons.mpr ⟨by kernel_rfl, fun _ h => nomatch h⟩⟩⟩
  case T2 => exact fun P => List.forall_mem_cons.mpr ⟨by kernel_rfl, List.forall_mem_cons.mpr ⟨by kernel_rfl, List.forall_mem_cons.mpr ⟨by kernel_rfl, fun _ h => nomatch h⟩⟩⟩
  case S => exact fun K H a ns hl hH hS => ⟨a, ns, rfl, hS, hl, (List.forall_mem_cons.mpr ⟨.inl (hH _ (.tail _ (.tail _ (.head _)))), fun _ h => nomatch h⟩), .empty (hH _ (.head _)), .empty (hH _ (.tail _ (.head _))), fun _ => rfl⟩
  case F =>
    intro w mg fa h KX G hmg
    refine' NC.all_mk 122 129 79 KX G hmg ?a1 ?a2 ?a3 ?a4 ?a5 ?a6 ?a7 ?a8 ?a9 ?a10 ?a11 ?a12 ?a13 ?a14 ?a15 ?a16 ?a17 ?a18 ?a19 ?a20 ?a21 ?a22 ?a23 ?a24 ?a25 ?eE ?eN ?eO ?eL ?eX ?e1 ?e2 ?e3 ?e4 ?e5 ?e6 ?e7 ?e13 ?e14 ?e8 ?e9 ?e10 ?e11 ?e12 ?yG_LETTERS ?l1 ?c1' ?k1 ?l2 ?c2' ?k2 ?l3 ?c3' ?k3 ?l4 ?c4' ?k4 ?l5 ?c5' ?k5 ?l6 ?c6' ?k6 ?l7 ?c7' ?k7 ?l8 ?c8' ?k8 ?l9 ?c9' ?k9 ?l10 ?c10' ?k10 ?l11 ?c11' ?k11 ?l12 ?c12' ?k12 ?l13 ?c13' ?k13 ?l14 ?c14' ?k14 ?l15 ?c15' ?k15 ?l16 ?c16' ?k16 ?l17 ?c17' ?k17 ?l18 ?c18' ?k18 ?l19 ?c19' ?k19 ?l20 ?c20' ?k20 ?l21 ?c21' ?k21 ?l22 ?c22' ?k22 ?l23 ?c23' ?k23 ?l24 ?c24' ?k24 ?l25 ?c25' ?k25 ?z0 ?z1 ?z2 ?z3 ?z4 ?z5 ?z6 ?z7 ?z8 ?z9 ?z10 ?z11 ?z12 ?z13 ?z14 ?z15 ?hC0 ?hC1 ?hC2 (by decide)
    (case a1 => k_is); (case a2 => k_is); (case a3 => k_is); (case a4 => k_is); (case a5 => k_is); (case a6 => k_is); (case a7 => k_is); (case a8 => k_is)
    (case a9 => k_is); (case a10 => k_is); (case a11 => k_is); (case a12 => k_is); (case a13 => k_is); (case a14 => k_is); (case a15 => k_is); (case a16 => k_is)
    (case a17 => k_is); (case a18 => k_is); (case a19 => k_is); (case a20 => k_is); (case a21 => k_is); (case a22 => k_is); (case a23 => k_is); (case a24 => k_is)
    (case a25 => k_is); (case eE => k_is); (case eN => k_is); (case eO => k_is); (case eL => k_is); (case eX => kernel_rfl); (case e1 => kernel_rfl); (case e2 => kernel_rfl)
    (case e3 => kernel_rfl); (case e4 => kernel_rfl); (case e5 => kernel_rfl); (case e6 => kernel_rfl); (case e7 => k_is); (case e13 => k_is); (case e14 => k_is); (case e8 => k_is)
    (case e9 => k_is); (case e10 => k_is); (case e11 => k_is); (case e12 => k_is); (case yG_LETTERS => k_is); (case l1 => k_is); (case c1' => k_is); (case k1 => k_is)
    (case l2 => k_is); (case c2' => k_is); (case k2 => k_is); (case l3 => k_is); (case c3' => k_is); (case k3 => k_is); (case l4 => k_is); (case c4' => k_is)
    (case k4 => k_is); (case l5 => k_is); (case c5' => k_is); (case k5 => k_is); (case l6 => k_is); (case c6' => k_is); (case k6 => k_is); (case l7 => k_is)
    (case c7' => k_is); (case k7 => k_is); (case l8 => k_is); (case c8' => k_is); (case k8 => k_is); (case l9 => k_is); (case c9' => k_is); (case k9 => k_is)
    (case l10 => k_is); (case c10' => k_is); (case k10 => k_is); (case l11 => k_is); (case c11' => k_is); (case k11 => k_is); (case l12 => k_is); (case c12' => k_is)
    (case k12 => k_is); (case l13 => k_is); (case c13' => k_is); (case k13 => k_is); (case l14 => k_is); (case c14' => k_is); (case k14 => k_is); (case l15 => k_is)
    (case c15' => k_is); (case k15 => k_is); (case l16 => k_is); (case c16' => k_is); (case k16 => k_is); (case l17 => k_is); (case c17' => k_is); (case k17 => k_is)
    (case l18 => k_is); (case c18' => k_is); (case k18 => k_is); (case l19 => k_is); (case c19' => k_is); (case k19 => k_is); (case l20 => k_is); (case c20' => k_is)
    (case k20 => k_is); (case l21 => k_is); (case c21' => k_is); (case k21 => k_is); (case l22 => k_is); (case c22' => k_is); (case k22 => k_is); (case l23 => k_is)
    (case c23' => k_is); (case k23 => k_is); (case l24 => k_is); (case c24' => k_is); (case k24 => k_is); (case l25 => k_is); (case c25' => k_is); (case k25 => k_is)
    (case z0 => k_is); (case z1 => k_is); (case z2 => k_is); (case z3 => k_is); (case z4 => k_is); (case z5 => k_is); (case z6 => k_is); (case z7 => k_is)
    (case z8 => k_is); (case z9 => k_is); (case z10 => k_is); (case z11 => k_is); (case z12 => k_is); (case z13 => k_is); (case z14 => k_is); (case z15 => k_is)
    (case hC0 => kernel_rfl); (case hC1 => kernel_rfl); (case hC2 => kernel_rfl)
