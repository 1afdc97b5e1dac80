import PyProof.Rows.All
import Wide.All
import OpenK.AllK
import Wide.FinOn
import Lean
import PyProof.EqAt
import PyProof.EqKinds
import PyProof.TupleCall
import PyProof.NeKinds
import PySem.Challenge.RW_namecall_k09_whole_written_and_read
set_option Elab.async false
set_option linter.all false
set_option maxRecDepth 100000
/-! THE HAND LAYER, for ints, bools, texts, own classes, LISTS and tuples (index, slices, in, append, pop ..), calls, loops. Paste it whole ahead of your own text; what your proof does not reach may be deleted. -/
namespace L2
open PySem PySem.Spec PyProof.Rows

/-- a key: an int or a str -/
abbrev Key := Sum Int Str
def keyIs : Key → Value → Bool
  | .inl k, v => Value.isInt k v
  | .inr x, v => Value.isStrOf x v
def keyH (w : World) : Key → Int
  | .inl k => hashInt k
  | .inr x => hashStr w x
theorem keyIs_shape : ∀ {k : Key} {v : Value}, keyIs k v = true → (∃ i t, k = Sum.inl i ∧ v = Value.int i t) ∨ (∃ x t, k = Sum.inr x ∧ v = Value.str x t)
  | .inl i, v, h => by
    obtain ⟨t, e⟩ := Value.isInt_shape (k := i) (v := v) h
    exact .inl ⟨i, t, rfl, e⟩
  | .inr x, v, h => by
    obtain ⟨t, e⟩ := Value.isStrOf_shape (x := x) (v := v) h
    exact .inr ⟨x, t, rfl, e⟩
theorem keyIs_int (i : Int) (t : Tok) : keyIs (.inl i) (.int i t) = true := by simp [keyIs, Value.isInt]
theorem keyIs_str (x : Str) (t : Tok) : keyIs (.inr x) (.str x t) = true := by simp [keyIs, Value.isStrOf]
theorem key_ll (a b : Int) : decide ((Sum.inl a : Key) = Sum.inl b) = (a == b) := by
  by_cases e : a = b
  · subst e; simp
  · have h : ¬ (Sum.inl a : Key) = Sum.inl b := fun q => e (Sum.inl.inj q)
    rw [decide_eq_false h]
    exact (beq_eq_false_iff_ne.mpr e).symm
theorem key_rr (a b : Str) : decide ((Sum.inr a : Key) = Sum.inr b) = decide (a = b) := by
  by_cases e : a = b
  · subst e; simp
  · have h : ¬ (Sum.inr a : Key) = Sum.inr b := fun q => e (Sum.inr.inj q)
    rw [decide_eq_false h, decide_eq_false e]
theorem key_lr (a : Int) (b : Str) : decide ((Sum.inl a : Key) = Sum.inr b) = false := decide_eq_false (fun q => nomatch q)
theorem key_rl (a : Str) (b : Int) : decide ((Sum.inr a : Key) = Sum.inl b) = false := decide_eq_false (fun q => nomatch q)

def mixKind (prog : Program) (w : World) : PySem.KeyKind prog w Key where
  is := keyIs
  hash := keyH w
  inj := fun v a b ha hb => by
    rcases keyIs_shape ha with ⟨i, t, rfl, rfl⟩ | ⟨x, t, rfl, rfl⟩
    · rcases keyIs_shape hb with ⟨j, u, rfl, e⟩ | ⟨y, u, rfl, e⟩
      · injection e with e1 _; rw [e1]
      · exact nomatch e
    · rcases keyIs_shape hb with ⟨j, u, rfl, e⟩ | ⟨y, u, rfl, e⟩
      · exact nomatch e
      · injection e with e1 _; rw [e1]
  byValue := fun k v h => by
    rcases keyIs_shape h with ⟨i, t, rfl, rfl⟩ | ⟨x, t, rfl, rfl⟩ <;> rfl
  pyHash := fun hv h => by
    rcases keyIs_shape hv with ⟨i, t, rfl, rfl⟩ | ⟨x, t, rfl, rfl⟩
    · exact wpAny_pyHash_int h
    · exact wpAny_pyHash_str h
  eqBool := fun hu hv h => by
    rcases keyIs_shape hu with ⟨i, t, rfl, rfl⟩ | ⟨x, t, rfl, rfl⟩
    · rcases keyIs_shape hv with ⟨j, u, rfl, rfl⟩ | ⟨y, u, rfl, rfl⟩
      · rw [key_ll] at h; exact wpAny_eqBool_int h
      · rw [key_lr] at h; exact SeqAt.EqAt.int_str i t y u _ _ _ _ h
    · rcases keyIs_shape hv with ⟨j, u, rfl, rfl⟩ | ⟨y, u, rfl, rfl⟩
      · rw [key_rl] at h; exact SeqAt.EqAt.str_int x t j u _ _ _ _ h
      · rw [key_rr] at h; exact wpAny_eqBool_str h
  «strs» := fun k x t v h => by
    rcases keyIs_shape h with ⟨i, u, rfl, e⟩ | ⟨y, u, rfl, e⟩
    · exact nomatch e
    · injection e with e1 _
      subst e1
      cases v <;> rfl

theorem mixKind_is (prog : Program) (w : World) (k : Key) (v : Value) : (mixKind prog w).is k v = keyIs k v := rfl
theorem mixKind_int (prog : Program) (w : World) (i : Int) (t : Tok) : (mixKind prog w).is (.inl i) (.int i t) = true := keyIs_int i t
theorem mixKind_str (prog : Program) (w : World) (x : Str) (t : Tok) : (mixKind prog w).is (.inr x) (.str x t) = true := keyIs_str x t
end L2

namespace L2
open PySem PySem.Spec PyProof.Rows

/-- a value, without the heap -/
inductive V where
  | non | bl (b : Bool) | int (i : Int) | str (x : Str) | byt (b : Array UInt8) | flt (b : UInt64) | ref (a : Addr) | ty (n : String)
  deriving DecidableEq

def RelV : V → Value → Prop
  | .non, u => u = Value.none
  | .bl b, u => u = Value.bool b
  | .int i, u => ∃ t, u = Value.int i t
  | .str x, u => ∃ t, u = Value.str x t
  | .byt b, u => ∃ t, u = Value.bytes b t
  | .flt b, u => ∃ t, u = Value.float b t
  | .ref a, u => u = Value.ref a
  | .ty n, u => u = Value.type n

abbrev Vals : List V → List Value → Prop := Paired RelV
theorem Vals.length {xs : List V} {us : List Value} (r : Vals xs us) : xs.length = us.length := Paired.length r
theorem Vals.get : ∀ {xs : List V} {us : List Value} {i : Nat} {x : V}, Vals xs us → xs[i]? = some x → ∃ u, us[i]? = some u ∧ RelV x u
  | _, _, _, _, .nil, e => by simp at e
  | _, _, 0, _, .cons r _, e => by simp at e; subst e; exact ⟨_, rfl, r⟩
  | _, _, i + 1, x, .cons _ t, e => by
    obtain ⟨u, h1, h2⟩ := Vals.get (i := i) (x := x) t (by simpa using e)
    exact ⟨u, by simpa using h1, h2⟩
theorem Vals.set {x : V} {u : Value} (r : RelV x u) : ∀ {xs : List V} {us : List Value} (i : Nat), Vals xs us → Vals (xs.set i x) (us.set i u)
  | _, _, _, .nil => .nil
  | _, _, 0, .cons _ t => .cons r t
  | _, _, i + 1, .cons q t => .cons q (Vals.set r i t)
theorem Vals.append : ∀ {xs ys : List V} {us ws : List Value}, Vals xs us → Vals ys ws → Vals (xs ++ ys) (us ++ ws)
  | _, _, _, _, .nil, s => s
  | _, _, _, _, .cons r t, s => .cons r (Vals.append t s)
theorem Vals.take : ∀ {xs : List V} {us : List Value} (n : Nat), Vals xs us → Vals (xs.take n) (us.take n)
  | _, _, 0, _ => .nil
  | _, _, _ + 1, .nil => .nil
  | _, _, n + 1, .cons r t => .cons r (Vals.take n t)
theorem Vals.drop : ∀ {xs : List V} {us : List Value} (n : Nat), Vals xs us → Vals (xs.drop n) (us.drop n)
  | _, _, 0, r => r
  | _, _, _ + 1, .nil => .nil
  | _, _, n + 1, .cons _ t => Vals.drop n t
theorem Vals.none_of : ∀ {xs : List V} {us : List Value} {i : Nat}, Vals xs us → xs[i]? = none → us[i]? = none := fun {xs us i} r e => by
  have h1 := r.length
  have h2 : xs.length ≤ i := List.getElem?_eq_none_iff.mp e
  exact List.getElem?_eq_none_iff.mpr (by omega)

def RelO : Option V → Option Value → Prop
  | some v, some u => RelV v u
  | none, none => True
  | _, _ => False
def KV {κ : Type} : List (κ × V) → List (κ × Value) → Prop := Paired fun (p : κ × V) (q : κ × Value) => p.1 = q.1 ∧ RelV p.2 q.2

/-- a key of a dict (00_mix): an int or a text -/
def kV : Key → V
  | .inl i => .int i
  | .inr x => .str x

/-- what stands at a tracked address -/
inductive HO where
  /-- a list -/
  | lst (xs : List V)
  /-- a tuple (never changes) -/
  | tup (xs : List V)
  /-- a dict whose keys are ints and texts; one whose keys are tuples of ints and texts (the empty one is both) -/
  | dK (kvs : List (Key × V)) | dT (kvs : List (List Key × V))
  /-- a set of ints: its members, its size -/
  | set (S : Int → Bool) (n : Nat)
  /-- an instance of the class at C, its dict at dx, its attributes -/
  | ins (C dx : Addr) (fs : List (Str × V))
  /-- the dict of the instance at x -/
  | own (x : Addr)
  /-- the dict of an exception -/
  | xd (fs : List (Str × V))
  /-- a bound method, f of x -/
  | met (f x : Addr)
  /-- a range object lo, lo + 1, .. below hi -/
  | rng (lo hi : Int)
  /-- a thing that is known to the object (the script; a dict while a loop walks it): read, never written while it is so -/
  | frz (o : Obj) (u : HO)
  /-- a code object's table -/
  | tbl (ps : Array Value)
  /-- any other thing, by what is true of its one object (a def of one's own: SetO a S n := HO.ext fun h => ..) -/
  | ext (φ : Heap → Prop)

abbrev Hp := Addr → Option HO
def upd (H : Hp) (a : Addr) (o : HO) : Hp := fun b => if b = a then some o else H b
theorem upd_same {H : Hp} {a : Addr} {o : HO} : upd H a o a = some o := by unfold upd; rw [if_pos rfl]
theorem upd_ne {H : Hp} {a b : Addr} {o : HO} (h : b ≠ a) : upd H a o b = H b := by unfold upd; rw [if_neg h]
theorem upd_upd {H : Hp} {a : Addr} {o u : HO} : upd (upd H a o) a u = upd H a u := by
  funext b; unfold upd; split <;> rfl
/-- two objects of different content stand apart -/
theorem ne_of {H : Hp} {a b : Addr} {o u : HO} (h : H a = some o) (h' : H b = some u) (d : o ≠ u) : a ≠ b := by
  intro e; subst e; rw [h] at h'; exact d (Option.some.inj h')
theorem ne_of_none {H : Hp} {a b : Addr} {o : HO} (h : H a = some o) (h' : H b = none) : a ≠ b := by
  intro e; subst e; rw [h] at h'; cases h'

section
variable (P : Program) (w : World)
def ObjOk (H : Hp) (h : Heap) (a : Addr) : HO → Prop
  | .lst xs => xs.length ≤ sizeLine ∧ ∃ (its : List Value) (n : Nat), Vals xs its ∧ h.get? a = some { cls := .type "list", data := .seq its.toArray n }
  | .tup xs => xs.length ≤ sizeLine ∧ ∃ its : List Value, Vals xs its ∧ IsTup h a its.toArray
  | .dK kvs => kvs.length ≤ sizeLine ∧ (a == sysModules) = false ∧ ∃ vs, KV kvs vs ∧ h.DictOf (mixKind P w) a vs
  | .dT kvs => kvs.length ≤ sizeLine ∧ (a == sysModules) = false ∧ ∃ xs : List (List Key × Addr × Value),
      Paired (fun (p : List Key × V) (q : List Key × Addr × Value) => p.1 = q.1 ∧ H q.2.1 = some (.tup (p.1.map kV)) ∧ RelV p.2 q.2.2) kvs xs ∧
      ∃ o es ep, h.get? a = some o ∧ o.ExactDict ∧ o.data = .dict es ep ∧ es.toList = xs.map (entryOfKey (tupleKind (mixKind P w))) ∧ (xs.map (·.1)).Nodup
  | .set S n => h.SetOf (intKind P w) a S n
  | .ins C dx fs => H dx = some (.own a) ∧ fs.length ≤ 1000 ∧ dx ≠ a ∧ h.get? a = some (PySem.W.instObj C dx) ∧
      ∃ mA, h.Ns1 dx mA ∧ (∀ f, RelO (fs.lookup f) (mA f)) ∧ PySem.Within mA (fs.map (·.1))
  | .own _ => ∃ o, h.get? a = some o
  | .xd fs => ∃ mA, h.Ns1 a mA ∧ ∀ f, RelO (fs.lookup f) (mA f)
  | .rng lo hi => ∃ t u v, h.get? a = some { cls := .type "range", data := .fields #[.int lo t, .int hi u, .int 1 v] }
  | .frz o u => h.get? a = some o ∧ ObjOk H h a u
  | .tbl ps => h.get? a = some { cls := .none, data := .fields ps }
  | .met f x => h.get? a = some (PySem.W.methodObj (.ref f) (.ref x))
  | .ext φ => φ h ∧ (∃ o, h.get? a = some o) ∧ ∀ h1 h2 : Heap, φ h1 → (∀ o, h1.get? a = some o → h2.get? a = some o) → φ h2
/-- the abstract heap is held -/
def HOk (H : Hp) (h : Heap) : Prop := ∀ a o, H a = some o → ObjOk P w H h a o
end

section
variable {P : Program} {w : World} {H H' : Hp} {h h' : Heap} {a : Addr} {o : HO}
theorem ObjOk.lt (x : ObjOk P w H h a o) : a < h.objs.size := by
  cases o with
  | lst xs => obtain ⟨_, _, _, _, e⟩ := x; exact Heap.lt_size e
  | tup xs => obtain ⟨_, _, _, p⟩ := x; exact p.lt
  | dK kvs => obtain ⟨_, _, _, _, o, _, _, e, _⟩ := x; exact Heap.lt_size e
  | dT kvs => obtain ⟨_, _, _, _, o, _, _, e, _⟩ := x; exact Heap.lt_size e
  | set S n => obtain ⟨o, _, _, _, e, _⟩ := x; exact Heap.lt_size e
  | ins C dx fs => obtain ⟨_, _, _, e, _⟩ := x; exact Heap.lt_size e
  | own y => obtain ⟨_, e⟩ := x; exact Heap.lt_size e
  | xd fs => obtain ⟨_, ⟨_, _, _, e, _⟩, _⟩ := x; exact Heap.lt_size e
  | rng lo hi => obtain ⟨_, _, _, e⟩ := x; exact Heap.lt_size e
  | frz ob u => obtain ⟨e, _⟩ := x; exact Heap.lt_size e
  | tbl ps => exact Heap.lt_size (show h.get? a = some _ from x)
  | met f y => exact Heap.lt_size (show h.get? a = some _ from x)
  | ext φ => obtain ⟨_, ⟨_, e⟩, _⟩ := x; exact Heap.lt_size e
theorem Paired.mapP {α β : Type} {F G : α → β → Prop} : ∀ {l₁ : List α} {l₂ : List β}, Paired F l₁ l₂ → (∀ a b, F a b → G a b) → Paired G l₁ l₂
  | _, _, .nil, _ => .nil
  | _, _, .cons r t, f => .cons (f _ _ r) (Paired.mapP t f)
theorem Paired.imp' {α β : Type} {F G : α → β → Prop} (f : ∀ a b, F a b → G a b) {l₁ : List α} {l₂ : List β} (r : Paired F l₁ l₂) : Paired G l₁ l₂ := Paired.mapP r f
/-- what an object's description leans on: its own object, its own dict, the tuples -/
theorem ObjOk.stay (x : ObjOk P w H h a o) (k : ∀ b u, (b = a ∨ H b = some (.own a)) → h.get? b = some u → h'.get? b = some u)
    (ho : ∀ b, H b = some (.own a) → H' b = some (.own a)) (ht : ∀ b xs, H b = some (.tup xs) → H' b = some (.tup xs)) : ObjOk P w H' h' a o := by
  induction o with
  | lst xs => obtain ⟨z, its, n, r, e⟩ := x; exact ⟨z, its, n, r, k _ _ (.inl rfl) e⟩
  | tup xs => obtain ⟨z, its, r, ob, e, c⟩ := x; exact ⟨z, its, r, ob, k _ _ (.inl rfl) e, c⟩
  | dK kvs => obtain ⟨z, y, vs, r, ob, es, ep, e, c⟩ := x; exact ⟨z, y, vs, r, ob, es, ep, k _ _ (.inl rfl) e, c⟩
  | dT kvs =>
    obtain ⟨z, y, xs, r, ob, es, ep, e, c⟩ := x
    exact ⟨z, y, xs, Paired.mapP r fun p q z => ⟨z.1, ht _ _ z.2.1, z.2.2⟩, ob, es, ep, k _ _ (.inl rfl) e, c⟩
  | set S n => obtain ⟨ob, es, ep, t, e, c⟩ := x; exact ⟨ob, es, ep, t, k _ _ (.inl rfl) e, c⟩
  | ins C dx fs =>
    obtain ⟨d, z, ne, e, mA, ⟨od, es, ep, e2, c⟩, r⟩ := x
    exact ⟨ho _ d, z, ne, k _ _ (.inl rfl) e, mA, ⟨od, es, ep, k _ _ (.inr d) e2, c⟩, r⟩
  | own y => obtain ⟨ob, e⟩ := x; exact ⟨ob, k _ _ (.inl rfl) e⟩
  | xd fs => obtain ⟨mA, ⟨od, es, ep, e, c⟩, r⟩ := x; exact ⟨mA, ⟨od, es, ep, k _ _ (.inl rfl) e, c⟩, r⟩
  | rng lo hi => obtain ⟨t, u, v, e⟩ := x; exact ⟨t, u, v, k _ _ (.inl rfl) e⟩
  | frz ob u ih => obtain ⟨e, q⟩ := x; exact ⟨k _ _ (.inl rfl) e, ih q⟩
  | tbl ps =>
    have e : h.get? a = some { cls := .none, data := .fields ps } := x
    show h'.get? a = some { cls := .none, data := .fields ps }
    exact k a _ (.inl rfl) e
  | met f y =>
    have e : h.get? a = some (PySem.W.methodObj (.ref f) (.ref y)) := x
    show h'.get? a = some (PySem.W.methodObj (.ref f) (.ref y))
    exact k a _ (.inl rfl) e
  | ext φ => obtain ⟨p, ⟨o, e⟩, st⟩ := x; exact ⟨st _ _ p fun o q => k _ _ (.inl rfl) q, ⟨o, k _ _ (.inl rfl) e⟩, st⟩
theorem HOk.lt (x : HOk P w H h) (e : H a = some o) : a < h.objs.size := (x a o e).lt
theorem HOk.fresh (x : HOk P w H h) (e : h.objs.size ≤ a) : H a = none := by
  cases q : H a with
  | none => rfl
  | some u => exact absurd (Nat.lt_of_lt_of_le (x.lt q) e) (Nat.lt_irrefl _)
/-- every object of the heap is kept -/
theorem HOk.kept (x : HOk P w H h) (k : ∀ b u, h.get? b = some u → h'.get? b = some u) : HOk P w H h' := fun a o e =>
  (x a o e).stay (fun b u _ q => k b u q) (fun _ q => q) fun _ _ q => q
/-- a new object is laid and tracked -/
theorem HOk.laid (x : HOk P w H h) (k : ∀ b u, h.get? b = some u → h'.get? b = some u) (hp : h.objs.size ≤ a) (new : ObjOk P w (upd H a o) h' a o) : HOk P w (upd H a o) h' := fun b u e => by
  have hn := x.fresh hp
  by_cases hb : b = a
  · subst hb; rw [upd_same] at e; cases e; exact new
  · rw [upd_ne hb] at e
    exact (x b u e).stay (fun c v _ q => k c v q) (fun c q => by rw [upd_ne (ne_of_none q hn)]; exact q) fun c xs q => by rw [upd_ne (ne_of_none q hn)]; exact q
end

/-- what may be read as u: it is u, or a known u -/
def Rd (H : Hp) (a : Addr) (u : HO) : Prop := H a = some u ∨ ∃ o, H a = some (.frz o u)
theorem Rd.of {H : Hp} {a : Addr} {u : HO} (h : H a = some u) : Rd H a u := .inl h
theorem Rd.ok {P : Program} {w : World} {H : Hp} {h : Heap} {a : Addr} {u : HO} (r : Rd H a u) (x : HOk P w H h) : ObjOk P w H h a u := by
  rcases r with r | ⟨o, r⟩
  · exact x a u r
  · obtain ⟨_, q⟩ := x a _ r
    exact q
/-- what may be written -/
def Mut : Option HO → Prop
  | some (.lst _) => True
  | some (.dK _) => True
  | some (.dT _) => True
  | some (.set _ _) => True
  | some (.ins _ _ _) => True
  | some (.ext _) => True
  | _ => False
section
variable {P : Program} {w : World} {H : Hp} {h h' : Heap} {x e : Addr} {o' : HO}
/-- the object at e is changed: x itself, or the dict of the instance x -/
theorem HOk.write (ok : HOk P w H h) (mu : Mut (H x)) (he : e = x ∨ H e = some (.own x)) (k : ∀ b u, b ≠ e → h.get? b = some u → h'.get? b = some u) (heo : ∃ u, h'.get? e = some u)
    (new : ObjOk P w (upd H x o') h' x o') : HOk P w (upd H x o') h' := fun b u q => by
  have nown : ∀ c y, H c = some (.own y) → c ≠ x := fun c y r z => by subst z; rw [r] at mu; exact mu
  have ntup : ∀ c xs, H c = some (.tup xs) → c ≠ x := fun c xs r z => by subst z; rw [r] at mu; exact mu
  by_cases hb : b = x
  · subst hb; rw [upd_same] at q; cases q; exact new
  · rw [upd_ne hb] at q
    by_cases hbe : b = e
    · have q' : H b = some (.own x) := by
        rcases he with z | z
        · exact absurd (hbe.trans z) hb
        · rw [hbe]; exact z
      rw [q] at q'; cases q'
      obtain ⟨v, hv⟩ := heo
      exact ⟨v, by rw [hbe]; exact hv⟩
    · refine (ok b u q).stay (fun c v hc r => k c v ?_ r) (fun c r => by rw [upd_ne (nown c b r)]; exact r) fun c xs r => by rw [upd_ne (ntup c xs r)]; exact r
      rcases hc with rfl | hc
      · exact hbe
      · rintro rfl
        rcases he with z | z
        · exact nown c b hc z
        · rw [hc] at z; cases z; exact hb rfl
end

/-! ### kept unless tracked; of the frames at fs (the callers') the slots may change (an exception that passes writes there); of the records at ex (iterators) nothing is said -/
structure Un (fs ex : List Addr) (H H' : Hp) (h h' : Heap) : Prop where
  keep : ∀ b o, h.get? b = some o → H b = none → b ∉ fs → b ∉ ex → h'.get? b = some o
  slot : ∀ b o, h.get? b = some o → H b = none → b ∈ fs → b ∉ ex → ∃ sl, h'.get? b = some { o with slots := sl }
  free : ∀ b o, h.get? b = some o → H b = none → b ∉ ex → H' b = none
  there : ∀ b o, h.get? b = some o → b ∉ ex → ∃ o', h'.get? b = some o'
  tups : ∀ b xs, H b = some (.tup xs) → H' b = some (.tup xs)
  frzs : ∀ b o u, H b = some (.frz o u) → H' b = some (.frz o u)
  tbls : ∀ b ps, H b = some (.tbl ps) → ∃ more, H' b = some (.tbl (ps ++ more))
section
variable {fs fs' ex ex' : List Addr} {H H1 H2 : Hp} {h h1 h2 h' : Heap} {a x e : Addr} {o : HO}
theorem Un.any (u : Un fs ex H H1 h h1) {b : Addr} {ob : Obj} (q : h.get? b = some ob) (n : H b = none) (hx : b ∉ ex) : ∃ sl, h1.get? b = some { ob with slots := sl } := by
  by_cases hb : b ∈ fs
  · exact u.slot b ob q n hb hx
  · exact ⟨ob.slots, u.keep b ob q n hb hx⟩
theorem Un.trans (a : Un fs ex H H1 h h1) (b : Un fs ex H1 H2 h1 h2) : Un fs ex H H2 h h2 where
  keep := fun c ob q n hc hx => b.keep c ob (a.keep c ob q n hc hx) (a.free c ob q n hx) hc hx
  slot := fun c ob q n hc hx => by
    obtain ⟨sl, e1⟩ := a.slot c ob q n hc hx
    obtain ⟨sl', e2⟩ := b.slot c _ e1 (a.free c ob q n hx) hc hx
    exact ⟨sl', e2⟩
  free := fun c ob q n hx => by
    obtain ⟨o', e1⟩ := a.there c ob q hx
    exact b.free c o' e1 (a.free c ob q n hx) hx
  there := fun c ob q hx => by
    obtain ⟨o', e1⟩ := a.there c ob q hx
    exact b.there c o' e1 hx
  tups := fun c xs q => b.tups c xs (a.tups c xs q)
  frzs := fun c ob xs q => b.frzs c ob xs (a.frzs c ob xs q)
  tbls := fun c ps q => by
    obtain ⟨m1, e1⟩ := a.tbls c ps q
    obtain ⟨m2, e2⟩ := b.tbls c _ e1
    exact ⟨m1 ++ m2, by rw [e2, Array.append_assoc]⟩
theorem Un.kept (k : ∀ b u, h.get? b = some u → h'.get? b = some u) : Un fs ex H H h h' :=
  ⟨fun b ob q _ _ _ => k b ob q, fun b ob q _ _ _ => ⟨ob.slots, k b ob q⟩, fun _ _ _ n _ => n, fun b ob q _ => ⟨ob, k b ob q⟩, fun _ _ q => q, fun _ _ _ q => q, fun _ ps q => ⟨#[], by rw [q]; simp⟩⟩
theorem Un.refl : Un fs ex H H h h := Un.kept fun _ _ q => q
theorem Un.laid (k : ∀ b u, h.get? b = some u → h'.get? b = some u) (hp : h.objs.size ≤ a) (hn : H a = none) : Un fs ex H (upd H a o) h h' where
  keep := fun b u q _ _ _ => k b u q
  slot := fun b u q _ _ _ => ⟨u.slots, k b u q⟩
  free := fun b u q n _ => by rw [upd_ne (Nat.ne_of_lt (Nat.lt_of_lt_of_le (Heap.lt_size q) hp))]; exact n
  there := fun b u q _ => ⟨u, k b u q⟩
  tups := fun b xs q => by rw [upd_ne (ne_of_none q hn)]; exact q
  frzs := fun b u xs q => by rw [upd_ne (ne_of_none q hn)]; exact q
  tbls := fun b ps q => ⟨#[], by rw [upd_ne (ne_of_none q hn), q]; simp⟩
theorem Un.write (mu : Mut (H x)) (he : e = x ∨ H e = some (.own x)) (k : ∀ b u, b ≠ e → h.get? b = some u → h'.get? b = some u) (heo : ∃ u, h'.get? e = some u) : Un fs ex H (upd H x o) h h' := by
  have hx : ∀ b, H b = none → b ≠ x := fun b n z => by subst z; rw [n] at mu; exact mu
  have hb : ∀ b, H b = none → b ≠ e := fun b n z => by
    subst z
    rcases he with r | r
    · exact hx b n r
    · rw [n] at r; cases r
  have hm : ∀ b u, H b = some u → ¬ Mut (some u) → b ≠ x := fun b u q nm z => by subst z; rw [q] at mu; exact nm mu
  refine ⟨fun b u q n _ _ => k b u (hb b n) q, fun b u q n _ _ => ⟨u.slots, k b u (hb b n) q⟩, fun b u q n _ => by rw [upd_ne (hx b n)]; exact n, fun b u q _ => ?_,
    fun b xs q => by rw [upd_ne (hm b _ q fun z => z)]; exact q, fun b u xs q => by rw [upd_ne (hm b _ q fun z => z)]; exact q, fun b ps q => ⟨#[], by rw [upd_ne (hm b _ q fun z => z), q]; simp⟩⟩
  by_cases hbe : b = e
  · subst hbe; exact heo
  · exact ⟨u, k b u hbe q⟩
theorem Un.mono (u : Un fs ex H H1 h h1) (hs : ∀ b ∈ fs, b ∈ fs') (hx : ∀ b ∈ ex, b ∈ ex') : Un fs' ex' H H1 h h1 :=
  ⟨fun b ob q n hb he => u.keep b ob q n (fun z => hb (hs b z)) fun z => he (hx b z), fun _ _ q n _ he => u.any q n fun z => he (hx _ z), fun b ob q n he => u.free b ob q n fun z => he (hx b z), fun b ob q he => u.there b ob q fun z => he (hx b z), u.tups, u.frzs, u.tbls⟩
end

/-! ### the heap without what is tracked -/
def trk (h : Heap) (H : Hp) : List Addr := (List.range h.objs.size).filter fun a => (H a).isSome
def hidT (h : Heap) (H : Hp) : Heap := PySem.W.hideAll h (trk h H)
theorem hidT_size (h : Heap) (H : Hp) : (hidT h H).objs.size = h.objs.size := PySem.W.hideAll_size _ _
theorem hidT_get {h : Heap} {H : Hp} {b : Addr} {o : Obj} (e : h.get? b = some o) (n : H b = none) : (hidT h H).get? b = some o :=
  PySem.W.hideAll_get _ e fun hm => by
    have q : (H b).isSome = true := (List.mem_filter.mp hm).2
    rw [n] at q; simp at q
theorem of_hidT {h : Heap} {H : Hp} {b : Addr} {o : Obj} (e : (hidT h H).get? b = some o) : h.get? b = some o ∧ H b = none := by
  have e' : h.get? b = some o := PySem.W.of_hideAll (trk h H) e
  refine ⟨e', ?_⟩
  cases q : H b with
  | none => rfl
  | some x =>
    have hm : b ∈ trk h H := List.mem_filter.mpr ⟨List.mem_range.mpr (Heap.lt_size e'), by simp [q]⟩
    have z : (hidT h H).get? b = none := PySem.W.hideAll_none (trk h H) hm
    rw [z] at e; cases e

/-! ### OpenK's ledger, filled with every new object but one -/
def allNews (g h : Heap) (L : Addr) : List (Addr × Obj) := (List.range h.objs.size).filterMap fun a => if a = L ∨ (g.get? a).isSome = true then none else (h.get? a).map fun o => (a, o)
theorem mem_allNews {g h : Heap} {L a : Addr} {o : Obj} (h1 : a ≠ L) (h2 : g.get? a = none) (h3 : h.get? a = some o) : (a, o) ∈ allNews g h L :=
  List.mem_filterMap.mpr ⟨a, List.mem_range.mpr (Heap.lt_size h3), by simp [h1, h2, h3]⟩
theorem of_mem_allNews {g h : Heap} {L : Addr} {p : Addr × Obj} (hp : p ∈ allNews g h L) : p.1 ≠ L ∧ g.get? p.1 = none ∧ h.get? p.1 = some p.2 := by
  obtain ⟨b, _, e⟩ := List.mem_filterMap.mp hp
  split at e
  · cases e
  · rename_i hn
    cases q : h.get? b with
    | none => rw [q] at e; simp at e
    | some u =>
      rw [q] at e
      simp only [Option.map_some, Option.some.injEq] at e
      subst e
      refine ⟨fun z => hn (.inl z), ?_, q⟩
      show g.get? b = none
      cases r : g.get? b with
      | none => rfl
      | some v => exact (hn (.inr (by simp [r]))).elim
def rest (g h : Heap) (L d : Addr) : List (Addr × Obj) := (allNews g h L).filter fun p => decide (p.1 ≠ d)
theorem rest_ne {g h : Heap} {L d : Addr} : ∀ p ∈ rest g h L d, p.1 ≠ d := fun p hp => of_decide_eq_true (List.mem_filter.mp hp).2
theorem mem_rest {g h : Heap} {L d a : Addr} {o : Obj} (h1 : a ≠ L) (h2 : g.get? a = none) (h3 : h.get? a = some o) (h4 : a ≠ d) : (a, o) ∈ rest g h L d :=
  List.mem_filter.mpr ⟨mem_allNews h1 h2 h3, decide_eq_true h4⟩
theorem news_all {g h : Heap} {L : Addr} : News g L h (allNews g h L) := fun p hp => let ⟨a, b, c⟩ := of_mem_allNews hp; ⟨c, a, b⟩
theorem news_at {g h : Heap} {L d : Addr} {o : Obj} (h1 : d ≠ L) (h2 : g.get? d = none) (h3 : h.get? d = some o) : News g L h ((d, o) :: rest g h L d) := fun p hp => by
  rcases List.mem_cons.mp hp with rfl | hp
  · exact ⟨h3, h1, h2⟩
  · exact news_all p (List.mem_filter.mp hp).1
/-- behind a rule that changed d alone: all else but the frame is kept -/
theorem kept_of_news {g h h' : Heap} {L d : Addr} {m : Str → Option Value} (k : ∀ b o, g.get? b = some o → h.get? b = some o) (F : Fr g L h' m) (N : News g L h' (rest g h L d)) :
    ∀ b o, b ≠ L → b ≠ d → h.get? b = some o → h'.get? b = some o := fun b o h1 h2 e => by
  cases q : g.get? b with
  | some u =>
    have := k b u q
    rw [e] at this; cases this
    exact F.keep b _ q
  | none => exact (N (b, o) (mem_rest h1 q e h2)).1
end L2

namespace L2
open PySem PySem.Spec PyProof.Rows

/-- the module's facts, over the base: the heap at the law's entry without what is tracked there -/
structure Mod (K : PySem.W.Frag) (mg : Str → Option Value) (base : Heap) : Prop where
  kin : K.In base
  glob : base.Ns mainGlobals mg
  blt : ∃ mb, base.Ns builtinsNs mb ∧ ∀ x : Str, x ≠ "__name__" → mb x = bootBuiltins x
  nolimit : base.NoLimit

/-- the context: a def's body (or a comprehension's block) running. base: fixed through the whole law; s₀, H₀: the entry; outer: the frames whose slots others may change (a def's callers); stack: all frames that run;
   ex: iterators that were made ahead of the entry and are walked here (a comprehension's); fn: the names whose cells were made at the entry (a def: all; a comprehension's block: its own); calm: not within an except suite; pn: pins that every state bears; xe: what is wanted of an exception that leaves the code -/
structure Cx where
  prog : Program
  w : World
  K : PySem.W.Frag
  mg : Str → Option Value
  base : Heap
  A : Around
  N : List Str
  s₀ : Shared
  H₀ : Hp
  env : Env
  outer : List Env
  stack : List Env
  ex : List Addr
  fn : Str → Bool
  calm : Bool
  pn : List (Addr × Obj)
  xe : Value → Shared → Prop
/-- the callers' frames -/
def frs (l : List Env) : List Addr := l.filterMap (·.frame)
abbrev Cx.fs (X : Cx) : List Addr := frs X.outer

def Vis (sc : Scope) (x : Str) : Prop := sc.names.lookup x = some .local ∨ sc.names.lookup x = some .cell ∨ sc.names.lookup x = some .free
def Loc (sc : Scope) (x : Str) : Prop := sc.names.lookup x = some .local ∨ sc.names.lookup x = some .cell
def Look (env : Env) (h : Heap) (m : Str → Option Value) (x : Str) (u : Value) : Prop :=
  (env.kindOf x = some .local ∧ m x = some u) ∨ ((env.kindOf x = some .cell ∨ env.kindOf x = some .free) ∧ ∃ c, env.cells.lookup x = some c ∧ h.IsCell c (some u))

structure Cx.Ok (X : Cx) : Prop where
  mod : Mod X.K X.mg X.base
  kind : X.env.scope.kind = .function
  glob : X.env.globals = mainGlobals
  blt : X.env.builtins = builtinsNs
  above : X.s₀.heap.objs.size ≤ X.env.locals
  inj : ∀ x y c, X.env.cells.lookup x = some c → X.env.cells.lookup y = some c → x = y
  has : ∀ x, (X.env.kindOf x = some .cell ∨ X.env.kindOf x = some .free) → ∃ c, X.env.cells.lookup x = some c
  cab : ∀ x c, X.fn x = true → X.env.cells.lookup x = some c → X.s₀.heap.objs.size ≤ c
  hd : X.calm = true → X.A.handled = none
  frames : X.A.frames = some X.stack
  stk : X.stack = X.outer ∨ (X.stack = X.env :: X.outer ∧ X.env.frame = some X.env.locals)
  exf : ∀ b ∈ X.ex, b ≠ X.env.locals ∧ ∀ x c, X.env.cells.lookup x = some c → c ≠ b
  bs : ∀ b o, X.base.get? b = some o → X.s₀.heap.get? b = some o ∧ X.H₀ b = none
  bsz : X.base.objs.size ≤ X.s₀.heap.objs.size
  noex : ∀ b o, X.base.get? b = some o → b ∉ X.ex
  exfs : ∀ b ∈ X.ex, b ∉ X.fs
  funs : X.s₀.heap.FunFrames X.base X.outer
  frf : ∀ b ∈ X.fs, X.H₀ b = none

structure Inv (X : Cx) (pins : List (Addr × Obj)) (σ : List (Option V)) (H : Hp) (s : Shared) : Prop where
  ok : X.Ok
  os : s.os = X.s₀.os
  bare : AllBare s.gens
  base : Un X.fs X.ex X.H₀ H X.s₀.heap s.heap
  loc : ∃ m, s.heap.Ns X.env.locals m ∧ ∀ (i : Nat) (x : Str) (v : V), X.N[i]? = some x → σ[i]? = some (some v) → Vis X.env.scope x → ∃ u, RelV v u ∧ Look X.env s.heap m x u
  cell : ∀ x c, X.env.cells.lookup x = some c → ∃ v, s.heap.IsCell c v
  free : H X.env.locals = none
  freeC : ∀ x c, X.env.cells.lookup x = some c → H c = none
  pin : ∀ p ∈ X.pn ++ pins, s.heap.get? p.1 = some p.2 ∧ H p.1 = none ∧ p.1 ≠ X.env.locals ∧ p.1 ∉ X.fs ∧ ∀ v, p.2.data ≠ .cell v
  hok : HOk X.prog X.w H s.heap
  len : σ.length = X.N.length

section
variable {X : Cx} {pins : List (Addr × Obj)} {σ : List (Option V)} {H H' : Hp} {s : Shared} {h' : Heap}

theorem Cx.Ok.nofr (ok : X.Ok) {b : Addr} {o : Obj} (e : X.base.get? b = some o) : b ∉ X.fs := fun hb => by
  have := (ok.funs.mem hb).1
  rw [e] at this; cases this
theorem Inv.bs (I : Inv X pins σ H s) : ∀ b o, X.base.get? b = some o → s.heap.get? b = some o ∧ H b = none := fun b o e =>
  ⟨I.base.keep b o (I.ok.bs b o e).1 (I.ok.bs b o e).2 (I.ok.nofr e) (I.ok.noex b o e), I.base.free b o (I.ok.bs b o e).1 (I.ok.bs b o e).2 (I.ok.noex b o e)⟩
theorem Inv.bk (I : Inv X pins σ H s) : ∀ b o, X.base.get? b = some o → s.heap.get? b = some o := fun b o e => (I.bs b o e).1
theorem Inv.mod (I : Inv X pins σ H s) : Mod X.K X.mg X.base := I.ok.mod
theorem Inv.kIn (I : Inv X pins σ H s) : X.K.In s.heap := I.ok.mod.kin.keeps I.bk
theorem Inv.nolimit (I : Inv X pins σ H s) : s.heap.NoLimit := I.ok.mod.nolimit.keeps I.bk
/-- the frame over the base: for OpenK's rules (K.In X.base is I.mod.kin) -/
theorem Inv.fr (I : Inv X pins σ H s) : ∃ m, Fr X.base X.env.locals s.heap m :=
  let ⟨m, hn, _⟩ := I.loc
  ⟨m, hn, I.bk, Nat.le_trans I.ok.bsz I.ok.above⟩
theorem Inv.lt (I : Inv X pins σ H s) : X.env.locals < s.heap.objs.size := let ⟨_, hn, _⟩ := I.loc; hn.lt
theorem Inv.sz (I : Inv X pins σ H s) : X.s₀.heap.objs.size ≤ s.heap.objs.size := Nat.le_trans I.ok.above (Nat.le_of_lt I.lt)
theorem Inv.nofs (I : Inv X pins σ H s) {a : Addr} (h : s.heap.objs.size ≤ a) : a ∉ X.fs := fun hb => by
  obtain ⟨_, o, ho, _⟩ := I.ok.funs.mem hb
  exact absurd (Nat.lt_of_lt_of_le (Heap.lt_size ho) (Nat.le_trans I.sz h)) (Nat.lt_irrefl _)
theorem Inv.cne (I : Inv X pins σ H s) : ∀ x c, X.env.cells.lookup x = some c → c ≠ X.env.locals := fun x c e z => by
  obtain ⟨v, o, ho, hd⟩ := I.cell x c e
  obtain ⟨m, ⟨o', es, ep, ho', hd', _⟩, _⟩ := I.loc
  rw [z, ho'] at ho; cases ho; rw [hd'] at hd; cases hd
theorem Inv.funs (I : Inv X pins σ H s) : s.heap.FunFrames X.base X.outer := by
  have all : ∀ (l : List Env), (∀ b ∈ frs l, b ∈ X.fs) → X.s₀.heap.FunFrames X.base l → s.heap.FunFrames X.base l := by
    intro l
    induction l with
    | nil => intro _ _; trivial
    | cons env r ih =>
      intro hs hl
      obtain ⟨hk, ⟨L, o, hf, hn, ho, hd⟩, hr⟩ := hl
      have hL : L ∈ X.fs := hs L (by unfold frs; rw [List.filterMap_cons, hf]; exact List.mem_cons_self)
      obtain ⟨sl, e⟩ := I.base.slot L o ho (I.ok.frf L hL) hL fun z => I.ok.exfs L z hL
      exact ⟨hk, ⟨L, _, hf, hn, e, hd⟩, ih (fun b hb => hs b (by unfold frs; rw [List.filterMap_cons, hf]; exact List.mem_cons_of_mem _ hb)) hr⟩
  exact all X.outer (fun _ hb => hb) I.ok.funs

/-- the frames that run, for a call -/
theorem Inv.stack (I : Inv X pins σ H s) : s.heap.FunFrames X.base X.stack := by
  rcases I.ok.stk with e | ⟨e, hf⟩
  · rw [e]; exact I.funs
  · rw [e]
    obtain ⟨m, hn, _⟩ := I.loc
    refine .cons (by rw [I.ok.kind]; decide) hf hn ?_ I.funs
    exact Heap.get?_none_of_le (Nat.le_trans I.ok.bsz I.ok.above)
theorem Inv.stkSub (I : Inv X pins σ H s) : ∀ b ∈ frs X.stack, b ∈ X.env.locals :: X.fs := fun b hb => by
  rcases I.ok.stk with e | ⟨e, hf⟩
  · rw [e] at hb; exact List.mem_cons_of_mem _ hb
  · rw [e] at hb
    unfold frs at hb
    rw [List.filterMap_cons, hf] at hb
    exact hb
theorem Inv.stkFree (I : Inv X pins σ H s) : ∀ b ∈ frs X.stack, H b = none := fun b hb => by
  rcases List.mem_cons.mp (I.stkSub b hb) with e | hb
  · rw [e]; exact I.free
  · obtain ⟨_, o, ho, _⟩ := I.ok.funs.mem hb
    exact I.base.free b o ho (I.ok.frf b hb) fun z => I.ok.exfs b z hb

/-- THE STEP: the untracked objects but the frame and the records at ch are kept (the callers' frames up to slots), the frame's map is kept, the new abstract heap is held -/
theorem Inv.step {g' : Array GenState} {t' : Nat} {d' : Drawn} {ch : List Addr} (I : Inv X pins σ H s)
    (hch : ∀ b ∈ ch, (b ∈ X.ex ∨ X.s₀.heap.objs.size ≤ b) ∧ b ≠ X.env.locals ∧ (∀ x c, X.env.cells.lookup x = some c → c ≠ b) ∧ ∀ p ∈ X.pn ++ pins, p.1 ≠ b)
    (keep : ∀ b o, b ≠ X.env.locals → b ∉ X.fs → b ∉ ch → s.heap.get? b = some o → H b = none → h'.get? b = some o)
    (slot : ∀ b o, b ≠ X.env.locals → b ∈ X.fs → b ∉ ch → s.heap.get? b = some o → H b = none → ∃ sl, h'.get? b = some { o with slots := sl }) (free : ∀ b o, b ∉ ch → s.heap.get? b = some o → H b = none → H' b = none)
    (there : ∀ b o, b ∉ ch → s.heap.get? b = some o → ∃ o', h'.get? b = some o')
    (tups : ∀ b xs, H b = some (.tup xs) → H' b = some (.tup xs)) (frzs : ∀ b o u, H b = some (.frz o u) → H' b = some (.frz o u)) (tbls : ∀ b ps, H b = some (.tbl ps) → ∃ more, H' b = some (.tbl (ps ++ more)))
    (ns : ∀ m, s.heap.Ns X.env.locals m → h'.Ns X.env.locals m) (hok : HOk X.prog X.w H' h') (hg : AllBare g') :
    Inv X pins σ H' { s with heap := h', gens := g', drawn := d', toks := t' } := by
  have neL : ∀ b o, X.s₀.heap.get? b = some o → b ≠ X.env.locals := fun b o e => Nat.ne_of_lt (Nat.lt_of_lt_of_le (Heap.lt_size e) I.ok.above)
  have neC : ∀ b o, X.s₀.heap.get? b = some o → b ∉ X.ex → b ∉ ch := fun b o e hx hb => by
    rcases (hch b hb).1 with z | z
    · exact hx z
    · exact absurd (Nat.lt_of_lt_of_le (Heap.lt_size e) z) (Nat.lt_irrefl _)
  have cellK : ∀ x c, X.env.cells.lookup x = some c → ∀ v, s.heap.IsCell c v → h'.IsCell c v := fun x c e v ⟨o, ho, hd⟩ => by
    have nch : c ∉ ch := fun z => (hch c z).2.2.1 x c e rfl
    by_cases hc : c ∈ X.fs
    · obtain ⟨sl, q⟩ := slot c o (I.cne x c e) hc nch ho (I.freeC x c e)
      exact ⟨_, q, hd⟩
    · exact ⟨o, keep c o (I.cne x c e) hc nch ho (I.freeC x c e), hd⟩
  refine ⟨I.ok, I.os, hg, ⟨fun b o e n hb hx => ?_, fun b o e n hb hx => ?_, fun b o e n hx => ?_, fun b o e hx => ?_, fun b xs e => tups b xs (I.base.tups b xs e), fun b o xs e => frzs b o xs (I.base.frzs b o xs e), fun b ps e => ?_⟩, ?_, fun x c e => ?_, ?_, fun x c e => ?_, fun p hp => ?_, hok, I.len⟩
  · exact keep b o (neL b o e) hb (neC b o e hx) (I.base.keep b o e n hb hx) (I.base.free b o e n hx)
  · obtain ⟨sl, e1⟩ := I.base.slot b o e n hb hx
    obtain ⟨sl', e2⟩ := slot b _ (neL b o e) hb (neC b o e hx) e1 (I.base.free b o e n hx)
    exact ⟨sl', e2⟩
  · obtain ⟨o', e1⟩ := I.base.there b o e hx
    exact free b o' (neC b o e hx) e1 (I.base.free b o e n hx)
  · obtain ⟨o', e1⟩ := I.base.there b o e hx
    exact there b o' (neC b o e hx) e1
  · obtain ⟨m1, e1⟩ := I.base.tbls b ps e
    obtain ⟨m2, e2⟩ := tbls b _ e1
    exact ⟨m1 ++ m2, by rw [e2, Array.append_assoc]⟩
  · obtain ⟨m, hn, hl⟩ := I.loc
    refine ⟨m, ns m hn, fun i x v e1 e2 e3 => ?_⟩
    obtain ⟨u, r, l⟩ := hl i x v e1 e2 e3
    refine ⟨u, r, ?_⟩
    rcases l with l | ⟨k, c, e, z⟩
    · exact .inl l
    · exact .inr ⟨k, c, e, cellK x c e _ z⟩
  · obtain ⟨v, z⟩ := I.cell x c e
    exact ⟨v, cellK x c e v z⟩
  · obtain ⟨m, ⟨o, _, _, ho, _⟩, _⟩ := I.loc
    exact free _ o (fun z => (hch _ z).2.1 rfl) ho I.free
  · obtain ⟨v, o, ho, hd⟩ := I.cell x c e
    exact free c o (fun z => (hch c z).2.2.1 x c e rfl) ho (I.freeC x c e)
  · obtain ⟨e, n, ne, nf, d⟩ := I.pin p hp
    have nch : p.1 ∉ ch := fun z => (hch p.1 z).2.2.2 p hp rfl
    exact ⟨keep p.1 p.2 ne nf nch e n, free p.1 p.2 nch e n, ne, nf, d⟩
/-- .. where the frame's own object is kept too -/
theorem Inv.un {t' : Nat} (I : Inv X pins σ H s) (u : Un X.fs [] H H' s.heap h') (hok : HOk X.prog X.w H' h') : Inv X pins σ H' { s with heap := h', toks := t' } := by
  obtain ⟨m, ⟨o, es, ep, ho, r⟩, _⟩ := id I.loc
  obtain ⟨sl, hL⟩ := u.any ho I.free (by simp)
  exact I.step (g' := s.gens) (d' := s.drawn) (ch := []) (fun _ z => nomatch z) (fun b o _ hb _ e n => u.keep b o e n hb (by simp)) (fun b o _ hb _ e n => u.slot b o e n hb (by simp)) (fun b o _ e n => u.free b o e n (by simp)) (fun b o _ e => u.there b o e (by simp)) u.tups u.frzs u.tbls (fun m' hm => by
    obtain ⟨o', es', ep', ho', r'⟩ := hm
    rw [ho] at ho'; cases ho'
    exact ⟨_, es', ep', hL, r'⟩) hok I.bare
/-- behind a call (or a comprehension's block): the slots of this frame may have changed too, the records at ch may have turned -/
theorem Inv.call {g' : Array GenState} {t' : Nat} {d' : Drawn} {ch : List Addr} (I : Inv X pins σ H s) (u : Un (frs X.stack) ch H H' s.heap h') (hok : HOk X.prog X.w H' h') (hg : AllBare g')
    (hch : ∀ b ∈ ch, (b ∈ X.ex ∨ X.s₀.heap.objs.size ≤ b) ∧ b ≠ X.env.locals ∧ (∀ x c, X.env.cells.lookup x = some c → c ≠ b) ∧ ∀ p ∈ X.pn ++ pins, p.1 ≠ b) :
    Inv X pins σ H' { s with heap := h', gens := g', drawn := d', toks := t' } := by
  obtain ⟨m, ⟨o, es, ep, ho, r⟩, _⟩ := id I.loc
  obtain ⟨sl, hL⟩ := u.any ho I.free fun z => (hch _ z).2.1 rfl
  exact I.step (ch := ch) hch (fun b o hL hb hc e n => u.keep b o e n (fun z => (List.mem_cons.mp (I.stkSub b z)).elim hL hb) hc) (fun b o _ _ hc e n => u.any e n hc) (fun b o hc e n => u.free b o e n hc) (fun b o hc e => u.there b o e hc) u.tups u.frzs u.tbls (fun m' hm => by
    obtain ⟨o', es', ep', ho', r'⟩ := hm
    rw [ho] at ho'; cases ho'
    exact ⟨_, es', ep', hL, r'⟩) hok hg
/-- an untracked record of ours (an iterator) has turned -/
theorem Inv.turned {t' : Nat} {it : Addr} (I : Inv X pins σ H s) (k : ∀ b o, b ≠ it → s.heap.get? b = some o → h'.get? b = some o) (hn : H it = none) (hL : it ≠ X.env.locals)
    (h1 : it ∈ X.ex ∨ X.s₀.heap.objs.size ≤ it) (h2 : ∀ x c, X.env.cells.lookup x = some c → c ≠ it) (h3 : ∀ p ∈ X.pn ++ pins, p.1 ≠ it) : Inv X pins σ H { s with heap := h', toks := t' } := by
  have nit : ∀ b u, H b = some u → b ≠ it := fun b u e z => by rw [z, hn] at e; cases e
  refine I.step (g' := s.gens) (d' := s.drawn) (ch := [it]) (fun b hb => ?_) (fun b o _ _ hc e _ => k b o (fun z => hc (by simp [z])) e) (fun b o _ _ hc e _ => ⟨o.slots, k b o (fun z => hc (by simp [z])) e⟩) (fun _ _ _ _ n => n)
    (fun b o hc e => ⟨o, k b o (fun z => hc (by simp [z])) e⟩) (fun _ _ e => e) (fun _ _ _ e => e) (fun b ps e => ⟨#[], by rw [e]; simp⟩) (fun m hm => ?_) (fun b u e => ?_) I.bare
  · have e : b = it := by simpa using hb
    subst e
    exact ⟨h1, hL, h2, h3⟩
  · obtain ⟨o, es, ep, ho, r⟩ := hm
    exact ⟨o, es, ep, k _ o (Ne.symm hL) ho, r⟩
  · refine (I.hok b u e).stay (fun c v hc q => k c v ?_ q) (fun _ q => q) fun _ _ q => q
    rcases hc with z | z
    · rw [z]; exact nit b u e
    · exact nit c _ z
theorem Inv.tok (I : Inv X pins σ H s) (t : Nat) : Inv X pins σ H { s with toks := t } := I.un (h' := s.heap) (t' := t) Un.refl I.hok
/-- all objects kept -/
theorem Inv.kept {t' : Nat} (I : Inv X pins σ H s) (k : ∀ b u, s.heap.get? b = some u → h'.get? b = some u) : Inv X pins σ H { s with heap := h', toks := t' } := I.un (Un.kept k) (I.hok.kept k)
/-- a new object laid and tracked -/
theorem Inv.laid {a : Addr} {o : HO} {t' : Nat} (I : Inv X pins σ H s) (k : ∀ b u, s.heap.get? b = some u → h'.get? b = some u) (hp : s.heap.objs.size ≤ a) (new : ObjOk X.prog X.w (upd H a o) h' a o) :
    Inv X pins σ (upd H a o) { s with heap := h', toks := t' } := I.un (Un.laid k hp (I.hok.fresh hp)) (I.hok.laid k hp new)
/-- an object written -/
theorem Inv.write {x e : Addr} {o : HO} {t' : Nat} (I : Inv X pins σ H s) (mu : Mut (H x)) (he : e = x ∨ H e = some (.own x)) (k : ∀ b u, b ≠ e → s.heap.get? b = some u → h'.get? b = some u) (heo : ∃ u, h'.get? e = some u)
    (new : ObjOk X.prog X.w (upd H x o) h' x o) : Inv X pins σ (upd H x o) { s with heap := h', toks := t' } := I.un (Un.write mu he k heo) (I.hok.write mu he k heo new)
/-- forgetting slots, pins -/
theorem Inv.weak {σ' : List (Option V)} (I : Inv X pins σ H s) (hl : σ'.length = σ.length) (w : ∀ (i : Nat) v, σ'[i]? = some (some v) → σ[i]? = some (some v)) : Inv X pins σ' H s :=
  ⟨I.ok, I.os, I.bare, I.base, let ⟨m, hn, hl'⟩ := I.loc; ⟨m, hn, fun i x v e1 e2 e3 => hl' i x v e1 (w i v e2) e3⟩, I.cell, I.free, I.freeC, I.pin, I.hok, hl.trans I.len⟩
theorem Inv.pins_of {pins' : List (Addr × Obj)} (I : Inv X pins σ H s) (h : ∀ p ∈ pins', s.heap.get? p.1 = some p.2 ∧ H p.1 = none ∧ p.1 ≠ X.env.locals ∧ p.1 ∉ X.fs ∧ ∀ v, p.2.data ≠ .cell v) : Inv X pins' σ H s :=
  ⟨I.ok, I.os, I.bare, I.base, I.loc, I.cell, I.free, I.freeC, fun p hp => (List.mem_append.mp hp).elim (fun z => I.pin p (List.mem_append_left _ z)) (h p), I.hok, I.len⟩

theorem nodup_ix {N : List Str} (hN : N.Nodup) {i j : Nat} {x : Str} (a : N[i]? = some x) (b : N[j]? = some x) : i = j := by
  obtain ⟨h1, e1⟩ := List.getElem?_eq_some_iff.mp a
  obtain ⟨h2, e2⟩ := List.getElem?_eq_some_iff.mp b
  exact (List.getElem_inj hN).mp (e1.trans e2.symm)

/-- a name is stored; what changed -/
theorem store_ok2 {M : Model} {A : Around} {E : Value → Shared → Prop} {i : Nat} {x : Str} {v : V} {u : Value} {Q : Unit → Shared → Prop} (I : Inv X pins σ H s) (hN : X.N.Nodup) (hi : X.N[i]? = some x) (hx : Loc X.env.scope x) (r : RelV v u)
    (h : ∀ s', Inv X pins (σ.set i (some v)) H s' → (∃ a, Heap.SameBut a s.heap s'.heap ∧ (a = X.env.locals ∨ X.env.cells.lookup x = some a)) → Q () s') (hf : X.fn x = true ∨ X.env.scope.names.lookup x = some .local := by first | exact .inl rfl | exact .inr rfl | assumption) : wpAny M A (storeName X.env x u) Q E s := by
  obtain ⟨m, hn, hl⟩ := id I.loc
  have hcls : (X.env.scope.kind == .class || (X.env.scope.kind == .module && X.env.locals != X.env.globals)) = false := by rw [I.ok.kind]; rfl
  have hiσ : i < σ.length := by rw [I.len]; exact (List.getElem?_eq_some_iff.mp hi).1
  have cne := I.cne
  have tracked : ∀ {a : Addr} {h' : Heap}, (∃ o, s.heap.get? a = some o ∧ H a = none) → Heap.SameBut a s.heap h' → HOk X.prog X.w H h' := fun {a h'} ha hs b ob e => by
    obtain ⟨_, _, hfree⟩ := ha
    refine (I.hok b ob e).stay (fun c w' hc q => (hs.2 c ?_).trans q) (fun _ q => q) fun _ _ q => q
    rintro rfl
    rcases hc with rfl | hc
    · rw [hfree] at e; cases e
    · rw [hfree] at hc; cases hc
  rcases hx with hk | hk
  · refine wpAny_storeName_local hk hn (fun h' hn' hs => ?_) hcls
    obtain ⟨oL, _, _, hoL, _⟩ := id hn
    refine h _ ⟨I.ok, I.os, I.bare, ⟨fun b o e n hb hx => ?_, fun b o e n hb hx => ?_, I.base.free, fun b o e hx => ?_, I.base.tups, I.base.frzs, I.base.tbls⟩, ⟨_, hn', fun j y v' e1 e2 e3 => ?_⟩, fun y c e => ?_, I.free, I.freeC, fun p hp => ?_, tracked ⟨oL, hoL, I.free⟩ hs, by simpa using I.len⟩ ⟨_, hs, .inl rfl⟩
    · exact (hs.2 b (Nat.ne_of_lt (Nat.lt_of_lt_of_le (Heap.lt_size e) I.ok.above))).trans (I.base.keep b o e n hb hx)
    · obtain ⟨sl, e1⟩ := I.base.slot b o e n hb hx
      exact ⟨sl, (hs.2 b (Nat.ne_of_lt (Nat.lt_of_lt_of_le (Heap.lt_size e) I.ok.above))).trans e1⟩
    · obtain ⟨o', e1⟩ := I.base.there b o e hx
      exact ⟨o', (hs.2 b (Nat.ne_of_lt (Nat.lt_of_lt_of_le (Heap.lt_size e) I.ok.above))).trans e1⟩
    · by_cases hj : j = i
      · subst hj
        rw [hi] at e1; cases e1
        rw [List.getElem?_set_self hiσ] at e2
        cases e2
        exact ⟨u, r, .inl ⟨hk, by simp⟩⟩
      · rw [List.getElem?_set_ne (Ne.symm hj)] at e2
        obtain ⟨u', r', q⟩ := hl j y v' e1 e2 e3
        refine ⟨u', r', ?_⟩
        rcases q with ⟨k, e⟩ | ⟨k, c, e, z⟩
        · refine .inl ⟨k, ?_⟩
          have : y ≠ x := fun e => hj (nodup_ix hN e1 (e ▸ hi))
          simp [this, e]
        · exact .inr ⟨k, c, e, z.sameBut hs (cne y c e)⟩
    · obtain ⟨w', z⟩ := I.cell y c e
      exact ⟨w', z.sameBut hs (cne y c e)⟩
    · obtain ⟨e, n, ne, nf, d⟩ := I.pin p hp
      exact ⟨(hs.2 p.1 ne).trans e, n, ne, nf, d⟩
  · have hfn : X.fn x = true := by
      rcases hf with z | z
      · exact z
      · rw [z] at hk; cases hk
    obtain ⟨c, hc⟩ := I.ok.has x (.inl hk)
    obtain ⟨w', z⟩ := I.cell x c hc
    refine wpAny_storeName_cell I.ok.kind hk hc z (fun h' hc' hs => ?_)
    obtain ⟨oc, hoc, hocd⟩ := id z
    refine h { s with heap := h' } ⟨I.ok, I.os, I.bare, ⟨fun b o e n hb hx => ?_, fun b o e n hb hx => ?_, I.base.free, fun b o e hx => ?_, I.base.tups, I.base.frzs, I.base.tbls⟩, ⟨m, hn.sameBut hs (Ne.symm (cne x c hc)), fun j y v' e1 e2 e3 => ?_⟩, fun y c' e => ?_, I.free, I.freeC, fun p hp => ?_, tracked ⟨oc, hoc, I.freeC x c hc⟩ hs, by simpa using I.len⟩ ⟨c, hs, .inr hc⟩
    · exact (hs.2 b (Nat.ne_of_lt (Nat.lt_of_lt_of_le (Heap.lt_size e) (I.ok.cab x c hfn hc)))).trans (I.base.keep b o e n hb hx)
    · obtain ⟨sl, e1⟩ := I.base.slot b o e n hb hx
      exact ⟨sl, (hs.2 b (Nat.ne_of_lt (Nat.lt_of_lt_of_le (Heap.lt_size e) (I.ok.cab x c hfn hc)))).trans e1⟩
    · obtain ⟨o', e1⟩ := I.base.there b o e hx
      exact ⟨o', (hs.2 b (Nat.ne_of_lt (Nat.lt_of_lt_of_le (Heap.lt_size e) (I.ok.cab x c hfn hc)))).trans e1⟩
    · by_cases hj : j = i
      · subst hj
        rw [hi] at e1; cases e1
        rw [List.getElem?_set_self hiσ] at e2
        cases e2
        exact ⟨u, r, .inr ⟨.inl hk, c, hc, hc'⟩⟩
      · rw [List.getElem?_set_ne (Ne.symm hj)] at e2
        obtain ⟨u', r', q⟩ := hl j y v' e1 e2 e3
        refine ⟨u', r', ?_⟩
        rcases q with q | ⟨k, c', e, z'⟩
        · exact .inl q
        · refine .inr ⟨k, c', e, z'.sameBut hs ?_⟩
          rintro rfl
          exact hj (nodup_ix hN e1 (I.ok.inj _ _ _ e hc ▸ hi))
    · by_cases hcc : c' = c
      · subst hcc; exact ⟨_, hc'⟩
      · obtain ⟨w2, z2⟩ := I.cell y c' e
        exact ⟨w2, z2.sameBut hs hcc⟩
    · obtain ⟨e, n, ne, nf, d⟩ := I.pin p hp
      refine ⟨(hs.2 p.1 ?_).trans e, n, ne, nf, d⟩
      intro q
      rw [q, hoc] at e
      have q' : oc = p.2 := Option.some.inj e
      exact d w' (by rw [← q']; exact hocd)
theorem store_ok {M : Model} {A : Around} {E : Value → Shared → Prop} {i : Nat} {x : Str} {v : V} {u : Value} {Q : Unit → Shared → Prop} (I : Inv X pins σ H s) (hN : X.N.Nodup) (hi : X.N[i]? = some x) (hx : Loc X.env.scope x) (r : RelV v u)
    (h : ∀ s', Inv X pins (σ.set i (some v)) H s' → Q () s') (hf : X.fn x = true ∨ X.env.scope.names.lookup x = some .local := by first | exact .inl rfl | exact .inr rfl | assumption) : wpAny M A (storeName X.env x u) Q E s :=
  store_ok2 I hN hi hx r (fun s' I' _ => h s' I') hf
/-- behind a call or a block, the state as it is -/
theorem Inv.call' {s' : Shared} {ch : List Addr} (I : Inv X pins σ H s) (ho : s'.os = s.os) (u : Un (frs X.stack) ch H H' s.heap s'.heap) (hok : HOk X.prog X.w H' s'.heap) (hg : AllBare s'.gens)
    (hch : ∀ b ∈ ch, (b ∈ X.ex ∨ X.s₀.heap.objs.size ≤ b) ∧ b ≠ X.env.locals ∧ (∀ x c, X.env.cells.lookup x = some c → c ≠ b) ∧ ∀ p ∈ X.pn ++ pins, p.1 ≠ b) : Inv X pins σ H' s' := by
  obtain ⟨h', g', d', t', o'⟩ := s'
  have e : o' = s.os := ho
  subst e
  exact I.call (g' := g') (t' := t') (d' := d') u hok hg hch
end

/-! ### the judgements -/
/-- an exception: its class, its own dict's address (where it has one), the abstract heap behind it -/
abbrev XK := Value → Option Addr → Hp → Prop
abbrev St := List (Option V)
abbrev VK := V → Hp → Prop
/-- an expression's reading; a test's; an argument list's -/
abbrev TE := St → Hp → VK → Prop
abbrev TT := St → Hp → (Bool → Hp → Prop) → Prop
abbrev TA := St → Hp → (List V → Hp → Prop) → Prop
/-- what is wanted behind a statement -/
structure Ends where
  nx : St → Hp → Prop
  rt : VK
  bk : St → Hp → Prop := fun _ _ => False
  ct : St → Hp → Prop := fun _ _ => False
abbrev TS := Ends → St → Hp → Prop

def EP (X : Cx) (pins : List (Addr × Obj)) (σ : St) (Q : VK) (u : Value) (s' : Shared) : Prop := ∃ v H', Inv X pins σ H' s' ∧ RelV v u ∧ Q v H'
def TP (X : Cx) (pins : List (Addr × Obj)) (σ : St) (Q : Bool → Hp → Prop) (b : Bool) (s' : Shared) : Prop := ∃ H', Inv X pins σ H' s' ∧ Q b H'
def AP (X : Cx) (pins : List (Addr × Obj)) (σ : St) (Q : List V → Hp → Prop) (us : List Value) (s' : Shared) : Prop := ∃ vs H', Inv X pins σ H' s' ∧ Vals vs us ∧ Q vs H'
def SP (X : Cx) (pins : List (Addr × Obj)) (D : Ends) (f : Flow) (s' : Shared) : Prop :=
  match f with
  | .next => ∃ σ' H', Inv X pins σ' H' s' ∧ D.nx σ' H'
  | .brk => ∃ σ' H', Inv X pins σ' H' s' ∧ D.bk σ' H'
  | .cont => ∃ σ' H', Inv X pins σ' H' s' ∧ D.ct σ' H'
  | .ret u => ∃ v σ' H', Inv X pins σ' H' s' ∧ RelV v u ∧ D.rt v H'

def PE (X : Cx) (e : Expr) (t : TE) : Prop :=
  ∀ (pins : List (Addr × Obj)) (s : Shared) (σ : St) (H : Hp) (Q : VK), Inv X pins σ H s → t σ H Q → wpAny (model X.prog X.w) X.A (eval e X.env) (EP X pins σ Q) X.xe s
def PT (X : Cx) (e : Expr) (t : TT) : Prop :=
  ∀ (pins : List (Addr × Obj)) (s : Shared) (σ : St) (H : Hp) (Q : Bool → Hp → Prop), Inv X pins σ H s → t σ H Q → wpAny (model X.prog X.w) X.A (isTrue e X.env (eval e X.env)) (TP X pins σ Q) X.xe s
/-- a test whatever its 'whole' is (and, or) -/
def PW (X : Cx) (e : Expr) (t : TT) : Prop :=
  ∀ (whole : Sem Value) (pins : List (Addr × Obj)) (s : Shared) (σ : St) (H : Hp) (Q : Bool → Hp → Prop), Inv X pins σ H s → t σ H Q → wpAny (model X.prog X.w) X.A (isTrue e X.env whole) (TP X pins σ Q) X.xe s
theorem PW.pt {X : Cx} {e : Expr} {t : TT} (h : PW X e t) : PT X e t := h _
/-- an argument list (no star), from the left -/
def PA (X : Cx) (es : List Expr) (t : TA) : Prop :=
  ∀ (pos : Pos) (pins : List (Addr × Obj)) (s : Shared) (σ : St) (H : Hp) (Q : List V → Hp → Prop), Inv X pins σ H s → t σ H Q → wpAny (model X.prog X.w) X.A (spliced (backTo pos (starEach es X.env))) (AP X pins σ Q) X.xe s
def PS (X : Cx) (st : Stmt) (t : TS) : Prop :=
  ∀ (pins : List (Addr × Obj)) (s : Shared) (σ : St) (H : Hp) (D : Ends), Inv X pins σ H s → t D σ H → wpAny (model X.prog X.w) X.A (exec st X.env) (SP X pins D) X.xe s
def PSs (X : Cx) (st : List Stmt) (t : TS) : Prop :=
  ∀ (pins : List (Addr × Obj)) (s : Shared) (σ : St) (H : Hp) (D : Ends), Inv X pins σ H s → t D σ H → wpAny (model X.prog X.w) X.A (execs st X.env) (SP X pins D) X.xe s
/-- weaken the end -/
theorem thn {α : Type} {t : Sem α} {Q Q' : α → Shared → Prop} {M : Model} {A : Around} {E : Value → Shared → Prop} {s : Shared} (h : wpAny M A t Q E s) (hQ : ∀ a s, Q a s → Q' a s) : wpAny M A t Q' E s := wpAny_mono h hQ fun _ _ x => x
end L2

namespace L2
open PySem PySem.Spec PyProof.Rows
section
variable {X : Cx}

/-- two expressions in a row -/
theorem bin {a b : Expr} {ta tb : TE} (ha : PE X a ta) (hb : PE X b tb) {pins : List (Addr × Obj)} {s : Shared} {σ : St} {H : Hp} {R : V → V → Hp → Prop} (I : Inv X pins σ H s) (h : ta σ H fun x H1 => tb σ H1 fun y H2 => R x y H2)
    {α : Type} {Q : α → Shared → Prop} {f : Value → Value → Sem α}
    (hf : ∀ v u s2 x y H2, Inv X pins σ H2 s2 → RelV x v → RelV y u → R x y H2 → wpAny (model X.prog X.w) X.A (f v u) Q X.xe s2) :
    wpAny (model X.prog X.w) X.A (eval a X.env) (fun v s₁ => wpAny (model X.prog X.w) X.A (eval b X.env) (fun u s₂ => wpAny (model X.prog X.w) X.A (f v u) Q X.xe s₂) X.xe s₁) X.xe s := by
  refine thn (ha pins s σ H _ I h) fun v s1 ⟨x, H1, I1, r1, q1⟩ => ?_
  refine thn (hb pins s1 σ H1 _ I1 q1) fun u s2 ⟨y, H2, I2, r2, q2⟩ => ?_
  exact hf v u s2 x y H2 I2 r1 r2 q2

/-! ### names and constants -/
def tVar (i : Nat) : TE := fun σ H Q => ∃ v, σ[i]? = some (some v) ∧ Q v H
def tC (v : V) : TE := fun _ H Q => Q v H
theorem pe_var {i : Nat} {x : Str} {pos : Pos} (hN : X.N[i]? = some x) (hv : Vis X.env.scope x) (hd : (x == ("__debug__" : Str)) = false := by decide) (hcd : (x == ("__classdict__" : Str)) = false := by decide) : PE X (.Name x pos) (tVar i) := by
  intro pins s σ H Q I h
  obtain ⟨v, e, h⟩ := h
  obtain ⟨m, hn, hl⟩ := I.loc
  obtain ⟨u, r, l⟩ := hl i x v hN e hv
  have fin : EP X pins σ Q u s := ⟨v, H, I, r, h⟩
  rcases l with ⟨hk, hm⟩ | ⟨hk, c, hc, hcell⟩
  · exact wpAny_Name (wpAny_loadName_local I.ok.kind hk hn hm fin) hd
  · rcases hk with hk | hk
    · exact wpAny_Name (wpAny_loadName_cell I.ok.kind hk hc hcell fin) hd
    · exact wpAny_Name (wpAny_loadName_free I.ok.kind hk hc hcell fin hcd) hd
theorem pe_int {i j pos} : PE X (.Constant (.int i) j pos) (tC (.int i)) := fun _ _ _ H _ I h => wpAny_Constant_int ⟨.int i, H, I.tok _, ⟨_, rfl⟩, h⟩
theorem pe_bl {b j pos} : PE X (.Constant (.bool b) j pos) (tC (.bl b)) := fun _ _ _ H _ I h => Constant_bool ⟨.bl b, H, I, rfl, h⟩
theorem pe_non {j pos} : PE X (.Constant .none j pos) (tC .non) := fun _ _ _ H _ I h => Constant_none ⟨.non, H, I, rfl, h⟩
theorem pe_str {x j pos} : PE X (.Constant (.str x) j pos) (tC (.str x)) := fun _ _ _ H _ I h => Calls.Constant_str ⟨.str x, H, I.tok _, ⟨_, rfl⟩, h⟩

/-- a global name of the def -/
def Gl (X : Cx) (x : Str) : Prop := X.env.kindOf x = some .globalImplicit
theorem ld_glob {E : Value → Shared → Prop} {pins : List (Addr × Obj)} {s : Shared} {σ : St} {H : Hp} {x : Str} {u : Value} {pos : Pos} {Q : Value → Shared → Prop} (I : Inv X pins σ H s) (hg : Gl X x) (hm : X.mg x = some u) (h : Q u s)
    (hd : (x == ("__debug__" : Str)) = false := by decide) : wpAny (model X.prog X.w) X.A (eval (.Name x pos) X.env) Q E s :=
  Calls.Name_function_global I.ok.kind hg (Calls.loadGlobal_global (by rw [I.ok.glob]; exact I.mod.glob.keeps I.bk) hm h) hd
theorem ld_blt {E : Value → Shared → Prop} {pins : List (Addr × Obj)} {s : Shared} {σ : St} {H : Hp} {x : Str} {u : Value} {pos : Pos} {Q : Value → Shared → Prop} (I : Inv X pins σ H s) (hg : Gl X x) (hm : X.mg x = none) (hv : bootBuiltins x = some u) (h : Q u s)
    (hn : x ≠ "__name__" := by decide) (hd : (x == ("__debug__" : Str)) = false := by decide) : wpAny (model X.prog X.w) X.A (eval (.Name x pos) X.env) Q E s := by
  obtain ⟨mb, h1, h2⟩ := I.mod.blt
  exact Calls.Name_function_global I.ok.kind hg (Calls.loadGlobal_builtin (by rw [I.ok.glob]; exact I.mod.glob.keeps I.bk) hm (by rw [I.ok.blt]; exact h1.keeps I.bk) ((h2 x hn).trans hv) h) hd
/-- a module's constant, a class, a function, as a value -/
theorem pe_glob {x : Str} {v : V} {u : Value} {pos : Pos} (hg : Gl X x) (hm : X.mg x = some u) (r : RelV v u) (hd : (x == ("__debug__" : Str)) = false := by decide) : PE X (.Name x pos) (tC v) :=
  fun _ _ _ H _ I h => ld_glob I hg hm ⟨v, H, I, r, h⟩ hd
theorem pe_bltn {x : Str} {v : V} {u : Value} {pos : Pos} (hg : Gl X x) (hm : X.mg x = none) (hv : bootBuiltins x = some u) (r : RelV v u) (hn : x ≠ "__name__" := by decide) (hd : (x == ("__debug__" : Str)) = false := by decide) : PE X (.Name x pos) (tC v) :=
  fun _ _ _ H _ I h => ld_blt I hg hm hv ⟨v, H, I, r, h⟩ hn hd

/-! ### arithmetic -/
/-- two ints -/
def t2I (ta tb : TE) (k : Int → Int → Hp → Prop) : St → Hp → Prop := fun σ H => ta σ H fun x H1 => tb σ H1 fun y H2 => ∃ i j, x = .int i ∧ y = .int j ∧ k i j H2
def tAdd (ta tb : TE) : TE := fun σ H Q => t2I ta tb (fun i j H2 => Q (.int (i + j)) H2) σ H
def tSub (ta tb : TE) : TE := fun σ H Q => t2I ta tb (fun i j H2 => Q (.int (i - j)) H2) σ H
/-- the left factor below 2^64 -/
def tMul (ta tb : TE) : TE := fun σ H Q => t2I ta tb (fun i j H2 => (-(2 ^ 64) < i ∧ i < 2 ^ 64) ∧ Q (.int (i * j)) H2) σ H
variable {a b : Expr} {ta tb : TE} {pos : Pos}
theorem pe_add (ha : PE X a ta) (hb : PE X b tb) : PE X (.BinOp a .Add b pos) (tAdd ta tb) := by
  intro pins s σ H Q I h
  refine wpAny_BinOp (bin ha hb I h fun v u s2 x y H2 I2 rx ry q => ?_)
  obtain ⟨i, j, rfl, rfl, q⟩ := q
  obtain ⟨t, rfl⟩ := rx
  obtain ⟨t', rfl⟩ := ry
  exact add_int ⟨.int _, H2, I2.tok _, ⟨_, rfl⟩, q⟩
theorem pe_sub (ha : PE X a ta) (hb : PE X b tb) : PE X (.BinOp a .Sub b pos) (tSub ta tb) := by
  intro pins s σ H Q I h
  refine wpAny_BinOp (bin ha hb I h fun v u s2 x y H2 I2 rx ry q => ?_)
  obtain ⟨i, j, rfl, rfl, q⟩ := q
  obtain ⟨t, rfl⟩ := rx
  obtain ⟨t', rfl⟩ := ry
  exact sub_int ⟨.int _, H2, I2.tok _, ⟨_, rfl⟩, q⟩
theorem pe_mul (ha : PE X a ta) (hb : PE X b tb) : PE X (.BinOp a .Mult b pos) (tMul ta tb) := by
  intro pins s σ H Q I h
  refine wpAny_BinOp (bin ha hb I h fun v u s2 x y H2 I2 rx ry q => ?_)
  obtain ⟨i, j, rfl, rfl, ⟨q1, q2⟩, q⟩ := q
  obtain ⟨t, rfl⟩ := rx
  obtain ⟨t', rfl⟩ := ry
  exact mul_int ⟨.int _, H2, I2.tok _, ⟨_, rfl⟩, q⟩ (.of_left (intBits_le_64 q1 q2))

/-! ### comparisons -/
def PC (X : Cx) (op : CmpOp) (a b : Expr) (t : TE) : Prop :=
  ∀ (pins : List (Addr × Obj)) (s : Shared) (σ : St) (H : Hp) (Q : VK), Inv X pins σ H s → t σ H Q →
    wpAny (model X.prog X.w) X.A (eval a X.env) (fun v s₁ => wpAny (model X.prog X.w) X.A (eval b X.env) (fun u s₂ => wpAny (model X.prog X.w) X.A (compareOp op v u) (EP X pins σ Q) X.xe s₂) X.xe s₁) X.xe s
theorem nobehind (b : Expr) {op : CmpOp} (h : op ≠ .In) (h2 : op ≠ .NotIn) : behindInMarks op b = false := by
  have e1 : (op == CmpOp.In) = false := by cases op <;> first | rfl | exact absurd rfl h
  have e2 : (op == CmpOp.NotIn) = false := by cases op <;> first | rfl | exact absurd rfl h2
  cases b <;> simp [behindInMarks, e1, e2]
def tCmp (p : Int → Int → Bool) (ta tb : TE) : TE := fun σ H Q => t2I ta tb (fun i j H2 => Q (.bl (p i j)) H2) σ H
abbrev tLt : TE → TE → TE := tCmp fun i j => decide (i < j)
abbrev tLe : TE → TE → TE := tCmp fun i j => decide (i ≤ j)
abbrev tGt : TE → TE → TE := tCmp fun i j => decide (j < i)
abbrev tGe : TE → TE → TE := tCmp fun i j => decide (j ≤ i)
abbrev tEqI : TE → TE → TE := tCmp fun i j => decide (i = j)
abbrev tNeI : TE → TE → TE := tCmp fun i j => !decide (i = j)
/-- a comparison of two ints, by its rule -/
theorem pc_int {op : CmpOp} {p : Int → Int → Bool} (ha : PE X a ta) (hb : PE X b tb)
    (rule : ∀ (i j : Int) (t u : Tok) (Q : Value → Shared → Prop) (s : Shared), Q (.bool (p i j)) s → wpAny (model X.prog X.w) X.A (compareOp op (.int i t) (.int j u)) Q X.xe s) : PC X op a b (tCmp p ta tb) := by
  intro pins s σ H Q I h
  refine bin ha hb I h fun v u s2 x y H2 I2 rx ry q => ?_
  obtain ⟨i, j, rfl, rfl, q⟩ := q
  obtain ⟨t, rfl⟩ := rx
  obtain ⟨t', rfl⟩ := ry
  exact rule i j t t' _ s2 ⟨.bl _, H2, I2, rfl, q⟩
theorem pc_lt (ha : PE X a ta) (hb : PE X b tb) : PC X .Lt a b (tLt ta tb) := pc_int ha hb fun _ _ _ _ _ _ h => lt_int h
theorem pc_le (ha : PE X a ta) (hb : PE X b tb) : PC X .LtE a b (tLe ta tb) := pc_int ha hb fun _ _ _ _ _ _ h => le_int h
theorem pc_gt (ha : PE X a ta) (hb : PE X b tb) : PC X .Gt a b (tGt ta tb) := pc_int ha hb fun _ _ _ _ _ _ h => gt_int h
theorem pc_ge (ha : PE X a ta) (hb : PE X b tb) : PC X .GtE a b (tGe ta tb) := pc_int ha hb fun _ _ _ _ _ _ h => ge_int h
theorem pc_eqI (ha : PE X a ta) (hb : PE X b tb) : PC X .Eq a b (tEqI ta tb) := pc_int ha hb fun _ _ _ _ _ _ h => eq_int (by rw [Bool.beq_eq_decide_eq]; exact h)
theorem pc_neI (ha : PE X a ta) (hb : PE X b tb) : PC X .NotEq a b (tNeI ta tb) := pc_int ha hb fun _ _ _ _ _ _ h => ne_int (by rw [bne, Bool.beq_eq_decide_eq]; exact h)
/-- is None -/
def tIsN (ta : TE) : TE := fun σ H Q => ta σ H fun x H1 => Q (.bl (decide (x = .non))) H1
def tNotN (ta : TE) : TE := fun σ H Q => ta σ H fun x H1 => Q (.bl (!decide (x = .non))) H1
theorem RelV.none_iff {x : V} {v : Value} (r : RelV x v) : (v == Value.none) = decide (x = .non) := by
  cases x with
  | non => cases r; rfl
  | bl _ => cases r; rfl
  | int _ => obtain ⟨t, rfl⟩ := r; rfl
  | str _ => obtain ⟨t, rfl⟩ := r; rfl
  | byt _ => obtain ⟨t, rfl⟩ := r; rfl
  | flt _ => obtain ⟨t, rfl⟩ := r; rfl
  | ref _ => cases r; rfl
  | ty _ => cases r; rfl
theorem pc_isN {j pos'} (ha : PE X a ta) : PC X .Is a (.Constant .none j pos') (tIsN ta) := by
  intro pins s σ H Q I h
  refine thn (ha pins s σ H _ I h) fun v s1 ⟨x, H1, I1, r1, q1⟩ => ?_
  exact Constant_none (is_none_gen ⟨.bl _, H1, I1, by rw [r1.none_iff]; rfl, q1⟩)
theorem pc_notN {j pos'} (ha : PE X a ta) : PC X .IsNot a (.Constant .none j pos') (tNotN ta) := by
  intro pins s σ H Q I h
  refine thn (ha pins s σ H _ I h) fun v s1 ⟨x, H1, I1, r1, q1⟩ => ?_
  exact Constant_none (isnot_none_gen ⟨.bl _, H1, I1, by rw [r1.none_iff]; rfl, q1⟩)
/-- a comparison as a value, as a test -/
def tB (t : TE) : TT := fun σ H Q => t σ H fun x H1 => ∃ c, x = .bl c ∧ Q c H1
theorem pe_cmp {op : CmpOp} {t : TE} (h : PC X op a b t) (h1 : behindInMarks op b = false := by first | exact nobehind _ (by decide) (by decide) | rfl) : PE X (.Compare a [op] [b] pos) t := fun pins s σ H Q I hw => wpAny_Compare1 (h pins s σ H Q I hw) h1
theorem pt_cmp {op : CmpOp} {t : TE} (h : PC X op a b t) (h1 : behindInMarks op b = false := by first | exact nobehind _ (by decide) (by decide) | rfl) : PT X (.Compare a [op] [b] pos) (tB t) := by
  intro pins s σ H Q I hw
  refine wpAny_isTrue_Compare1 (thn (h pins s σ H _ I hw) fun v s1 h1 => thn h1 fun u s2 h2 => thn h2 fun c s3 ⟨x, H1, I1, r1, q1⟩ => ?_) h1
  obtain ⟨d, rfl, q⟩ := q1
  cases r1
  exact wpAny_truthy_bool ⟨H1, I1, q⟩
/-- an expression whose value is a bool, as a test -/
theorem pt_val {e : Expr} {t : TE} (h : PE X e t) (he : ∀ whole, isTrue e X.env whole = (do let v ← whole; standAt e.pos; holding [v] (truthy v)) := by intro _; rfl) : PT X e (tB t) := by
  intro pins s σ H Q I hw
  refine isTrue_plain (thn (h pins s σ H _ I hw) fun v s1 ⟨x, H1, I1, r1, q1⟩ => ?_) (he _)
  obtain ⟨d, rfl, q⟩ := q1
  cases r1
  exact wpAny_truthy_bool ⟨H1, I1, q⟩

/-! ### and, or, not -/
variable {tA tB' : TT} {rest : List Expr}
def tAnd (t u : TT) : TT := fun σ H Q => t σ H fun c H1 => if c = true then u σ H1 Q else Q false H1
def tOr (t u : TT) : TT := fun σ H Q => t σ H fun c H1 => if c = true then Q true H1 else u σ H1 Q
def tNot (t : TT) : TT := fun σ H Q => t σ H fun c H1 => Q (!c) H1
theorem pw_and1 (ha : PT X a tA) : PW X (.BoolOp .And [a] pos) tA := by
  intro wh pins s σ H Q I h
  refine isTrue_and (thn (ha pins s σ H Q I h) fun c s1 e => ?_)
  cases c with
  | true => exact isTrue_and_nil e
  | false => exact e
theorem pw_or1 (ha : PT X a tA) : PW X (.BoolOp .Or [a] pos) tA := by
  intro wh pins s σ H Q I h
  refine isTrue_or (thn (ha pins s σ H Q I h) fun c s1 e => ?_)
  cases c with
  | false => exact isTrue_or_nil e
  | true => exact e
theorem pw_and (ha : PT X a tA) (hb : PW X (.BoolOp .And (b :: rest) pos) tB') : PW X (.BoolOp .And (a :: b :: rest) pos) (tAnd tA tB') := by
  intro wh pins s σ H Q I h
  refine isTrue_and (thn (ha pins s σ H _ I h) fun c s1 ⟨H1, I1, q1⟩ => ?_)
  cases c with
  | true => exact hb wh pins s1 σ H1 Q I1 q1
  | false => exact ⟨H1, I1, q1⟩
theorem pw_or (ha : PT X a tA) (hb : PW X (.BoolOp .Or (b :: rest) pos) tB') : PW X (.BoolOp .Or (a :: b :: rest) pos) (tOr tA tB') := by
  intro wh pins s σ H Q I h
  refine isTrue_or (thn (ha pins s σ H _ I h) fun c s1 ⟨H1, I1, q1⟩ => ?_)
  cases c with
  | true => exact ⟨H1, I1, q1⟩
  | false => exact hb wh pins s1 σ H1 Q I1 q1
theorem pt_not (ha : PT X a tA) : PT X (.UnaryOp .Not a pos) (tNot tA) := by
  intro pins s σ H Q I h
  exact isTrue_not (ha pins s σ H (fun c H1 => Q (!c) H1) I h)
/-- .. as values (bools) -/
def tAndV (ta tb : TE) : TE := fun σ H Q => ta σ H fun x H1 => ∃ c, x = .bl c ∧ if c = true then tb σ H1 Q else Q (.bl false) H1
def tOrV (ta tb : TE) : TE := fun σ H Q => ta σ H fun x H1 => ∃ c, x = .bl c ∧ if c = true then Q (.bl true) H1 else tb σ H1 Q
def tNotV (ta : TE) : TE := fun σ H Q => ta σ H fun x H1 => ∃ c, x = .bl c ∧ Q (.bl (!c)) H1
theorem pe_one {op} {t : TE} (h : PE X a t) : PE X (.BoolOp op [a] pos) t := fun pins s σ H Q I hw => BoolOp_one (h pins s σ H Q I hw)
theorem pe_and (ha : PE X a ta) (hb : PE X (.BoolOp .And (b :: rest) pos) tb) : PE X (.BoolOp .And (a :: b :: rest) pos) (tAndV ta tb) := by
  intro pins s σ H Q I h
  refine BoolOp_and (thn (ha pins s σ H _ I h) fun v s1 ⟨x, H1, I1, r1, q1⟩ => ?_)
  obtain ⟨c, rfl, q1⟩ := q1
  cases r1
  refine wpAny_truthy_bool ?_
  cases c with
  | true => exact hb pins s1 σ H1 Q I1 q1
  | false => exact ⟨.bl false, H1, I1, rfl, q1⟩
theorem pe_or (ha : PE X a ta) (hb : PE X (.BoolOp .Or (b :: rest) pos) tb) : PE X (.BoolOp .Or (a :: b :: rest) pos) (tOrV ta tb) := by
  intro pins s σ H Q I h
  refine BoolOp_or (thn (ha pins s σ H _ I h) fun v s1 ⟨x, H1, I1, r1, q1⟩ => ?_)
  obtain ⟨c, rfl, q1⟩ := q1
  cases r1
  refine wpAny_truthy_bool ?_
  cases c with
  | false => exact hb pins s1 σ H1 Q I1 q1
  | true => exact ⟨.bl true, H1, I1, rfl, q1⟩
theorem pe_not (ha : PE X a ta) : PE X (.UnaryOp .Not a pos) (tNotV ta) := by
  intro pins s σ H Q I h
  refine UnaryOp_ (thn (ha pins s σ H _ I h) fun v s1 ⟨x, H1, I1, r1, q1⟩ => ?_)
  obtain ⟨c, rfl, q1⟩ := q1
  cases r1
  exact not_of (wpAny_truthy_bool ⟨.bl (!c), H1, I1, rfl, q1⟩)
/-- a if t else b -/
def tIf (t : TT) (ta tb : TE) : TE := fun σ H Q => t σ H fun c H1 => if c = true then ta σ H1 Q else tb σ H1 Q
theorem pe_ifExp {c : Expr} (hc : PT X c tA) (ha : PE X a ta) (hb : PE X b tb) : PE X (.IfExp c a b pos) (tIf tA ta tb) := by
  intro pins s σ H Q I h
  refine wpAny_IfExp (thn (hc pins s σ H _ I h) fun d s1 ⟨H1, I1, q1⟩ => ?_)
  cases d with
  | true => exact ha pins s1 σ H1 Q I1 q1
  | false => exact hb pins s1 σ H1 Q I1 q1
end
end L2

namespace L2
open PySem PySem.Spec PyProof.Rows

/-! ### a list, a tuple that is read: tracked, frozen, or an object of the module -/
def SqL (K : PySem.W.Frag) (H : Hp) (a : Addr) (xs : List V) : Prop :=
  Rd H a (.lst xs) ∨
    ∃ (o : Obj) (its : Array Value) (n : Nat), K.lookup a = some o ∧ o.cls = .type "list" ∧ o.dict = none ∧ o.data = .seq its n ∧ its.size ≤ sizeLine ∧ Vals xs its.toList
def SqT (K : PySem.W.Frag) (H : Hp) (a : Addr) (xs : List V) : Prop :=
  Rd H a (.tup xs) ∨
    ∃ (o : Obj) (its : Array Value) (n : Nat), K.lookup a = some o ∧ o.cls = .type "tuple" ∧ o.data = .seq its n ∧ its.size ≤ sizeLine ∧ Vals xs its.toList
def absV : Value → Option V
  | .none => some .non
  | .bool b => some (.bl b)
  | .int i _ => some (.int i)
  | .str x _ => some (.str x)
  | .bytes b _ => some (.byt b)
  | .float b _ => some (.flt b)
  | .ref a => some (.ref a)
  | .type n => some (.ty n)
  | _ => none
theorem RelV.abs {x : V} {u : Value} (r : RelV x u) : absV u = some x := by
  cases x with
  | non => cases r; rfl
  | bl _ => cases r; rfl
  | int _ => obtain ⟨t, rfl⟩ := r; rfl
  | str _ => obtain ⟨t, rfl⟩ := r; rfl
  | byt _ => obtain ⟨t, rfl⟩ := r; rfl
  | flt _ => obtain ⟨t, rfl⟩ := r; rfl
  | ref _ => cases r; rfl
  | ty _ => cases r; rfl
theorem RelV.inj {x y : V} {u : Value} (r : RelV x u) (q : RelV y u) : x = y := Option.some.inj (r.abs.symm.trans q.abs)
theorem Vals.inj : ∀ {xs ys : List V} {us : List Value}, Vals xs us → Vals ys us → xs = ys
  | _, _, _, .nil, .nil => rfl
  | _, _, _, .cons r t, .cons r' t' => by rw [r.inj r', Vals.inj t t']
section
variable {X : Cx} {pins : List (Addr × Obj)} {σ : St} {H : Hp} {s : Shared} {a : Addr} {xs ys : List V}
theorem SqL.of {K : PySem.W.Frag} (h : H a = some (.lst xs)) : SqL K H a xs := .inl (.inl h)
theorem SqT.of {K : PySem.W.Frag} (h : H a = some (.tup xs)) : SqT K H a xs := .inl (.inl h)
theorem Inv.list (I : Inv X pins σ H s) (h : SqL X.K H a xs) : ∃ its : List Value, Vals xs its ∧ PlainL s.heap a its.toArray ∧ xs.length ≤ sizeLine := by
  rcases h with h | ⟨o, its, n, hk, hc, hd, hs, hz, r⟩
  · obtain ⟨z, its, n, r, e⟩ := h.ok I.hok
    exact ⟨its, r, ⟨_, n, e, rfl, rfl, rfl⟩, z⟩
  · refine ⟨its.toList, r, ⟨o, n, I.kIn a o hk, hc, hd, by simpa using hs⟩, ?_⟩
    have e := r.length
    simp only [Array.length_toList] at e
    omega
theorem Inv.tuple (I : Inv X pins σ H s) (h : SqT X.K H a xs) : ∃ its : List Value, Vals xs its ∧ IsTup s.heap a its.toArray ∧ xs.length ≤ sizeLine := by
  rcases h with h | ⟨o, its, n, hk, hc, hs, hz, r⟩
  · obtain ⟨z, its, r, p⟩ := h.ok I.hok
    exact ⟨its, r, p, z⟩
  · refine ⟨its.toList, r, ⟨o, I.kIn a o hk, hc, n, by simpa using hs⟩, ?_⟩
    have e := r.length
    simp only [Array.length_toList] at e
    omega
theorem Inv.list_inj (I : Inv X pins σ H s) (h : SqL X.K H a xs) (h' : SqL X.K H a ys) : xs = ys := by
  obtain ⟨its, r, ⟨o, n, e, _, _, d⟩, _⟩ := I.list h
  obtain ⟨its', r', ⟨o', n', e', _, _, d'⟩, _⟩ := I.list h'
  rw [e] at e'; cases e'
  rw [d] at d'
  injection d' with d1 _
  have : its = its' := by simpa using congrArg Array.toList d1
  subst this
  exact r.inj r'
theorem Inv.tuple_inj (I : Inv X pins σ H s) (h : SqT X.K H a xs) (h' : SqT X.K H a ys) : xs = ys := by
  obtain ⟨its, r, ⟨o, e, _, n, d⟩, _⟩ := I.tuple h
  obtain ⟨its', r', ⟨o', e', _, n', d'⟩, _⟩ := I.tuple h'
  rw [e] at e'; cases e'
  rw [d] at d'
  injection d' with d1 _
  have : its = its' := by simpa using congrArg Array.toList d1
  subst this
  exact r.inj r'
end

/-! ### another wish about exceptions -/
abbrev Cx.wish (X : Cx) (E : Value → Shared → Prop) : Cx := { X with xe := E }
/-- no exception leaves -/
abbrev Cx.nox (X : Cx) : Cx := X.wish fun _ _ => False
theorem Cx.Ok.wish {X : Cx} (ok : X.Ok) (E : Value → Shared → Prop) : (X.wish E).Ok :=
  ⟨ok.mod, ok.kind, ok.glob, ok.blt, ok.above, ok.inj, ok.has, ok.cab, ok.hd, ok.frames, ok.stk, ok.exf, ok.bs, ok.bsz, ok.noex, ok.exfs, ok.funs, ok.frf⟩
theorem Cx.Ok.unwish {X : Cx} {E : Value → Shared → Prop} (ok : (X.wish E).Ok) : X.Ok :=
  ⟨ok.mod, ok.kind, ok.glob, ok.blt, ok.above, ok.inj, ok.has, ok.cab, ok.hd, ok.frames, ok.stk, ok.exf, ok.bs, ok.bsz, ok.noex, ok.exfs, ok.funs, ok.frf⟩
section
variable {X : Cx} {pins : List (Addr × Obj)} {σ : St} {H : Hp} {s : Shared} {E : Value → Shared → Prop}
theorem Inv.wish (I : Inv X pins σ H s) (E : Value → Shared → Prop) : Inv (X.wish E) pins σ H s := ⟨I.ok.wish E, I.os, I.bare, I.base, I.loc, I.cell, I.free, I.freeC, I.pin, I.hok, I.len⟩
theorem Inv.unwish (I : Inv (X.wish E) pins σ H s) : Inv X pins σ H s := ⟨I.ok.unwish, I.os, I.bare, I.base, I.loc, I.cell, I.free, I.freeC, I.pin, I.hok, I.len⟩
theorem SP.unwish {D : Ends} {f : Flow} {s' : Shared} (h : SP (X.wish E) pins D f s') : SP X pins D f s' := by
  cases f with
  | next => obtain ⟨σ', H', I, q⟩ := h; exact ⟨σ', H', I.unwish, q⟩
  | brk => obtain ⟨σ', H', I, q⟩ := h; exact ⟨σ', H', I.unwish, q⟩
  | cont => obtain ⟨σ', H', I, q⟩ := h; exact ⟨σ', H', I.unwish, q⟩
  | ret u => obtain ⟨v, σ', H', I, r, q⟩ := h; exact ⟨v, σ', H', I.unwish, r, q⟩
theorem PE.nox {e : Expr} {t : TE} (h : PE X.nox e t) : PE X e t := fun pins s σ H Q I hw =>
  wpAny_mono (h pins s σ H Q (I.wish _) hw) (fun _ _ ⟨v, H', I', r, q⟩ => ⟨v, H', I'.unwish, r, q⟩) fun _ _ z => False.elim z
theorem PT.nox {e : Expr} {t : TT} (h : PT X.nox e t) : PT X e t := fun pins s σ H Q I hw =>
  wpAny_mono (h pins s σ H Q (I.wish _) hw) (fun _ _ ⟨H', I', q⟩ => ⟨H', I'.unwish, q⟩) fun _ _ z => False.elim z
theorem PSs.nox {st : List Stmt} {t : TS} (h : PSs X.nox st t) : PSs X st t := fun pins s σ H D I hw =>
  wpAny_mono (h pins s σ H D (I.wish _) hw) (fun _ _ q => q.unwish) fun _ _ z => False.elim z
end

/-! ### blocks and small statements -/
section
variable {X : Cx} {st : Stmt} {rest : List Stmt} {t u : TS} {e : Expr} {te : TE} {pos : Pos}
def tNext : TS := fun D σ H => D.nx σ H
def tSeq (t u : TS) : TS := fun D σ H => t { D with nx := u D } σ H
theorem pss_nil : PSs X [] tNext := fun _ _ σ H _ I h => wpAny_execs_nil ⟨σ, H, I, h⟩
theorem pss_cons (h1 : PS X st t) (h2 : PSs X rest u) : PSs X (st :: rest) (tSeq t u) := by
  intro pins s σ H D I h
  refine wpAny_execs_cons (thn (h1 pins s σ H { D with nx := u D } I h) fun f s1 q => ?_)
  cases f with
  | next =>
    obtain ⟨σ', H', I', q⟩ := q
    exact h2 pins s1 σ' H' D I' q
  | ret v => exact q
  | brk => exact q
  | cont => exact q
theorem pss_one (h1 : PS X st t) : PSs X [st] t := by
  intro pins s σ H D I h
  refine wpAny_execs_cons (thn (h1 pins s σ H D I h) fun f s1 q => ?_)
  cases f with
  | next => exact wpAny_execs_nil q
  | ret v => exact q
  | brk => exact q
  | cont => exact q
def tBreak : TS := fun D σ H => D.bk σ H
def tCont : TS := fun D σ H => D.ct σ H
theorem ps_pass : PS X (.Pass pos) tNext := fun _ _ σ H _ I h => wpAny_Pass ⟨σ, H, I, h⟩
theorem ps_break : PS X (.Break pos) tBreak := fun _ _ σ H _ I h => wpAny_Break ⟨σ, H, I, h⟩
theorem ps_continue : PS X (.Continue pos) tCont := fun _ _ σ H _ I h => wpAny_Continue ⟨σ, H, I, h⟩
/-- in a def's body nothing is shown -/
theorem Inv.quiet {pins : List (Addr × Obj)} {σ : St} {H : Hp} {s : Shared} (I : Inv X pins σ H s) : interactive X.env = false := by simp [interactive, I.ok.kind]
/-- a docstring -/
theorem ps_doc {x j pos pos'} : PS X (.Expr (.Constant (.str x) j pos) pos') tNext := fun _ s σ H _ I h => wpAny_Expr (Calls.Constant_str (show SP X _ _ .next { s with toks := s.toks + 1 } from ⟨σ, H, I.tok _, h⟩)) I.quiet
/-- an expression whose value is dropped -/
def tDrop (te : TE) : TS := fun D σ H => te σ H fun _ H1 => D.nx σ H1
theorem ps_expr (he : PE X e te) (hs : swapsWith e none pos.line X.env = pure false := by rfl) : PS X (.Expr e pos) (tDrop te) := by
  intro pins s σ H D I h
  exact wpAny_Expr_any (thn (he pins s σ H _ I h) fun v s1 ⟨x, H1, I1, r1, q1⟩ => ⟨σ, H1, I1, q1⟩) I.quiet hs
def tRet (te : TE) : TS := fun D σ H => te σ H D.rt
theorem ps_ret (he : PE X e te) : PS X (.Return (some e) pos) (tRet te) := by
  intro pins s σ H D I h
  exact wpAny_Return_some (thn (he pins s σ H _ I h) fun v s1 ⟨x, H1, I1, r1, q1⟩ => ⟨x, σ, H1, I1, r1, q1⟩)
def tRetN : TS := fun D _ H => D.rt .non H
theorem ps_retN : PS X (.Return none pos) tRetN := fun _ _ σ H _ I h => wpAny_Return_none ⟨.non, σ, H, I, rfl, h⟩
def tIfS (c : TT) (t u : TS) : TS := fun D σ H => c σ H fun b H1 => if b = true then t D σ H1 else u D σ H1
theorem ps_if {c : Expr} {a b : List Stmt} {tc : TT} (hc : PT X c tc) (ha : PSs X a t) (hb : PSs X b u) : PS X (.If c a b pos) (tIfS tc t u) := by
  intro pins s σ H D I h
  refine wpAny_If (thn (hc pins s σ H _ I h) fun d s1 ⟨H1, I1, q1⟩ => ?_)
  cases d with
  | true => exact ha pins s1 σ H1 D I1 q1
  | false => exact hb pins s1 σ H1 D I1 q1
/-- code that the proof never comes to -/
def tNever : TS := fun _ _ _ => False
theorem ps_never : PS X st tNever := fun _ _ _ _ _ _ h => h.elim
theorem pss_never {sts : List Stmt} : PSs X sts tNever := fun _ _ _ _ _ _ h => h.elim
end

/-! ### targets -/
abbrev TG := V → St → Hp → (St → Hp → Prop) → Prop
abbrev TGs := List V → St → Hp → (St → Hp → Prop) → Prop
def PG (X : Cx) (target : Expr) (t : TG) : Prop :=
  ∀ (pins : List (Addr × Obj)) (s : Shared) (σ : St) (H : Hp) (v : V) (u : Value) (Q : St → Hp → Prop), Inv X pins σ H s → RelV v u → t v σ H Q →
    wpAny (model X.prog X.w) X.A (assign target X.env u) (fun _ s' => ∃ σ' H', Inv X pins σ' H' s' ∧ Q σ' H') X.xe s
/-- several targets, one after another -/
def PGs (X : Cx) (ts : List Expr) (t : TGs) : Prop :=
  ∀ (pins : List (Addr × Obj)) (s : Shared) (σ : St) (H : Hp) (vs : List V) (us : List Value) (Q : St → Hp → Prop), Inv X pins σ H s → Vals vs us → t vs σ H Q →
    wpAny (model X.prog X.w) X.A (assignInOrder ((assignEach ts X.env).map (·.2)) us) (fun _ s' => ∃ σ' H', Inv X pins σ' H' s' ∧ Q σ' H') X.xe s
/-- o[i] = v, by values -/
abbrev TSet := V → V → V → Hp → (Hp → Prop) → Prop
def PSet (X : Cx) (t : TSet) : Prop :=
  ∀ (pins : List (Addr × Obj)) (s : Shared) (σ : St) (H : Hp) (o i v : V) (ov iv u : Value) (Q : Hp → Prop), Inv X pins σ H s → RelV o ov → RelV i iv → RelV v u → t o i v H Q →
    wpAny (model X.prog X.w) X.A (setItem ov iv u) (fun _ s' => ∃ H', Inv X pins σ H' s' ∧ Q H') X.xe s
/-- a op= b, by values -/
abbrev TIp := V → V → Hp → VK → Prop
def PIp (X : Cx) (op : Operator) (t : TIp) : Prop :=
  ∀ (pins : List (Addr × Obj)) (s : Shared) (σ : St) (H : Hp) (x y : V) (v u : Value) (Q : VK), Inv X pins σ H s → RelV x v → RelV y u → t x y H Q →
    wpAny (model X.prog X.w) X.A (inplaceOp op v u) (EP X pins σ Q) X.xe s
section
variable {X : Cx} {pos : Pos}
def gName (i : Nat) : TG := fun v σ H Q => Q (σ.set i (some v)) H
theorem pg_name {i : Nat} {x : Str} (hN : X.N.Nodup) (hi : X.N[i]? = some x) (hx : Loc X.env.scope x) (hf : X.fn x = true ∨ X.env.scope.names.lookup x = some .local := by first | exact .inl rfl | exact .inr rfl | assumption) : PG X (.Name x pos) (gName i) := by
  intro pins s σ H v u Q I r h
  exact wpAny_assign_Name (store_ok I hN hi hx r (fun s' I' => ⟨_, H, I', h⟩) hf)
def gNil : TGs := fun vs σ H Q => vs = [] ∧ Q σ H
def gCons (t : TG) (u : TGs) : TGs := fun vs σ H Q => ∃ v r, vs = v :: r ∧ t v σ H fun σ' H' => u r σ' H' Q
theorem pgs_nil : PGs X [] gNil := by
  intro pins s σ H vs us Q I r h
  obtain ⟨e, h⟩ := h
  subst e
  cases r
  exact assignInOrder_nil ⟨σ, H, I, h⟩
theorem pgs_cons {e : Expr} {es : List Expr} {t : TG} {u : TGs} (h1 : PG X e t) (h2 : PGs X es u)
    (hs : (assignEach (e :: es) X.env).map (·.2) = assign e X.env :: (assignEach es X.env).map (·.2) := by rfl) : PGs X (e :: es) (gCons t u) := by
  intro pins s σ H vs us Q I r h
  obtain ⟨v, vr, e1, h⟩ := h
  subst e1
  cases r with
  | cons r rr =>
    rw [hs]
    refine assignInOrder_cons (thn (h1 pins s σ H _ _ _ I r h) fun _ s1 ⟨σ1, H1, I1, q1⟩ => ?_)
    exact h2 pins s1 σ1 H1 _ _ Q I1 rr q1
/-- (a, b, ..) = a tuple of that length -/
def gTup (K : PySem.W.Frag) (n : Nat) (t : TGs) : TG := fun v σ H Q => ∃ a xs, v = .ref a ∧ SqT K H a xs ∧ xs.length = n ∧ t xs σ H Q
theorem pg_tup {es : List Expr} {k : Nat} {t : TGs} {n : Nat} (hc : X.calm = true) (h : PGs X es t)
    (hn : (assignEach es X.env).length = n := by rfl) (hst : (assignEach es X.env).findIdx? (·.1) = none := by rfl) : PG X (.Tuple es k pos) (gTup X.K n t) := by
  intro pins s σ H v u Q I r hw
  obtain ⟨a, xs, e1, hq, hl, hw⟩ := hw
  subst e1
  cases r
  obtain ⟨its, rv, ht, hz⟩ := I.tuple hq
  refine assign_Tuple_tuple (I.ok.hd hc) ht (by simp [hn, ← hl, rv.length]) hst fun h' hx => ?_
  have I1 : Inv X pins σ H { s with heap := h' } := I.kept (t' := s.toks) fun b o e => hx b o (Nat.ne_of_lt (Heap.lt_size e)) e
  exact h pins _ σ H xs _ Q I1 (by simpa using rv) hw
/-- o[i] = .. -/
def gSub (to ti : TE) (t : TSet) : TG := fun v σ H Q => to σ H fun o H1 => ti σ H1 fun i H2 => t o i v H2 fun H3 => Q σ H3
theorem pg_sub {o i : Expr} {to ti : TE} {t : TSet} (ho : PE X o to) (hi : PE X i ti) (hs : PSet X t)
    (ha : ∀ v, assign (.Subscript o i pos) X.env v = (do
      let ov ← holding [v] (eval o X.env)
      let iv ← holding [v, ov] (eval i X.env)
      standAt pos
      holding [v, ov, iv] (setItem ov iv v)
      release [v, ov, iv] []) := by intro _; rfl) : PG X (.Subscript o i pos) (gSub to ti t) := by
  intro pins s σ H v u Q I r h
  rw [ha]
  refine wpAny_bind (wpAny_holding (thn (ho pins s σ H _ I h) fun ov s1 ⟨x, H1, I1, r1, q1⟩ => ?_))
  refine wpAny_bind (wpAny_holding (thn (hi pins s1 σ H1 _ I1 q1) fun iv s2 ⟨y, H2, I2, r2, q2⟩ => ?_))
  refine wpAny_bind (wpAny_standAt (wpAny_bind (wpAny_holding (thn (hs pins s2 σ H2 x y v ov iv u _ I2 r1 r2 r q2) fun _ s3 ⟨H3, I3, q3⟩ => ?_))))
  exact wpAny_release ⟨σ, H3, I3, q3⟩
/-- target = value -/
def tAsg (te : TE) (g : TG) : TS := fun D σ H => te σ H fun x H1 => g x σ H1 D.nx
theorem ps_asg {tg e : Expr} {te : TE} {g : TG} (he : PE X e te) (hg : PG X tg g) (hs : swapsWithSole [tg] e pos.line X.env = pure false := by rfl) (hw : swappedStores [tg] e X.env = pure none := by rfl)
    (h1 : (assignEach [tg] X.env).map (·.2) = [assign tg X.env] := by rfl) : PS X (.Assign [tg] e pos) (tAsg te g) := by
  intro pins s σ H D I h
  refine wpAny_Assign_stores (thn (he pins s σ H _ I h) fun v s1 ⟨x, H1, I1, r1, q1⟩ => ?_) hs hw
  rw [h1]
  exact thn (hg pins s1 σ H1 x v _ I1 r1 q1) fun _ s2 q => q
/-- name = value -/
theorem ps_set {i : Nat} {x : Str} {e : Expr} {te : TE} {pos' : Pos} (hN : X.N.Nodup) (hi : X.N[i]? = some x) (hx : Loc X.env.scope x) (he : PE X e te) (hs : swapsWith e (some (.Name x pos')) pos.line X.env = pure false := by rfl) (hf : X.fn x = true ∨ X.env.scope.names.lookup x = some .local := by first | exact .inl rfl | exact .inr rfl | assumption) :
    PS X (.Assign [.Name x pos'] e pos) (tAsg te (gName i)) := by
  intro pins s σ H D I h
  refine wpAny_Assign_Name (thn (he pins s σ H _ I h) fun v s1 ⟨y, H1, I1, r1, q1⟩ => ?_) hs
  exact store_ok I1 hN hi hx r1 (fun s2 I2 => ⟨_, H1, I2, q1⟩) hf
/-- a, b = x, y with plain local names: stored from the right; the pair itself is not tracked (the opening rows as in PyProof/Rows/TupAssign.lean:23) -/
def tPar (i j : Nat) (ta : TA) : TS := fun D σ H => ta σ H fun vs H1 => ∃ v w, vs = [v, w] ∧ D.nx ((σ.set i (some v)).set j (some w)) H1
theorem ps_par {i j : Nat} {x y : Str} {a b : Expr} {ta : TA} {px py pt : Pos} {kt k2 pt2} (hc : X.calm = true) (hN : X.N.Nodup) (hi : X.N[i]? = some x) (hj : X.N[j]? = some y) (hij : i ≠ j)
    (hx : X.env.scope.names.lookup x = some .local) (hy : X.env.scope.names.lookup y = some .local) (ha : PA X [a, b] ta)
    (hw : swappedStores [.Tuple [.Name x px, .Name y py] kt pt] (.Tuple [a, b] k2 pt2) X.env = pure (some [x, y]))
    (hs : swapsWithSole [.Tuple [.Name x px, .Name y py] kt pt] (.Tuple [a, b] k2 pt2) pos.line X.env = pure false := by rfl) :
    PS X (.Assign [.Tuple [.Name x px, .Name y py] kt pt] (.Tuple [a, b] k2 pt2) pos) (tPar i j ta) := by
  intro pins s σ H D I h
  rw [exec_Assign_arm]
  refine wpAny_bind (wpAny_standAt ?_)
  rw [hs]
  refine wpAny_bind (wpAny_pure ?_)
  rw [if_neg (by decide)]
  refine wpAny_bind (Tuple_ (thn (ha _ pins s σ H _ I h) fun us s1 ⟨vs, H1, I1, r1, q1⟩ => ?_))
  obtain ⟨v, w, e1, q1⟩ := q1
  subst e1
  obtain ⟨u1, u2, rfl, rv, rw'⟩ : ∃ u1 u2, us = [u1, u2] ∧ RelV v u1 ∧ RelV w u2 := by
    cases r1 with
    | cons p q =>
      cases q with
      | cons p' q' =>
        cases q'
        exact ⟨_, _, rfl, p, p'⟩
  refine wpAny_newObj_type ?_ (by show 2 ≤ sizeLine; decide)
  have I2 : Inv X pins σ H1 { s1 with heap := s1.heap.push { cls := .type "tuple", data := .seq [u1, u2].toArray } } := I1.kept (t' := s1.toks) fun b o e => Heap.get?_push_of_some _ e
  rw [hw]
  refine wpAny_bind (wpAny_pure ?_)
  show wpAny (model X.prog X.w) X.A (do rule "assign.swapped-stores"; let items ← unpackItems (.ref s1.heap.objs.size) 2 none; assignInOrder [fun v => bindName X.env y v, fun v => bindName X.env x v] items.reverse; pure Flow.next) _ _ _
  refine wpAny_bind (wpAny_rule (wpAny_bind (unpackItems_tuple (items := #[u1, u2]) (I.ok.hd hc) (IsTup.new s1.heap _) fun h' hx' => ?_)))
  have I3 := I2.kept (h' := h') (t' := s1.toks) fun b o e => hx' b o (Nat.ne_of_lt (Heap.lt_size e)) e
  show wpAny _ _ (assignInOrder [fun v => bindName X.env y v, fun v => bindName X.env x v] [u2, u1] >>= fun _ => pure Flow.next) _ _ _
  refine wpAny_bind (assignInOrder_cons (wpAny_bindName (store_ok I3 hN hj (.inl hy) rw' (fun s2 I4 => ?_) (.inr hy))))
  refine assignInOrder_cons (wpAny_bindName (store_ok I4 hN hi (.inl hx) rv (fun s3 I5 => assignInOrder_nil (wpAny_pure ?_)) (.inr hx)))
  rw [List.set_comm _ _ (Ne.symm hij)] at I5
  exact ⟨_, H1, I5, q1⟩
/-- name op= e -/
def tAug (i : Nat) (te : TE) (ti : TIp) : TS := fun D σ H => ∃ x, σ[i]? = some (some x) ∧ te σ H fun y H1 => ti x y H1 fun z H2 => D.nx (σ.set i (some z)) H2
theorem ps_aug {i : Nat} {x : Str} {e : Expr} {te : TE} {op : Operator} {ti : TIp} {pos' : Pos} (hN : X.N.Nodup) (hi : X.N[i]? = some x) (hx : Loc X.env.scope x) (he : PE X e te) (ho : PIp X op ti) (hf : X.fn x = true ∨ X.env.scope.names.lookup x = some .local := by first | exact .inl rfl | exact .inr rfl | assumption) :
    PS X (.AugAssign (.Name x pos') op e pos) (tAug i te ti) := by
  intro pins s σ H D I h
  obtain ⟨v, e1, h⟩ := h
  obtain ⟨m, hn, hl⟩ := I.loc
  have vis : Vis X.env.scope x := by rcases hx with k | k; exact .inl k; exact .inr (.inl k)
  obtain ⟨u, r, l⟩ := hl i x v hi e1 vis
  refine wpAny_AugAssign_Name ?_
  have go : wpAny (model X.prog X.w) X.A (eval e X.env) (fun w s₂ => wpAny (model X.prog X.w) X.A (inplaceOp op u w) (fun r s₃ => wpAny (model X.prog X.w) X.A (storeName X.env x r) (fun _ => SP X pins D .next) X.xe s₃) X.xe s₂) X.xe s := by
    refine thn (he pins s σ H _ I h) fun w s1 ⟨y, H1, I1, r1, q1⟩ => ?_
    refine thn (ho pins s1 σ H1 v y u w _ I1 r r1 q1) fun z s2 ⟨zv, H2, I2, r2, q2⟩ => ?_
    exact store_ok I2 hN hi hx r2 (fun s3 I3 => ⟨_, H2, I3, q2⟩) hf
  rcases l with ⟨hk, hm⟩ | ⟨hk, c, hc, hcell⟩
  · exact wpAny_loadName_local I.ok.kind hk hn hm go
  · rcases hk with hk | hk
    · exact wpAny_loadName_cell I.ok.kind hk hc hcell go
    · rcases hx with k | k
      · have : X.env.scope.names.lookup x = some .free := hk
        rw [k] at this; cases this
      · have : X.env.scope.names.lookup x = some .free := hk
        rw [k] at this; cases this
/-- o[i] op= e -/
def tAugS (to ti te : TE) (tget : V → V → Hp → VK → Prop) (tip : TIp) (tset : TSet) : TS := fun D σ H => to σ H fun o H1 => ti σ H1 fun i H2 => tget o i H2 fun x H3 => te σ H3 fun y H4 => tip x y H4 fun z H5 => tset o i z H5 fun H6 => D.nx σ H6
/-- o[i], by values -/
def PGet (X : Cx) (t : V → V → Hp → VK → Prop) : Prop :=
  ∀ (pins : List (Addr × Obj)) (s : Shared) (σ : St) (H : Hp) (o i : V) (ov iv : Value) (Q : VK), Inv X pins σ H s → RelV o ov → RelV i iv → t o i H Q →
    wpAny (model X.prog X.w) X.A (getItem ov iv) (EP X pins σ Q) X.xe s
theorem ps_augS {o i e : Expr} {to ti te : TE} {tget : V → V → Hp → VK → Prop} {tip : TIp} {tset : TSet} {op : Operator} {tpos : Pos} (ho : PE X o to) (hi : PE X i ti) (hg : PGet X tget) (he : PE X e te) (hp : PIp X op tip) (hs : PSet X tset)
    (ha : ∀ ov iv new, augStore i ov iv new = (do holding [new, ov, iv] (setItem ov iv new); release [new, ov, iv] []; pure .next) := by intros; rfl) : PS X (.AugAssign (.Subscript o i tpos) op e pos) (tAugS to ti te tget tip tset) := by
  intro pins s σ H D I h
  refine wpAny_AugAssign_SubscriptAny (thn (ho pins s σ H _ I h) fun ov s1 ⟨x1, H1, I1, r1, q1⟩ => ?_) ha
  refine thn (hi pins s1 σ H1 _ I1 q1) fun iv s2 ⟨x2, H2, I2, r2, q2⟩ => ?_
  refine thn (hg pins s2 σ H2 x1 x2 ov iv _ I2 r1 r2 q2) fun old s3 ⟨x3, H3, I3, r3, q3⟩ => ?_
  refine thn (he pins s3 σ H3 _ I3 q3) fun v s4 ⟨x4, H4, I4, r4, q4⟩ => ?_
  refine thn (hp pins s4 σ H4 x3 x4 old v _ I4 r3 r4 q4) fun new s5 ⟨x5, H5, I5, r5, q5⟩ => ?_
  exact thn (hs pins s5 σ H5 x1 x2 x5 ov iv new _ I5 r1 r2 r5 q5) fun _ s6 ⟨H6, I6, q6⟩ => ⟨σ, H6, I6, q6⟩
/-- ints -/
def ipI (f : Int → Int → Int) : TIp := fun x y H Q => ∃ i j, x = .int i ∧ y = .int j ∧ Q (.int (f i j)) H
theorem ip_add : PIp X .Add (ipI fun i j => i + j) := by
  intro pins s σ H x y v u Q I r1 r2 h
  obtain ⟨i, j, e1, e2, q⟩ := h
  subst e1; subst e2
  obtain ⟨t, rfl⟩ := r1
  obtain ⟨t', rfl⟩ := r2
  exact iadd_int ⟨.int _, H, I.tok _, ⟨_, rfl⟩, q⟩
theorem ip_sub : PIp X .Sub (ipI fun i j => i - j) := by
  intro pins s σ H x y v u Q I r1 r2 h
  obtain ⟨i, j, e1, e2, q⟩ := h
  subst e1; subst e2
  obtain ⟨t, rfl⟩ := r1
  obtain ⟨t', rfl⟩ := r2
  exact isub_int ⟨.int _, H, I.tok _, ⟨_, rfl⟩, q⟩
end

/-! ### while -/
section
variable {X : Cx} {pos : Pos}
/-- the invariant W with its measure -/
def tWhile (c : TT) (tb : TS) : TS := fun D σ H => ∃ W : Nat → St → Hp → Prop, (∃ m, W m σ H) ∧ ∀ m σ H, W m σ H →
  c σ H fun b H1 => if b = true then ∃ N : St → Hp → Prop, (∀ σ' H', N σ' H' → ∃ m', m' < m ∧ W m' σ' H') ∧ tb { D with nx := N, ct := N, bk := D.nx } σ H1 else D.nx σ H1
theorem ps_while {c : Expr} {body : List Stmt} {tc : TT} {tb : TS} (hp : PassesOwn (model X.prog X.w) X.A X.env X.xe) (hc : PT X c tc) (hb : PSs X body tb) : PS X (.While c body [] pos) (tWhile tc tb) := by
  intro pins s σ H D I h
  obtain ⟨W, ⟨m0, w0⟩, turn⟩ := h
  refine wpAny_While (codeAny_whileLoop (fun n s' => ∃ σ' H', Inv X pins σ' H' s' ∧ W n σ' H') ?_ m0 ⟨σ, H, I, w0⟩)
  rintro n s1 ⟨σ1, H1, I1, w1⟩
  refine wpAny_passesOwn hp (thn (hc pins s1 σ1 H1 _ I1 (turn n σ1 H1 w1)) fun b s2 ⟨H2, I2, q2⟩ => ?_)
  cases b with
  | true =>
    obtain ⟨N, hN, q2⟩ := q2
    rw [if_pos rfl]
    refine wpAny_passesOwn hp (thn (hb pins s2 σ1 H2 _ I2 q2) fun f s3 q3 => ?_)
    cases f with
    | next =>
      obtain ⟨σ3, H3, I3, n3⟩ := q3
      obtain ⟨m', hm, w3⟩ := hN σ3 H3 n3
      exact ⟨m', hm, σ3, H3, I3, w3⟩
    | cont =>
      obtain ⟨σ3, H3, I3, n3⟩ := q3
      obtain ⟨m', hm, w3⟩ := hN σ3 H3 n3
      exact ⟨m', hm, σ3, H3, I3, w3⟩
    | brk => exact q3
    | ret v => exact q3
  | false =>
    rw [if_neg Bool.false_ne_true]
    exact wpAny_execs_nil ⟨σ1, H2, I2, q2⟩
end

/-! ### what a loop or a comprehension walks -/
/-- at turn i: it yields x (the heap may grow), or it stops -/
structure It where
  go : Nat → Hp → Prop
  yld : Nat → Hp → V → Hp → Prop
  stop : Nat → Hp → Prop
/-- the iterator's own objects may turn: they are not the frame's, not pinned, younger than the entry (or a comprehension's own) -/
def FpOk (X : Cx) (pins : List (Addr × Obj)) (H : Hp) (b : Addr) : Prop :=
  H b = none ∧ b ≠ X.env.locals ∧ b ∉ X.fs ∧ (b ∈ X.ex ∨ X.s₀.heap.objs.size ≤ b) ∧ (∀ x c, X.env.cells.lookup x = some c → c ≠ b) ∧ ∀ p ∈ X.pn ++ pins, p.1 ≠ b
theorem Inv.fpOk {X : Cx} {pins : List (Addr × Obj)} {σ : St} {H H' : Hp} {s : Shared} {b : Addr} (I : Inv X pins σ H s) (hb : s.heap.objs.size ≤ b) (hn : H' b = none) : FpOk X pins H' b := by
  refine ⟨hn, Nat.ne_of_gt (Nat.lt_of_lt_of_le I.lt hb), I.nofs hb, .inr (Nat.le_trans I.sz hb), fun x c e z => ?_, fun p hp z => ?_⟩
  · obtain ⟨v, q⟩ := I.cell x c e
    exact absurd (Nat.lt_of_lt_of_le q.lt (by rw [z]; exact hb)) (Nat.lt_irrefl _)
  · exact absurd (Nat.lt_of_lt_of_le (Heap.lt_size (I.pin p hp).1) (by rw [z]; exact hb)) (Nat.lt_irrefl _)
structure Turn (P : Program) (w : World) (K : PySem.W.Frag) (tg : Expr) (J : It) (fp : List Addr) (it : Addr) (tn : Nat → Heap → Prop) : Prop where
  mem : it ∈ fp
  obj : ∀ i h, tn i h → ∀ b ∈ fp, ∃ o, h.get? b = some o ∧ ∀ v, o.data ≠ .cell v
  keep : ∀ i h h', tn i h → (∀ b ∈ fp, ∀ o, h.get? b = some o → h'.get? b = some o) → tn i h'
  item : ∀ (X : Cx), X.prog = P → X.w = w → X.K = K → X.calm = true → ∀ (i : Nat) (pins : List (Addr × Obj)) (s : Shared) (σ : St) (H : Hp) (E : Value → Shared → Prop), Inv X pins σ H s → (∀ b ∈ fp, FpOk X pins H b) → tn i s.heap → J.go i H →
    wpAny (model P w) X.A (pyNext (.ref it)) (fun r s1 => ∃ u, r = some u ∧
      wpAny (model P w) X.A (letOwnedTupleGo tg (.ref it) u) (fun _ s2 => ∃ x H', Inv X pins σ H' s2 ∧ RelV x u ∧ J.yld i H x H' ∧ tn (i + 1) s2.heap ∧ ∀ b ∈ fp, H' b = none) E s1) E s
  done : ∀ (X : Cx), X.prog = P → X.w = w → X.K = K → X.calm = true → ∀ (i : Nat) (pins : List (Addr × Obj)) (s : Shared) (σ : St) (H : Hp) (E : Value → Shared → Prop), Inv X pins σ H s → (∀ b ∈ fp, FpOk X pins H b) → tn i s.heap → J.stop i H →
    wpAny (model P w) X.A (pyNext (.ref it)) (fun r s1 => r = none ∧ Inv X pins σ H s1) E s
  self : ∀ (A : Around) (i : Nat) (s : Shared) (Q : Value → Shared → Prop) (E : Value → Shared → Prop), tn i s.heap → Q (.ref it) s → wpAny (model P w) A (pyIter (.ref it)) Q E s
abbrev TI := St → Hp → (It → Hp → Prop) → Prop
/-- an iterator has come -/
def PIE (X : Cx) (pins : List (Addr × Obj)) (σ : St) (tg : Expr) (R : It → Hp → Prop) (itv : Value) (s2 : Shared) : Prop :=
  ∃ (it : Addr) (fp : List Addr) (tn : Nat → Heap → Prop) (J : It) (H' : Hp), itv = .ref it ∧ Inv X pins σ H' s2 ∧ Turn X.prog X.w X.K tg J fp it tn ∧ tn 0 s2.heap ∧ (∀ b ∈ fp, FpOk X pins H' b) ∧ R J H'
def PI (X : Cx) (tg iter : Expr) (wi : TI) : Prop :=
  ∀ (pins : List (Addr × Obj)) (s : Shared) (σ : St) (H : Hp) (R : It → Hp → Prop), Inv X pins σ H s → wi σ H R →
    wpAny (model X.prog X.w) X.A (eval iter X.env) (fun v s1 => wpAny (model X.prog X.w) X.A (pyIter v) (PIE X pins σ tg R) X.xe s1) X.xe s

/-- the step ahead of the store is nothing for an iterator that keeps no tuple -/
theorem go_of {M : Model} {A : Around} {E : Value → Shared → Prop} {s : Shared} {tg : Expr} {it : Addr} {u : Value} {o : Obj} {n : String} {vs : Array Value} {Q : Unit → Shared → Prop} (ho : s.heap.get? it = some o) (hc : o.cls = .type n) (hd : o.data = .fields vs)
    (hn : ["enumerate", "zip", "dict_itemiterator", "dict_reverseitemiterator", "odict_iterator", "itertools.zip_longest", "itertools.pairwise"].contains n = false) (hQ : Q () s) : wpAny M A (letOwnedTupleGo tg (.ref it) u) Q E s := by
  unfold letOwnedTupleGo
  cases tg <;> first
    | exact wpAny_pure hQ
    | (cases u <;> first
        | exact wpAny_pure hQ
        | (refine wpAny_bind (wpAny_load ho ?_)
           rw [hc, hd]
           show wpAny M A (if (["enumerate", "zip", "dict_itemiterator", "dict_reverseitemiterator", "odict_iterator", "itertools.zip_longest", "itertools.pairwise"].contains n && vs[0]? == some (rawInt _)) = true then _ else _) Q E s
           rw [if_neg (by intro h; rw [hn, Bool.false_and] at h; cases h)]
           exact wpAny_pure hQ))

/-- the list at a, as it stands at each turn (a loop may append to it) -/
def Itl (K : PySem.W.Frag) (a : Addr) : It :=
  ⟨fun i H => ∃ xs x, SqL K H a xs ∧ xs[i]? = some x, fun i H x H' => H' = H ∧ ∀ xs, SqL K H a xs → xs[i]? = some x, fun i H => ∃ xs, SqL K H a xs ∧ xs.length ≤ i⟩
def Itt (K : PySem.W.Frag) (a : Addr) : It :=
  ⟨fun i H => ∃ xs x, SqT K H a xs ∧ xs[i]? = some x, fun i H x H' => H' = H ∧ ∀ xs, SqT K H a xs → xs[i]? = some x, fun i H => ∃ xs, SqT K H a xs ∧ xs.length ≤ i⟩
/-- lo, lo + 1, .. (n of them) -/
def Itr (lo : Int) (n : Nat) : It := ⟨fun i _ => i < n, fun i H x H' => H' = H ∧ x = .int (lo + i), fun i _ => n ≤ i⟩
theorem turn_list {P : Program} {w : World} {K : PySem.W.Frag} {tg : Expr} (a it : Addr) : Turn P w K tg (Itl K a) [it] it (fun i h => h.IsListIter it a i) where
  mem := by simp
  obj := fun i h st b hb => by
    have e : b = it := by simpa using hb
    subst e
    obtain ⟨o, e, c, d⟩ := st
    exact ⟨o, e, fun v z => by rw [d] at z; cases z⟩
  keep := fun i h h' st k => st.at fun o e => k it (by simp) o e
  item := by
    intro X hP hw hK hc i pins s σ H E I hf st hg
    subst hP hw hK
    obtain ⟨xs, x, hq, hx⟩ := hg
    obtain ⟨its, rv, p, hz⟩ := I.list hq
    obtain ⟨u, hu, ru⟩ := rv.get hx
    obtain ⟨f0, f1, f2, f3, f4, f5⟩ := hf it (by simp)
    refine wpAny_pyNext_list_item st p.isList (x := u) (by simpa using hu) fun h' st' sb => ?_
    have I1 : Inv X pins σ H { s with heap := h' } := I.turned (t' := s.toks) (fun b o hb e => (sb.2 b hb).trans e) f0 f1 f3 f4 f5
    obtain ⟨o, e, c, d⟩ := id st'
    exact ⟨u, rfl, go_of (s := { s with heap := h' }) e c d (by decide) ⟨x, H, I1, ru, ⟨rfl, fun ys hy => by rw [I.list_inj hy hq]; exact hx⟩, st', fun b hb => (hf b hb).1⟩⟩
  done := by
    intro X hP hw hK hc i pins s σ H E I hf st hg
    subst hP hw hK
    obtain ⟨xs, hq, hx⟩ := hg
    obtain ⟨its, rv, p, hz⟩ := I.list hq
    obtain ⟨f0, f1, f2, f3, f4, f5⟩ := hf it (by simp)
    have hl := rv.length
    exact wpAny_pyNext_list_end (I.ok.hd hc) st p.isList (by simp; omega) fun h' eb => ⟨rfl, I.turned (t' := s.toks) (fun b o hb e => eb b o hb e) f0 f1 f3 f4 f5⟩
  self := fun _ _ _ _ _ st h => wpAny_pyIter_listiter st h
theorem turn_tuple {P : Program} {w : World} {K : PySem.W.Frag} {tg : Expr} (a it : Addr) : Turn P w K tg (Itt K a) [it] it (fun i h => h.IsTupleIter it a i) where
  mem := by simp
  obj := fun i h st b hb => by
    have e : b = it := by simpa using hb
    subst e
    obtain ⟨o, e, c, d⟩ := st
    exact ⟨o, e, fun v z => by rw [d] at z; cases z⟩
  keep := fun i h h' st k => st.at fun o e => k it (by simp) o e
  item := by
    intro X hP hw hK hc i pins s σ H E I hf st hg
    subst hP hw hK
    obtain ⟨xs, x, hq, hx⟩ := hg
    obtain ⟨its, rv, p, hz⟩ := I.tuple hq
    obtain ⟨u, hu, ru⟩ := rv.get hx
    obtain ⟨f0, f1, f2, f3, f4, f5⟩ := hf it (by simp)
    refine wpAny_pyNext_tuple_item st (show s.heap.IsTuple a its.toArray from p) (x := u) (by simpa using hu) fun h' st' sb => ?_
    have I1 : Inv X pins σ H { s with heap := h' } := I.turned (t' := s.toks) (fun b o hb e => (sb.2 b hb).trans e) f0 f1 f3 f4 f5
    obtain ⟨o, e, c, d⟩ := id st'
    exact ⟨u, rfl, go_of (s := { s with heap := h' }) e c d (by decide) ⟨x, H, I1, ru, ⟨rfl, fun ys hy => by rw [I.tuple_inj hy hq]; exact hx⟩, st', fun b hb => (hf b hb).1⟩⟩
  done := by
    intro X hP hw hK hc i pins s σ H E I hf st hg
    subst hP hw hK
    obtain ⟨xs, hq, hx⟩ := hg
    obtain ⟨its, rv, p, hz⟩ := I.tuple hq
    obtain ⟨f0, f1, f2, f3, f4, f5⟩ := hf it (by simp)
    have hl := rv.length
    exact wpAny_pyNext_tuple_end (I.ok.hd hc) st (show s.heap.IsTuple a its.toArray from p) (by simp; omega) fun h' eb => ⟨rfl, I.turned (t' := s.toks) (fun b o hb e => eb b o hb e) f0 f1 f3 f4 f5⟩
  self := fun _ _ _ _ _ st h => wpAny_pyIter_tupleiter st h
theorem turn_range {P : Program} {w : World} {K : PySem.W.Frag} {tg : Expr} (it : Addr) (lo : Int) (n : Nat) : Turn P w K tg (Itr lo n) [it] it (fun i h => IsRangeIter h it (lo + (i : Nat) * 1) ((n : Int) - (i : Nat)) 1) where
  mem := by simp
  obj := fun i h st b hb => by
    have e : b = it := by simpa using hb
    subst e
    exact ⟨_, st, fun v z => by
      have z' : Data.fields _ = Data.cell v := z
      cases z'⟩
  keep := fun i h h' st k => k it (by simp) _ st
  item := by
    intro X hP hw hK hc i pins s σ H E I hf st hg
    subst hP hw hK
    obtain ⟨f0, f1, f2, f3, f4, f5⟩ := hf it (by simp)
    have W := Walks.range (prog := X.prog) (w := X.w) (I.ok.hd hc) it lo 1 n
    refine W.item i s _ _ hg st fun v h' tk hv st' kk => ?_
    obtain ⟨t, rfl⟩ := hv
    have I1 : Inv X pins σ H { s with heap := h', toks := tk } := I.turned (fun b o hb e => kk b o (by simpa using hb) e) f0 f1 f3 f4 f5
    refine ⟨_, rfl, go_of (s := { s with heap := h', toks := tk }) (n := "range_iterator") st' rfl rfl (by decide) ⟨.int (lo + i), H, I1, ⟨t, ?_⟩, ⟨rfl, rfl⟩, st', fun b hb => (hf b hb).1⟩⟩
    rw [Int.mul_one]
  done := by
    intro X hP hw hK hc i pins s σ H E I hf st hg
    subst hP hw hK
    obtain ⟨f0, f1, f2, f3, f4, f5⟩ := hf it (by simp)
    exact wpAny_pyNext_range_end (I.ok.hd hc) st (by have : n ≤ i := hg; omega) fun h' eb => ⟨rfl, I.turned (t' := s.toks) (fun b o hb e => eb b o hb e) f0 f1 f3 f4 f5⟩
  self := fun _ _ _ _ _ st h => wpAny_pyIter_rangeiter st h
end L2

namespace L2
open PySem PySem.Spec PyProof.Rows
section
variable {X : Cx} {tg : Expr}
def iList (K : PySem.W.Frag) (tl : TE) : TI := fun σ H R => tl σ H fun x H1 => ∃ a, x = .ref a ∧ (∃ xs, SqL K H1 a xs) ∧ R (Itl K a) H1
def iTup (K : PySem.W.Frag) (tl : TE) : TI := fun σ H R => tl σ H fun x H1 => ∃ a, x = .ref a ∧ (∃ xs, SqT K H1 a xs) ∧ R (Itt K a) H1
theorem pi_list {l : Expr} {tl : TE} (hl : PE X l tl) : PI X tg l (iList X.K tl) := by
  intro pins s σ H R I h
  refine thn (hl pins s σ H _ I h) fun v s1 ⟨x, H1, I1, r1, q1⟩ => ?_
  obtain ⟨a, e, ⟨xs, hq⟩, q⟩ := q1
  subst e
  cases r1
  obtain ⟨its, rv, p, hz⟩ := I1.list hq
  refine wpAny_pyIter_list p.isList ?_
  refine ⟨s1.heap.objs.size, [s1.heap.objs.size], _, _, H1, rfl, I1.kept (t' := s1.toks) fun b o e => Heap.get?_push_of_some _ e, turn_list a _, ⟨_, Heap.get?_push_size _ rfl, rfl, rfl⟩, fun b hb => ?_, q⟩
  have e : b = s1.heap.objs.size := by simpa using hb
  subst e
  exact I1.fpOk (Nat.le_refl _) (I1.hok.fresh (Nat.le_refl _))
theorem pi_tup {l : Expr} {tl : TE} (hl : PE X l tl) : PI X tg l (iTup X.K tl) := by
  intro pins s σ H R I h
  refine thn (hl pins s σ H _ I h) fun v s1 ⟨x, H1, I1, r1, q1⟩ => ?_
  obtain ⟨a, e, ⟨xs, hq⟩, q⟩ := q1
  subst e
  cases r1
  obtain ⟨its, rv, p, hz⟩ := I1.tuple hq
  refine wpAny_pyIter_tuple (show s1.heap.IsTuple a its.toArray from p) ?_
  refine ⟨s1.heap.objs.size, [s1.heap.objs.size], _, _, H1, rfl, I1.kept (t' := s1.toks) fun b o e => Heap.get?_push_of_some _ e, turn_tuple a _, ⟨_, Heap.get?_push_size _ rfl, rfl, rfl⟩, fun b hb => ?_, q⟩
  have e : b = s1.heap.objs.size := by simpa using hb
  subst e
  exact I1.fpOk (Nat.le_refl _) (I1.hok.fresh (Nat.le_refl _))
/-- a range object just made, walked -/
theorem range_it {pins : List (Addr × Obj)} {σ : St} {H : Hp} {s : Shared} {R : It → Hp → Prop} {E : Value → Shared → Prop} {lo hi : Int} {t u v : Tok} {tk : Nat} (I : Inv X pins σ H s) (h1 : -(2 ^ 62) ≤ lo) (h2 : lo < 2 ^ 62) (h3 : -(2 ^ 62) ≤ hi) (h4 : hi < 2 ^ 62)
    (q : R (Itr lo (hi - lo).toNat) H) : wpAny (model X.prog X.w) X.A (pyIter (.ref s.heap.objs.size)) (PIE X pins σ tg R) E { s with heap := s.heap.push { cls := .type "range", data := .fields #[.int lo t, .int hi u, .int 1 v] }, toks := tk } := by
  refine wpAny_pyIter_range (IsRange.new ..) (small_one h1 h2 h3 h4) ?_
  have I1 : Inv X pins σ H { s with heap := s.heap.push { cls := .type "range", data := .fields #[.int lo t, .int hi u, .int 1 v] }, toks := tk } := I.kept fun b o e => Heap.get?_push_of_some _ e
  refine ⟨(s.heap.push { cls := .type "range", data := .fields #[.int lo t, .int hi u, .int 1 v] }).objs.size, [(s.heap.push { cls := .type "range", data := .fields #[.int lo t, .int hi u, .int 1 v] }).objs.size], _, _, H, rfl,
    I1.kept (t' := tk) fun b o e => Heap.get?_push_of_some _ e, turn_range _ lo (hi - lo).toNat, ?_, fun b hb => ?_, q⟩
  · have e1 : lo + ((0 : Nat) : Int) * 1 = lo := by simp
    have e2 : (((hi - lo).toNat : Nat) : Int) - ((0 : Nat) : Int) = Builtin.Range.rangeSize lo hi 1 := by rw [rangeSize_one]; split <;> omega
    show IsRangeIter _ _ (lo + ((0 : Nat) : Int) * 1) ((((hi - lo).toNat : Nat) : Int) - ((0 : Nat) : Int)) 1
    rw [e1, e2]
    exact Heap.get?_push_size _ rfl
  · have e : b = (s.heap.push { cls := .type "range", data := .fields #[.int lo t, .int hi u, .int 1 v] }).objs.size := by simpa using hb
    subst e
    exact I1.fpOk (Nat.le_refl _) (I1.hok.fresh (Nat.le_refl _))
def iRng1 (ta : TA) : TI := fun σ H R => ta σ H fun vs H1 => ∃ j : Int, vs = [.int j] ∧ -(2 ^ 62) ≤ j ∧ j < 2 ^ 62 ∧ R (Itr 0 j.toNat) H1
def iRng2 (ta : TA) : TI := fun σ H R => ta σ H fun vs H1 => ∃ i j : Int, vs = [.int i, .int j] ∧ (-(2 ^ 62) ≤ i ∧ i < 2 ^ 62 ∧ -(2 ^ 62) ≤ j ∧ j < 2 ^ 62) ∧ R (Itr i (j - i).toNat) H1
theorem pi_range1 {a : Expr} {ta : TA} {p pos : Pos} (hg : Gl X "range") (hm : X.mg "range" = none) (ha : PA X [a] ta) (hs : starEach [a] X.env = [(false, eval a X.env)] := by rfl) : PI X tg (.Call (.Name "range" p) [a] [] pos) (iRng1 ta) := by
  intro pins s σ H R I h
  refine Call_ (ld_blt I hg hm boot_range (PyProof.Rows.callWith_type1 (thn (ha pos pins s σ H _ I h) fun us s1 ⟨vs, H1, I1, r1, q1⟩ => ?_) hs rfl))
  obtain ⟨j, e, q1, q2, q⟩ := q1
  subst e
  cases r1 with
  | cons r rr =>
    cases rr
    obtain ⟨t, rfl⟩ := r
    exact call_range_1 (range_it I1 (by omega) (by omega) q1 q2 (by simpa using q))
theorem pi_range2 {a b : Expr} {ta : TA} {p pos : Pos} (hg : Gl X "range") (hm : X.mg "range" = none) (ha : PA X [a, b] ta) (hs : starEach [a, b] X.env = [(false, eval a X.env), (false, eval b X.env)] := by rfl) (hs2 : starEach [b] X.env = [(false, eval b X.env)] := by rfl) :
    PI X tg (.Call (.Name "range" p) [a, b] [] pos) (iRng2 ta) := by
  intro pins s σ H R I h
  refine Call_ (ld_blt I hg hm boot_range (PyProof.Rows.callWith_type1 (thn (ha pos pins s σ H _ I h) fun us s1 ⟨vs, H1, I1, r1, q1⟩ => ?_) (by rw [hs, hs2]) (by rw [hs2]; rfl)))
  obtain ⟨i, j, e, ⟨q1, q2, q3, q4⟩, q⟩ := q1
  subst e
  cases r1 with
  | cons r rr =>
    cases rr with
    | cons r' rr =>
      cases rr
      obtain ⟨t, rfl⟩ := r
      obtain ⟨t', rfl⟩ := r'
      exact call_range_2 (range_it I1 q1 q2 q3 q4 q)

/-! ### for -/
/-- W: the invariant by the turn and a measure; N: what the body is to reach -/
def tFor (wi : TI) (g : TG) (tb : TS) : TS := fun D σ H => wi σ H fun J H1 => ∃ W : Nat → Nat → St → Hp → Prop, (∃ m, W 0 m σ H1) ∧ ∀ i m σ H, W i m σ H →
  (J.stop i H ∧ D.nx σ H) ∨ (J.go i H ∧ ∃ N : St → Hp → Prop, (∀ σ' H', N σ' H' → ∃ m', m' < m ∧ W (i + 1) m' σ' H') ∧ ∀ x H', J.yld i H x H' → g x σ H' fun σ2 H2 => tb { D with nx := N, ct := N, bk := D.nx } σ2 H2)
/-- the records at fp as they stand -/
def pinsAt (fp : List Addr) (h : Heap) : List (Addr × Obj) := fp.filterMap fun b => (h.get? b).map fun o => (b, o)
theorem mem_pinsAt {fp : List Addr} {h : Heap} {b : Addr} {o : Obj} (hb : b ∈ fp) (e : h.get? b = some o) : (b, o) ∈ pinsAt fp h := List.mem_filterMap.mpr ⟨b, hb, by rw [e]; rfl⟩
theorem of_pinsAt {fp : List Addr} {h : Heap} {p : Addr × Obj} (hp : p ∈ pinsAt fp h) : p.1 ∈ fp ∧ h.get? p.1 = some p.2 := by
  obtain ⟨b, hb, e⟩ := List.mem_filterMap.mp hp
  cases q : h.get? b with
  | none => rw [q] at e; cases e
  | some o =>
    rw [q] at e
    have e' : (b, o) = p := Option.some.inj e
    subst e'
    exact ⟨hb, q⟩
theorem Inv.pinned {pins : List (Addr × Obj)} {σ : St} {H : Hp} {s : Shared} {fp : List Addr} (I : Inv X pins σ H s) (hf : ∀ b ∈ fp, FpOk X pins H b) (ho : ∀ b ∈ fp, ∃ o, s.heap.get? b = some o ∧ ∀ v, o.data ≠ .cell v) : Inv X (pins ++ pinsAt fp s.heap) σ H s :=
  I.pins_of fun p hp => (List.mem_append.mp hp).elim (fun z => I.pin p (List.mem_append_right _ z)) fun z => by
    obtain ⟨hb, e⟩ := of_pinsAt z
    obtain ⟨f0, f1, f2, _⟩ := hf p.1 hb
    obtain ⟨o, e', d⟩ := ho p.1 hb
    rw [e] at e'; cases e'
    exact ⟨e, f0, f1, f2, d⟩
theorem Inv.unpinned {pins pl : List (Addr × Obj)} {σ : St} {H : Hp} {s : Shared} (I : Inv X (pins ++ pl) σ H s) : Inv X pins σ H s := I.pins_of fun p hp => I.pin p (List.mem_append_right _ (List.mem_append_left _ hp))
theorem ps_for {iter : Expr} {body : List Stmt} {wi : TI} {g : TG} {tb : TS} {pos : Pos} (hp : PassesOwn (model X.prog X.w) X.A X.env X.xe) (hc : X.calm = true) (hi : PI X tg iter wi) (hg : PG X tg g) (hb : PSs X body tb)
    (hs : ∀ x, foldedSetIterable iter X.env x = pure x := by intro _; rfl) : PS X (.For tg iter body [] pos) (tFor wi g tb) := by
  intro pins s σ H D I h
  refine wpAny_For (thn (hi pins s σ H _ I h) fun v s1 h1 => thn h1 fun itv s2 h2 => ?_) hs
  obtain ⟨it, fp, tn, J, H2, e, I2, T, st2, f2, W, ⟨m0, w0⟩, turn⟩ := h2
  subst e
  -- what stays true of the iterator's objects through the loop
  have stat : ∀ {H' : Hp}, (∀ b ∈ fp, H' b = none) → ∀ b ∈ fp, FpOk X pins H' b := fun hn b hb => ⟨hn b hb, (f2 b hb).2⟩
  refine codeAny_forLoop_any (fun n s' => ∃ i σ' H', Inv X pins σ' H' s' ∧ tn i s'.heap ∧ (∀ b ∈ fp, H' b = none) ∧ W i n σ' H') ?_ m0 ⟨0, σ, H2, I2, st2, fun b hb => (f2 b hb).1, w0⟩
  rintro n s3 ⟨i, σ3, H3, I3, st3, fr3, w3⟩
  rcases turn i n σ3 H3 w3 with ⟨stop, qn⟩ | ⟨go, N, hN, step⟩
  · refine wpAny_passesOwn hp (thn (T.done X rfl rfl rfl hc i pins s3 σ3 H3 X.xe I3 (stat fr3) st3 stop) fun r s4 ⟨hr, I4⟩ => ?_)
    subst hr
    exact wpAny_execs_nil ⟨σ3, H3, I4, qn⟩
  · refine wpAny_passesOwn hp (thn (T.item X rfl rfl rfl hc i pins s3 σ3 H3 X.xe I3 (stat fr3) st3 go) fun r s4 ⟨u, hr, h4⟩ => ?_)
    subst hr
    refine wpAny_passesOwn hp (thn h4 fun _ s5 ⟨x, H5, I5, r5, y5, st5, fr5⟩ => ?_)
    have I5' := I5.pinned (stat fr5) (T.obj _ _ st5)
    refine wpAny_passesOwn hp (thn (hg _ s5 σ3 H5 x u _ I5' r5 (step x H5 y5)) fun _ s6 ⟨σ6, H6, I6, q6⟩ => ?_)
    refine wpAny_passesOwn hp (thn (hb _ s6 σ6 H6 _ I6 q6) fun f s7 q7 => ?_)
    have again : ∀ {σ7 : St} {H7 : Hp}, Inv X (pins ++ pinsAt fp s5.heap) σ7 H7 s7 → N σ7 H7 → ∃ m, m < n ∧ ∃ i σ' H', Inv X pins σ' H' s7 ∧ tn i s7.heap ∧ (∀ b ∈ fp, H' b = none) ∧ W i m σ' H' := fun {σ7 H7} I7 n7 => by
      obtain ⟨m', hm, w7⟩ := hN σ7 H7 n7
      refine ⟨m', hm, i + 1, σ7, H7, I7.unpinned, T.keep _ _ _ st5 fun b hb o e => (I7.pin (b, o) (List.mem_append_right _ (List.mem_append_right _ (mem_pinsAt hb e)))).1, fun b hb => ?_, w7⟩
      obtain ⟨o, e, d⟩ := T.obj _ _ st5 b hb
      exact (I7.pin (b, o) (List.mem_append_right _ (List.mem_append_right _ (mem_pinsAt hb e)))).2.1
    cases f with
    | next => obtain ⟨σ7, H7, I7, n7⟩ := q7; exact again I7 n7
    | cont => obtain ⟨σ7, H7, I7, n7⟩ := q7; exact again I7 n7
    | brk => obtain ⟨σ7, H7, I7, q7⟩ := q7; exact ⟨σ7, H7, I7.unpinned, q7⟩
    | ret v => obtain ⟨x7, σ7, H7, I7, r7, q7⟩ := q7; exact ⟨x7, σ7, H7, I7.unpinned, r7, q7⟩
end

/-! ### the forms one uses -/
/-- over a list that the body leaves as it is -/
theorem for_list {K : PySem.W.Frag} {a : Addr} {xs : List V} {g : TG} {tb : TS} {D : Ends} {σ : St} {H : Hp} (Pv : Nat → St → Hp → Prop) (h0 : Pv 0 σ H) (hl : ∀ i σ H, i ≤ xs.length → Pv i σ H → SqL K H a xs)
    (hs : ∀ i x σ H, xs[i]? = some x → Pv i σ H → g x σ H fun σ2 H2 => tb { D with nx := Pv (i + 1), ct := Pv (i + 1), bk := D.nx } σ2 H2) (hd : ∀ σ H, Pv xs.length σ H → D.nx σ H) :
    ∃ W : Nat → Nat → St → Hp → Prop, (∃ m, W 0 m σ H) ∧ ∀ i m σ H, W i m σ H →
      ((Itl K a).stop i H ∧ D.nx σ H) ∨ ((Itl K a).go i H ∧ ∃ N : St → Hp → Prop, (∀ σ' H', N σ' H' → ∃ m', m' < m ∧ W (i + 1) m' σ' H') ∧ ∀ x H', (Itl K a).yld i H x H' → g x σ H' fun σ2 H2 => tb { D with nx := N, ct := N, bk := D.nx } σ2 H2) := by
  refine ⟨fun i m σ H => m = xs.length - i ∧ i ≤ xs.length ∧ Pv i σ H, ⟨xs.length, by simp, Nat.zero_le _, h0⟩, ?_⟩
  rintro i m σ H ⟨rfl, hi, p⟩
  have q := hl i σ H hi p
  by_cases hlt : i < xs.length
  · refine .inr ⟨⟨xs, xs[i], q, by simp [hlt]⟩, Pv (i + 1), fun σ' H' p' => ⟨xs.length - (i + 1), by omega, rfl, hlt, p'⟩, fun x H' y => ?_⟩
    obtain ⟨e, y⟩ := y
    subst e
    exact hs i x σ _ (y xs q) p
  · have e : i = xs.length := by omega
    subst e
    exact .inl ⟨⟨xs, q, Nat.le_refl _⟩, hd σ H p⟩
theorem for_tup {K : PySem.W.Frag} {a : Addr} {xs : List V} {g : TG} {tb : TS} {D : Ends} {σ : St} {H : Hp} (Pv : Nat → St → Hp → Prop) (h0 : Pv 0 σ H) (hl : ∀ i σ H, i ≤ xs.length → Pv i σ H → SqT K H a xs)
    (hs : ∀ i x σ H, xs[i]? = some x → Pv i σ H → g x σ H fun σ2 H2 => tb { D with nx := Pv (i + 1), ct := Pv (i + 1), bk := D.nx } σ2 H2) (hd : ∀ σ H, Pv xs.length σ H → D.nx σ H) :
    ∃ W : Nat → Nat → St → Hp → Prop, (∃ m, W 0 m σ H) ∧ ∀ i m σ H, W i m σ H →
      ((Itt K a).stop i H ∧ D.nx σ H) ∨ ((Itt K a).go i H ∧ ∃ N : St → Hp → Prop, (∀ σ' H', N σ' H' → ∃ m', m' < m ∧ W (i + 1) m' σ' H') ∧ ∀ x H', (Itt K a).yld i H x H' → g x σ H' fun σ2 H2 => tb { D with nx := N, ct := N, bk := D.nx } σ2 H2) := by
  refine ⟨fun i m σ H => m = xs.length - i ∧ i ≤ xs.length ∧ Pv i σ H, ⟨xs.length, by simp, Nat.zero_le _, h0⟩, ?_⟩
  rintro i m σ H ⟨rfl, hi, p⟩
  have q := hl i σ H hi p
  by_cases hlt : i < xs.length
  · refine .inr ⟨⟨xs, xs[i], q, by simp [hlt]⟩, Pv (i + 1), fun σ' H' p' => ⟨xs.length - (i + 1), by omega, rfl, hlt, p'⟩, fun x H' y => ?_⟩
    obtain ⟨e, y⟩ := y
    subst e
    exact hs i x σ _ (y xs q) p
  · have e : i = xs.length := by omega
    subst e
    exact .inl ⟨⟨xs, q, Nat.le_refl _⟩, hd σ H p⟩
theorem for_range {lo : Int} {n : Nat} {g : TG} {tb : TS} {D : Ends} {σ : St} {H : Hp} (Pv : Nat → St → Hp → Prop) (h0 : Pv 0 σ H)
    (hs : ∀ i σ H, i < n → Pv i σ H → g (.int (lo + i)) σ H fun σ2 H2 => tb { D with nx := Pv (i + 1), ct := Pv (i + 1), bk := D.nx } σ2 H2) (hd : ∀ σ H, Pv n σ H → D.nx σ H) :
    ∃ W : Nat → Nat → St → Hp → Prop, (∃ m, W 0 m σ H) ∧ ∀ i m σ H, W i m σ H →
      ((Itr lo n).stop i H ∧ D.nx σ H) ∨ ((Itr lo n).go i H ∧ ∃ N : St → Hp → Prop, (∀ σ' H', N σ' H' → ∃ m', m' < m ∧ W (i + 1) m' σ' H') ∧ ∀ x H', (Itr lo n).yld i H x H' → g x σ H' fun σ2 H2 => tb { D with nx := N, ct := N, bk := D.nx } σ2 H2) := by
  refine ⟨fun i m σ H => m = n - i ∧ i ≤ n ∧ Pv i σ H, ⟨n, by simp, Nat.zero_le _, h0⟩, ?_⟩
  rintro i m σ H ⟨rfl, hi, p⟩
  by_cases hlt : i < n
  · refine .inr ⟨hlt, Pv (i + 1), fun σ' H' p' => ⟨n - (i + 1), by omega, rfl, hlt, p'⟩, fun x H' y => ?_⟩
    obtain ⟨e, y⟩ := y
    subst e y
    exact hs i σ _ hlt p
  · have e : i = n := by omega
    subst e
    exact .inl ⟨Nat.le_refl _, hd σ H p⟩
/-- while, by a word and a measure of the state -/
theorem while_by {c : TT} {tb : TS} {D : Ends} {σ : St} {H : Hp} (Pv : St → Hp → Prop) (μ : St → Hp → Nat) (h0 : Pv σ H)
    (hs : ∀ σ H, Pv σ H → c σ H fun b H1 => if b = true then tb { D with nx := fun σ' H' => Pv σ' H' ∧ μ σ' H' < μ σ H, ct := fun σ' H' => Pv σ' H' ∧ μ σ' H' < μ σ H, bk := D.nx } σ H1 else D.nx σ H1)
    (mono : ∀ σ H Q Q', (∀ b H1, Q b H1 → Q' b H1) → c σ H Q → c σ H Q') : tWhile c tb D σ H := by
  refine ⟨fun m σ H => m = μ σ H ∧ Pv σ H, ⟨_, rfl, h0⟩, ?_⟩
  rintro m σ H ⟨rfl, p⟩
  refine mono σ H _ _ (fun b H1 q => ?_) (hs σ H p)
  cases b with
  | true => exact ⟨_, fun σ' H' ⟨p', l⟩ => ⟨_, l, rfl, p'⟩, q⟩
  | false => exact q
end L2

namespace L2
open PySem PySem.Spec PyProof.Rows

abbrev R2 := V → V → Hp → VK → Prop
/-- a two-place operation on values: f is binaryOp op, inplaceOp op or compareOp op -/
def OpR (X : Cx) (f : Value → Value → Sem Value) (r : R2) : Prop :=
  ∀ (pins : List (Addr × Obj)) (s : Shared) (σ : St) (H : Hp) (x y : V) (v u : Value) (Q : VK), Inv X pins σ H s → RelV x v → RelV y u → r x y H Q →
    wpAny (model X.prog X.w) X.A (f v u) (EP X pins σ Q) X.xe s
/-- a one-place operation -/
def UnR (X : Cx) (f : Value → Sem Value) (r : V → Hp → VK → Prop) : Prop :=
  ∀ (pins : List (Addr × Obj)) (s : Shared) (σ : St) (H : Hp) (x : V) (v : Value) (Q : VK), Inv X pins σ H s → RelV x v → r x H Q →
    wpAny (model X.prog X.w) X.A (f v) (EP X pins σ Q) X.xe s
/-- a call of a value that is known (a builtin, a type) with values -/
def CallR (X : Cx) (f : Value) (r : List V → Hp → VK → Prop) : Prop :=
  ∀ (pins : List (Addr × Obj)) (s : Shared) (σ : St) (H : Hp) (xs : List V) (us : List Value) (Q : VK), Inv X pins σ H s → Vals xs us → r xs H Q →
    wpAny (model X.prog X.w) X.A (call f us) (EP X pins σ Q) X.xe s
/-- a value's truth -/
def TruR (X : Cx) (r : V → Hp → (Bool → Hp → Prop) → Prop) : Prop :=
  ∀ (pins : List (Addr × Obj)) (s : Shared) (σ : St) (H : Hp) (x : V) (v : Value) (Q : Bool → Hp → Prop), Inv X pins σ H s → RelV x v → r x H Q →
    wpAny (model X.prog X.w) X.A (truthy v) (TP X pins σ Q) X.xe s

def tOp (r : R2) (ta tb : TE) : TE := fun σ H Q => ta σ H fun x H1 => tb σ H1 fun y H2 => r x y H2 Q
def tUn (r : V → Hp → VK → Prop) (ta : TE) : TE := fun σ H Q => ta σ H fun x H1 => r x H1 Q
/-- ints in, under C, and a value out -/
def rI (C : Int → Int → Prop) (g : Int → Int → V) : R2 := fun x y H Q => ∃ i j, x = .int i ∧ y = .int j ∧ C i j ∧ Q (g i j) H
def rI0 (g : Int → Int → V) : R2 := fun x y H Q => ∃ i j, x = .int i ∧ y = .int j ∧ Q (g i j) H
def rU (g : Int → V) : V → Hp → VK → Prop := fun x H Q => ∃ i, x = .int i ∧ Q (g i) H

section
variable {X : Cx} {a b c : Expr} {ta tb tc : TE} {pos : Pos}

theorem binT (ha : PE X a ta) (hb : PE X b tb) {pins : List (Addr × Obj)} {s : Shared} {σ : St} {H : Hp} {R : V → V → Hp → Prop} (I : Inv X pins σ H s)
    (h : ta σ H fun x H1 => tb σ H1 fun y H2 => R x y H2) {Q : Value → Shared → Prop} {f : Value → Value → Sem Value}
    (hf : ∀ v u s2 x y H2, Inv X pins σ H2 s2 → RelV x v → RelV y u → R x y H2 → wpAny (model X.prog X.w) X.A (f v u) Q X.xe s2) :
    wpAny (model X.prog X.w) X.A (eval a X.env) (fun v s₁ => wpAny (model X.prog X.w) X.A (eval b X.env) (fun u s₂ => wpAny (model X.prog X.w) X.A (f v u) Q X.xe s₂) X.xe s₁) X.xe s := by
  refine thn (ha pins s σ H _ I h) fun v s1 ⟨x, H1, I1, r1, q1⟩ => ?_
  refine thn (hb pins s1 σ H1 _ I1 q1) fun u s2 ⟨y, H2, I2, r2, q2⟩ => ?_
  exact hf v u s2 x y H2 I2 r1 r2 q2

theorem pe_op {op : Operator} {r : R2} (ho : OpR X (binaryOp op) r) (ha : PE X a ta) (hb : PE X b tb) : PE X (.BinOp a op b pos) (tOp r ta tb) := by
  intro pins s σ H Q I h
  exact wpAny_BinOp (binT ha hb I h fun v u s2 x y H2 I2 rx ry q => ho pins s2 σ H2 x y v u Q I2 rx ry q)
theorem pe_un {op : UnaryOp} {r : V → Hp → VK → Prop} (ho : UnR X (unaryOp op) r) (ha : PE X a ta) : PE X (.UnaryOp op a pos) (tUn r ta) := by
  intro pins s σ H Q I h
  exact UnaryOp_ (thn (ha pins s σ H _ I h) fun v s1 ⟨x, H1, I1, r1, q1⟩ => ho pins s1 σ H1 x v Q I1 r1 q1)
/-- a op= e at a name: the name's slot i -/
theorem augR {op : Operator} {r : R2} (ho : OpR X (inplaceOp op) r) {pins : List (Addr × Obj)} {s : Shared} {σ : St} {H : Hp} {x y : V} {v u : Value} {Q : VK} (I : Inv X pins σ H s)
    (rx : RelV x v) (ry : RelV y u) (q : r x y H Q) : wpAny (model X.prog X.w) X.A (inplaceOp op v u) (EP X pins σ Q) X.xe s := ho pins s σ H x y v u Q I rx ry q

/-! ### ints -/
theorem opI {f : Value → Value → Sem Value} {C : Int → Int → Prop} {g : Int → Int → Int}
    (rule : ∀ (i j : Int) (t u : Tok) (s : Shared) (Q : Value → Shared → Prop) (E : Value → Shared → Prop), C i j → Q (.int (g i j) s.toks) { s with toks := s.toks + 1 } → wpAny (model X.prog X.w) X.A (f (.int i t) (.int j u)) Q E s) :
    OpR X f (rI C fun i j => .int (g i j)) := by
  intro pins s σ H x y v u Q I rx ry h
  obtain ⟨i, j, rfl, rfl, hc, q⟩ := h
  obtain ⟨t, rfl⟩ := rx
  obtain ⟨t', rfl⟩ := ry
  exact rule i j t t' s _ _ hc ⟨.int (g i j), H, I.tok _, ⟨_, rfl⟩, q⟩
theorem opI0 {f : Value → Value → Sem Value} {g : Int → Int → Int}
    (rule : ∀ (i j : Int) (t u : Tok) (s : Shared) (Q : Value → Shared → Prop) (E : Value → Shared → Prop), Q (.int (g i j) s.toks) { s with toks := s.toks + 1 } → wpAny (model X.prog X.w) X.A (f (.int i t) (.int j u)) Q E s) :
    OpR X f (rI0 fun i j => .int (g i j)) := by
  intro pins s σ H x y v u Q I rx ry h
  obtain ⟨i, j, rfl, rfl, q⟩ := h
  obtain ⟨t, rfl⟩ := rx
  obtain ⟨t', rfl⟩ := ry
  exact rule i j t t' s _ _ ⟨.int (g i j), H, I.tok _, ⟨_, rfl⟩, q⟩
theorem opB0 {f : Value → Value → Sem Value} {g : Int → Int → Bool}
    (rule : ∀ (i j : Int) (t u : Tok) (s : Shared) (Q : Value → Shared → Prop) (E : Value → Shared → Prop), Q (.bool (g i j)) s → wpAny (model X.prog X.w) X.A (f (.int i t) (.int j u)) Q E s) :
    OpR X f (rI0 fun i j => .bl (g i j)) := by
  intro pins s σ H x y v u Q I rx ry h
  obtain ⟨i, j, rfl, rfl, q⟩ := h
  obtain ⟨t, rfl⟩ := rx
  obtain ⟨t', rfl⟩ := ry
  exact rule i j t t' s _ _ ⟨.bl (g i j), H, I, rfl, q⟩

def CDiv (i j : Int) : Prop := 0 < j ∧ j < 1073741824
def CDivN (i j : Int) : Prop := j ≠ 0 ∧ j.natAbs < 1073741824
def CPow (i j : Int) : Prop := 0 ≤ j ∧ j ≤ 1000000 ∧ i.natAbs < 2 ^ 64
def CMul (i j : Int) : Prop := (-(2 ^ 64) < i ∧ i < 2 ^ 64) ∨ (-(2 ^ 64) < j ∧ j < 2 ^ 64)
theorem CMul.ok {i j : Int} (h : CMul i j) : IntMulOk i j := by
  rcases h with ⟨h1, h2⟩ | ⟨h1, h2⟩
  · exact .of_left (intBits_le_64 h1 h2)
  · exact .of_right (intBits_le_64 h1 h2)
theorem two_pow_nn (k : Nat) : (0 : Int) ≤ 2 ^ k := by
  rw [two_pow_cast]
  exact Int.natCast_nonneg _

theorem op_add : OpR X (binaryOp .Add) (rI0 fun i j => .int (i + j)) := opI0 fun _ _ _ _ _ _ _ q => add_int q
theorem op_sub : OpR X (binaryOp .Sub) (rI0 fun i j => .int (i - j)) := opI0 fun _ _ _ _ _ _ _ q => sub_int q
theorem op_mul : OpR X (binaryOp .Mult) (rI CMul fun i j => .int (i * j)) := opI fun _ _ _ _ _ _ _ hc q => mul_int q hc.ok
/-- // by a positive divisor -/
theorem op_fdiv : OpR X (binaryOp .FloorDiv) (rI CDiv fun i j => .int (i / j)) := opI fun i j _ _ _ _ _ hc q => by
  have h1 : (0 : Int) < j := hc.1
  have h2 : j < 1073741824 := hc.2
  exact floordiv_int (by omega) (by rw [Int.fdiv_eq_ediv_of_nonneg i (by omega)]; exact q) (.inl (PyProof.noPylong_small (by omega)))
theorem op_fdivN : OpR X (binaryOp .FloorDiv) (rI CDivN fun i j => .int (i.fdiv j)) := opI fun _ _ _ _ _ _ _ hc q => floordiv_int hc.1 q (.inl (PyProof.noPylong_small hc.2))
/-- % by a positive divisor of any size -/
theorem op_mod : OpR X (binaryOp .Mod) (rI (fun _ j => 0 < j) fun i j => .int (i % j)) := opI fun i j _ _ _ _ _ hc q => by
  have h1 : (0 : Int) < j := hc
  exact mod_int' (by omega) (by rw [Int.fmod_eq_emod_of_nonneg i (by omega)]; exact q)
theorem op_modN : OpR X (binaryOp .Mod) (rI (fun _ j => j ≠ 0) fun i j => .int (i.fmod j)) := opI fun _ _ _ _ _ _ _ hc q => mod_int' hc q
theorem op_pow : OpR X (binaryOp .Pow) (rI CPow fun i j => .int (i ^ j.toNat)) := opI fun _ _ _ _ _ _ _ hc q => pow_int_small hc.1 hc.2.1 hc.2.2 q
theorem op_shl : OpR X (binaryOp .LShift) (rI CPow fun i j => .int (i * 2 ^ j.toNat)) := opI fun _ _ _ _ _ _ _ hc q => lshift_int_small hc.1 hc.2.1 hc.2.2 q
theorem op_shr : OpR X (binaryOp .RShift) (rI (fun _ j => 0 ≤ j) fun i j => .int (i / 2 ^ j.toNat)) := opI fun i j _ _ _ _ _ hc q =>
  rshift_int hc (by rw [Int.fdiv_eq_ediv_of_nonneg i (two_pow_nn _)]; exact q)
theorem op_and : OpR X (binaryOp .BitAnd) (rI0 fun i j => .int (Builtin.bitAnd i j)) := opI0 fun _ _ _ _ _ _ _ q => and_int q
theorem op_or : OpR X (binaryOp .BitOr) (rI0 fun i j => .int (Builtin.bitOr i j)) := opI0 fun _ _ _ _ _ _ _ q => or_int q
theorem op_xor : OpR X (binaryOp .BitXor) (rI0 fun i j => .int (Builtin.bitXor i j)) := opI0 fun _ _ _ _ _ _ _ q => xor_int q

theorem iop_add : OpR X (inplaceOp .Add) (rI0 fun i j => .int (i + j)) := opI0 fun _ _ _ _ _ _ _ q => iadd_int q
theorem iop_sub : OpR X (inplaceOp .Sub) (rI0 fun i j => .int (i - j)) := opI0 fun _ _ _ _ _ _ _ q => isub_int q
theorem iop_mul : OpR X (inplaceOp .Mult) (rI CMul fun i j => .int (i * j)) := opI fun _ _ _ _ _ _ _ hc q => imul_int q hc.ok
theorem iop_fdiv : OpR X (inplaceOp .FloorDiv) (rI CDiv fun i j => .int (i / j)) := opI fun i j _ _ _ _ _ hc q => by
  have h1 : (0 : Int) < j := hc.1
  have h2 : j < 1073741824 := hc.2
  exact ifloordiv_int (by omega) (by rw [Int.fdiv_eq_ediv_of_nonneg i (by omega)]; exact q) (.inl (PyProof.noPylong_small (by omega)))
theorem iop_mod : OpR X (inplaceOp .Mod) (rI (fun _ j => 0 < j) fun i j => .int (i % j)) := opI fun i j _ _ _ _ _ hc q => by
  have h1 : (0 : Int) < j := hc
  exact imod_int (by omega) (by rw [Int.fmod_eq_emod_of_nonneg i (by omega)]; exact q)
theorem iop_shl : OpR X (inplaceOp .LShift) (rI CPow fun i j => .int (i * 2 ^ j.toNat)) := opI fun _ _ _ _ _ _ _ hc q => ilshift_int_small hc.1 hc.2.1 hc.2.2 q
theorem iop_shr : OpR X (inplaceOp .RShift) (rI (fun _ j => 0 ≤ j) fun i j => .int (i / 2 ^ j.toNat)) := opI fun i j _ _ _ _ _ hc q =>
  irshift_int hc (by rw [Int.fdiv_eq_ediv_of_nonneg i (two_pow_nn _)]; exact q)
theorem iop_and : OpR X (inplaceOp .BitAnd) (rI0 fun i j => .int (Builtin.bitAnd i j)) := opI0 fun _ _ _ _ _ _ _ q => iand_int q
theorem iop_or : OpR X (inplaceOp .BitOr) (rI0 fun i j => .int (Builtin.bitOr i j)) := opI0 fun _ _ _ _ _ _ _ q => ior_int q
theorem iop_xor : OpR X (inplaceOp .BitXor) (rI0 fun i j => .int (Builtin.bitXor i j)) := opI0 fun _ _ _ _ _ _ _ q => ixor_int q

theorem unI {f : Value → Sem Value} {g : Int → Int}
    (rule : ∀ (i : Int) (t : Tok) (s : Shared) (Q : Value → Shared → Prop) (E : Value → Shared → Prop), Q (.int (g i) s.toks) { s with toks := s.toks + 1 } → wpAny (model X.prog X.w) X.A (f (.int i t)) Q E s) :
    UnR X f (rU fun i => .int (g i)) := by
  intro pins s σ H x v Q I rx h
  obtain ⟨i, rfl, q⟩ := h
  obtain ⟨t, rfl⟩ := rx
  exact rule i t s _ _ ⟨.int (g i), H, I.tok _, ⟨_, rfl⟩, q⟩
theorem un_neg : UnR X (unaryOp .USub) (rU fun i => .int (-i)) := unI fun _ _ _ _ _ q => neg_int q
theorem un_inv : UnR X (unaryOp .Invert) (rU fun i => .int (Builtin.bitNot i)) := unI fun _ _ _ _ _ q => invert_int q

/-! ### bools among ints: n += (a < b) -/
theorem op_add_ib : OpR X (binaryOp .Add) (fun x y H Q => ∃ i k, x = .int i ∧ y = .bl k ∧ Q (.int (i + b2i k)) H) := by
  intro pins s σ H x y v u Q I rx ry h
  obtain ⟨i, k, rfl, rfl, q⟩ := h
  obtain ⟨t, rfl⟩ := rx
  cases ry
  exact add_int_bool ⟨.int (i + b2i k), H, I.tok _, ⟨_, rfl⟩, q⟩
end

/-! ### comparisons -/
/-- the scalars that == tells apart as data does -/
def scal : V → V → Bool
  | .non, .non => true | .non, .int _ => true | .int _, .non => true | .non, .bl _ => true | .bl _, .non => true | .non, .str _ => true | .str _, .non => true
  | .int _, .int _ => true | .bl _, .bl _ => true | .str _, .str _ => true | .byt _, .byt _ => true
  | .int _, .str _ => true | .str _, .int _ => true | .bl _, .str _ => true | .str _, .bl _ => true
  | _, _ => false
def rEq : R2 := fun x y H Q => scal x y = true ∧ Q (.bl (decide (x = y))) H
def rNe : R2 := fun x y H Q => scal x y = true ∧ Q (.bl (!decide (x = y))) H

theorem dec_int {i j : Int} : decide (V.int i = V.int j) = (i == j) := by
  rw [Bool.eq_iff_iff]
  simp
theorem dec_bl {i j : Bool} : decide (V.bl i = V.bl j) = (i == j) := by
  rw [Bool.eq_iff_iff]
  simp
theorem dec_str {i j : Str} : decide (V.str i = V.str j) = (i == j) := by
  rw [Bool.eq_iff_iff]
  simp
theorem dec_byt {i j : Array UInt8} : decide (V.byt i = V.byt j) = (i.toList == j.toList) := by
  rw [Bool.eq_iff_iff]
  cases i
  cases j
  simp

section
variable {X : Cx} {a b c : Expr} {ta tb tc : TE} {pos : Pos}
theorem fin_bl {pins : List (Addr × Obj)} {σ : St} {H : Hp} {s : Shared} {Q : VK} {k k' : Bool} (I : Inv X pins σ H s) (q : Q (.bl k) H) (e : k = k') : EP X pins σ Q (.bool k') s := by
  subst e
  exact ⟨.bl k, H, I, rfl, q⟩
theorem op_eq : OpR X (compareOp .Eq) rEq := by
  intro pins s σ H x y v u Q I rx ry h
  obtain ⟨hs, q⟩ := h
  cases x with
  | non =>
    cases rx
    cases y with
    | non => cases ry; exact PySem.EqNone.eq_none_none (fin_bl I q (by simp))
    | bl j => cases ry; exact PySem.EqNone.eq_none_bool (fin_bl I q (by simp))
    | int j => obtain ⟨t', rfl⟩ := ry; exact PySem.EqNone.eq_none_int (fin_bl I q (by simp))
    | str j => obtain ⟨t', rfl⟩ := ry; exact PySem.EqNone.eq_none_str (fin_bl I q (by simp))
    | _ => exact absurd (show false = true from hs) Bool.false_ne_true
  | bl i =>
    cases rx
    cases y with
    | non => cases ry; exact PySem.EqNone.eq_bool_none (fin_bl I q (by simp))
    | bl j => cases ry; exact eq_bool (fin_bl I q dec_bl)
    | str j => obtain ⟨t', rfl⟩ := ry; exact PySem.EqMixed.eq_bool_str (fin_bl I q (by simp))
    | _ => exact absurd (show false = true from hs) Bool.false_ne_true
  | int i =>
    obtain ⟨t, rfl⟩ := rx
    cases y with
    | non => cases ry; exact PySem.EqNone.eq_int_none (fin_bl I q (by simp))
    | int j => obtain ⟨t', rfl⟩ := ry; exact eq_int (fin_bl I q dec_int)
    | str j => obtain ⟨t', rfl⟩ := ry; exact PySem.EqMixed.eq_int_str (fin_bl I q (by simp))
    | _ => exact absurd (show false = true from hs) Bool.false_ne_true
  | str i =>
    obtain ⟨t, rfl⟩ := rx
    cases y with
    | non => cases ry; exact PySem.EqNone.eq_str_none (fin_bl I q (by simp))
    | bl j => cases ry; exact PySem.EqMixed.eq_str_bool (fin_bl I q (by simp))
    | int j => obtain ⟨t', rfl⟩ := ry; exact PySem.EqMixed.eq_str_int (fin_bl I q (by simp))
    | str j => obtain ⟨t', rfl⟩ := ry; exact eq_str (fin_bl I q dec_str)
    | _ => exact absurd (show false = true from hs) Bool.false_ne_true
  | byt i =>
    obtain ⟨t, rfl⟩ := rx
    cases y with
    | byt j => obtain ⟨t', rfl⟩ := ry; exact PySem.W.eq_bytes (fin_bl I q dec_byt)
    | _ => exact absurd (show false = true from hs) Bool.false_ne_true
  | _ => cases y <;> exact absurd (show false = true from hs) Bool.false_ne_true
theorem op_ne : OpR X (compareOp .NotEq) rNe := by
  intro pins s σ H x y v u Q I rx ry h
  obtain ⟨hs, q⟩ := h
  cases x with
  | non =>
    cases rx
    cases y with
    | non => cases ry; exact PySem.EqNone.ne_none_none (fin_bl I q (by simp))
    | bl j => cases ry; exact PySem.EqNone.ne_none_bool (fin_bl I q (by simp))
    | int j => obtain ⟨t', rfl⟩ := ry; exact PySem.EqNone.ne_none_int (fin_bl I q (by simp))
    | str j => obtain ⟨t', rfl⟩ := ry; exact PySem.EqNone.ne_none_str (fin_bl I q (by simp))
    | _ => exact absurd (show false = true from hs) Bool.false_ne_true
  | bl i =>
    cases rx
    cases y with
    | non => cases ry; exact PySem.EqNone.ne_bool_none (fin_bl I q (by simp))
    | bl j => cases ry; exact ne_bool (fin_bl I q (congrArg not dec_bl))
    | str j => obtain ⟨t', rfl⟩ := ry; exact PySem.EqMixed.ne_bool_str (fin_bl I q (by simp))
    | _ => exact absurd (show false = true from hs) Bool.false_ne_true
  | int i =>
    obtain ⟨t, rfl⟩ := rx
    cases y with
    | non => cases ry; exact PySem.EqNone.ne_int_none (fin_bl I q (by simp))
    | int j => obtain ⟨t', rfl⟩ := ry; exact ne_int (fin_bl I q (congrArg not dec_int))
    | str j => obtain ⟨t', rfl⟩ := ry; exact PySem.EqMixed.ne_int_str (fin_bl I q (by simp))
    | _ => exact absurd (show false = true from hs) Bool.false_ne_true
  | str i =>
    obtain ⟨t, rfl⟩ := rx
    cases y with
    | non => cases ry; exact PySem.EqNone.ne_str_none (fin_bl I q (by simp))
    | bl j => cases ry; exact PySem.EqMixed.ne_str_bool (fin_bl I q (by simp))
    | int j => obtain ⟨t', rfl⟩ := ry; exact PySem.EqMixed.ne_str_int (fin_bl I q (by simp))
    | str j => obtain ⟨t', rfl⟩ := ry; exact ne_str (fin_bl I q (congrArg not dec_str))
    | _ => exact absurd (show false = true from hs) Bool.false_ne_true
  | byt i =>
    obtain ⟨t, rfl⟩ := rx
    cases y with
    | byt j => obtain ⟨t', rfl⟩ := ry; exact PySem.W.ne_bytes (fin_bl I q (congrArg not dec_byt))
    | _ => exact absurd (show false = true from hs) Bool.false_ne_true
  | _ => cases y <;> exact absurd (show false = true from hs) Bool.false_ne_true

theorem op_lt : OpR X (compareOp .Lt) (rI0 fun i j => .bl (decide (i < j))) := opB0 fun _ _ _ _ _ _ _ q => lt_int q
theorem op_le : OpR X (compareOp .LtE) (rI0 fun i j => .bl (decide (i ≤ j))) := opB0 fun _ _ _ _ _ _ _ q => le_int q
theorem op_gt : OpR X (compareOp .Gt) (rI0 fun i j => .bl (decide (j < i))) := opB0 fun _ _ _ _ _ _ _ q => gt_int q
theorem op_ge : OpR X (compareOp .GtE) (rI0 fun i j => .bl (decide (j ≤ i))) := opB0 fun _ _ _ _ _ _ _ q => ge_int q
theorem op_lt_str : OpR X (compareOp .Lt) (fun x y H Q => ∃ i j, x = .str i ∧ y = .str j ∧ Q (.bl (decide (i.cps.toList < j.cps.toList))) H) := by
  intro pins s σ H x y v u Q I rx ry h
  obtain ⟨i, j, rfl, rfl, q⟩ := h
  obtain ⟨t, rfl⟩ := rx
  obtain ⟨t', rfl⟩ := ry
  exact lt_str (fin_bl I q rfl)
/-- the one string within the other -/
theorem op_in_str : OpR X (compareOp .In) (fun x y H Q => ∃ i j, x = .str i ∧ y = .str j ∧ Q (.bl (!(Builtin.Str.occurrences j i 0 j.length 1).isEmpty)) H) := by
  intro pins s σ H x y v u Q I rx ry h
  obtain ⟨i, j, rfl, rfl, q⟩ := h
  obtain ⟨t, rfl⟩ := rx
  obtain ⟨t', rfl⟩ := ry
  exact in_str (fin_bl I q rfl)

/-- is None, is not None: the right side a value none -/
theorem op_isN : OpR X (compareOp .Is) (fun x y H Q => y = .non ∧ Q (.bl (decide (x = .non))) H) := by
  intro pins s σ H x y v u Q I rx ry h
  obtain ⟨rfl, q⟩ := h
  cases ry
  refine is_none_gen (fin_bl I q ?_)
  cases x <;> first
    | (cases rx; rfl)
    | (obtain ⟨t, rfl⟩ := rx; rfl)
theorem op_notN : OpR X (compareOp .IsNot) (fun x y H Q => y = .non ∧ Q (.bl (!decide (x = .non))) H) := by
  intro pins s σ H x y v u Q I rx ry h
  obtain ⟨rfl, q⟩ := h
  cases ry
  refine isnot_none_gen (fin_bl I q ?_)
  cases x <;> first
    | (cases rx; rfl)
    | (obtain ⟨t, rfl⟩ := rx; rfl)

theorem op_notin_str : OpR X (compareOp .NotIn) (fun x y H Q => ∃ i j, x = .str i ∧ y = .str j ∧ Q (.bl (!(!(Builtin.Str.occurrences j i 0 j.length 1).isEmpty))) H) := by
  intro pins s σ H x y v u Q I rx ry h
  obtain ⟨i, j, rfl, rfl, q⟩ := h
  obtain ⟨t, rfl⟩ := rx
  obtain ⟨t', rfl⟩ := ry
  exact notIn_str (fin_bl I q rfl)
/-- is, is not of two objects that are tracked lists or instances -/
def isObj : HO → Bool
  | .lst _ => true
  | .ins _ _ _ => true
  | _ => false
theorem obj_there {pins : List (Addr × Obj)} {s : Shared} {σ : St} {H : Hp} {a : Addr} {o : HO} (I : Inv X pins σ H s) (h : H a = some o) (p : isObj o = true) : ∃ ob, s.heap.get? a = some ob ∧ ob.cls ≠ .type "tuple" := by
  cases o with
  | lst xs =>
    obtain ⟨_, its, n, _, e⟩ : xs.length ≤ sizeLine ∧ ∃ (its : List Value) (n : Nat), Vals xs its ∧ s.heap.get? a = some { cls := .type "list", data := .seq its.toArray n } := I.hok a _ h
    exact ⟨_, e, (by show Value.type "list" ≠ .type "tuple"; decide +kernel)⟩
  | ins C dx fs =>
    have x := I.hok a _ h
    obtain ⟨_, _, _, e, _⟩ := x
    exact ⟨_, e, (by show Value.ref C ≠ .type "tuple"; exact fun z => by cases z)⟩
  | _ => exact absurd (show false = true from p) Bool.false_ne_true
theorem op_is_ref : OpR X (compareOp .Is) (fun x y H Q => ∃ a b oa ob, x = .ref a ∧ y = .ref b ∧ H a = some oa ∧ isObj oa = true ∧ H b = some ob ∧ isObj ob = true ∧ Q (.bl (decide (a = b))) H) := by
  intro pins s σ H x y v u Q I rx ry h
  obtain ⟨a, b, oa, ob, rfl, rfl, ha, pa, hb, pb, q⟩ := h
  cases rx
  cases ry
  obtain ⟨o1, e1, n1⟩ := obj_there I ha pa
  obtain ⟨o2, e2, _⟩ := obj_there I hb pb
  by_cases z : a = b
  · subst z
    exact wpAny_is_ref_self (fin_bl I q (by simp))
  · exact wpAny_is_ref_other z e1 e2 n1 (fin_bl I q (by simp [z]))
theorem op_isnot_ref : OpR X (compareOp .IsNot) (fun x y H Q => ∃ a b oa ob, x = .ref a ∧ y = .ref b ∧ H a = some oa ∧ isObj oa = true ∧ H b = some ob ∧ isObj ob = true ∧ Q (.bl (!decide (a = b))) H) := by
  intro pins s σ H x y v u Q I rx ry h
  obtain ⟨a, b, oa, ob, rfl, rfl, ha, pa, hb, pb, q⟩ := h
  cases rx
  cases ry
  obtain ⟨o1, e1, n1⟩ := obj_there I ha pa
  obtain ⟨o2, e2, _⟩ := obj_there I hb pb
  by_cases z : a = b
  · subst z
    exact wpAny_isNot_ref_self (fin_bl I q (by simp))
  · exact wpAny_isNot_ref_other z e1 e2 n1 (fin_bl I q (by simp [z]))

/-- two rules for one operation: by cases -/
theorem OpR.or {f : Value → Value → Sem Value} {r r' : R2} (h : OpR X f r) (h' : OpR X f r') : OpR X f (fun x y H Q => r x y H Q ∨ r' x y H Q) := by
  intro pins s σ H x y v u Q I rx ry q
  rcases q with q | q
  · exact h pins s σ H x y v u Q I rx ry q
  · exact h' pins s σ H x y v u Q I rx ry q

theorem nomark (b : Expr) {op : CmpOp} (h : op ≠ .In := by decide) (h2 : op ≠ .NotIn := by decide) : behindInMarks op b = false := by
  have e1 : (op == CmpOp.In) = false := by cases op <;> first | rfl | exact absurd rfl h
  have e2 : (op == CmpOp.NotIn) = false := by cases op <;> first | rfl | exact absurd rfl h2
  cases b <;> simp [behindInMarks, e1, e2]
/-- a comparison as a value; hm: nomark b, or (for in, not in) by with_unfolding_all rfl -/
theorem pe_cmpR {op : CmpOp} {r : R2} (ho : OpR X (compareOp op) r) (ha : PE X a ta) (hb : PE X b tb) (hm : behindInMarks op b = false) : PE X (.Compare a [op] [b] pos) (tOp r ta tb) := by
  intro pins s σ H Q I h
  exact wpAny_Compare1 (binT ha hb I h fun v u s2 x y H2 I2 rx ry q => ho pins s2 σ H2 x y v u Q I2 rx ry q) hm
/-- a reading of a value as a test -/
def tTest (t : TE) : TT := fun σ H Q => t σ H fun x H' => ∃ k, x = .bl k ∧ Q k H'
theorem pt_cmpR {op : CmpOp} {r : R2} (ho : OpR X (compareOp op) r) (ha : PE X a ta) (hb : PE X b tb) (hm : behindInMarks op b = false) : PT X (.Compare a [op] [b] pos) (tTest (tOp r ta tb)) := by
  intro pins s σ H Q I h
  refine wpAny_isTrue_Compare1 (thn (ha pins s σ H _ I h) fun v s1 ⟨x, H1, I1, r1, q1⟩ => thn (hb pins s1 σ H1 _ I1 q1) fun u s2 ⟨y, H2, I2, r2, q2⟩ =>
    thn (ho pins s2 σ H2 x y v u _ I2 r1 r2 q2) fun c s3 ⟨z, H3, I3, r3, k, e, q3⟩ => ?_) hm
  subst e
  cases r3
  exact wpAny_truthy_bool ⟨H3, I3, q3⟩
/-- a op1 b op2 c -/
def tChain (r r' : R2) (ta tb tc : TE) : TE := fun σ H Q => ta σ H fun x H1 => tb σ H1 fun y H2 => r x y H2 fun z H3 => ∃ k, z = .bl k ∧
  (if k = true then tc σ H3 fun w' H4 => r' y w' H4 Q else Q (.bl false) H3)
theorem pe_chain {op op' : CmpOp} {r r' : R2} (ho : OpR X (compareOp op) r) (ho' : OpR X (compareOp op') r') (ha : PE X a ta) (hb : PE X b tb) (hc : PE X c tc)
    (hm : lastMarks [op, op'] [b, c] = false := by with_unfolding_all rfl) : PE X (.Compare a [op, op'] [b, c] pos) (tChain r r' ta tb tc) := by
  intro pins s σ H Q I h
  refine Compare_chain (thn (ha pins s σ H _ I h) fun v s1 ⟨x, H1, I1, r1, q1⟩ => chain_link (thn (hb pins s1 σ H1 _ I1 q1) fun u s2 ⟨y, H2, I2, r2, q2⟩ =>
    thn (ho pins s2 σ H2 x y v u _ I2 r1 r2 q2) fun d s3 ⟨z, H3, I3, r3, k, e, q3⟩ => ?_)) hm
  subst e
  cases r3
  refine wpAny_truthy_bool ?_
  cases k with
  | false => exact ite_ff ⟨.bl false, H3, I3, rfl, q3⟩
  | true => exact ite_tt (chain_last (thn (hc pins s3 σ H3 _ I3 q3) fun w' s4 ⟨z', H4, I4, r4, q4⟩ => ho' pins s4 σ H4 y z' u w' Q I4 r2 r4 q4))
theorem pt_chain {op op' : CmpOp} {r r' : R2} (ho : OpR X (compareOp op) r) (ho' : OpR X (compareOp op') r') (ha : PE X a ta) (hb : PE X b tb) (hc : PE X c tc)
    (hm : lastMarks [op, op'] [b, c] = false := by with_unfolding_all rfl) : PT X (.Compare a [op, op'] [b, c] pos) (tTest (tChain r r' ta tb tc)) := by
  intro pins s σ H Q I h
  refine isTrue_chain (thn (ha pins s σ H _ I h) fun v s1 ⟨x, H1, I1, r1, q1⟩ => test_link (thn (hb pins s1 σ H1 _ I1 q1) fun u s2 ⟨y, H2, I2, r2, q2⟩ =>
    thn (ho pins s2 σ H2 x y v u _ I2 r1 r2 q2) fun d s3 ⟨z, H3, I3, r3, k, e, q3⟩ => ?_)) hm
  subst e
  cases r3
  refine wpAny_truthy_bool ?_
  cases k with
  | false =>
    obtain ⟨k', e', q'⟩ := q3
    cases e'
    exact ite_ff ⟨H3, I3, q'⟩
  | true =>
    refine ite_tt (test_last (thn (hc pins s3 σ H3 _ I3 q3) fun w' s4 ⟨z', H4, I4, r4, q4⟩ => thn (ho' pins s4 σ H4 y z' u w' _ I4 r2 r4 q4) fun d' s5 ⟨z2, H5, I5, r5, k2, e2, q5⟩ => ?_))
    subst e2
    cases r5
    exact wpAny_truthy_bool ⟨H5, I5, q5⟩

/-! ### truth -/
/-- a value's truth by the abstract heap -/
def TruV (K : PySem.W.Frag) (x : V) (H : Hp) (k : Bool) : Prop :=
  match x with
  | .non => k = false
  | .bl b => k = b
  | .int i => k = (i != 0)
  | .str y => y.length ≤ sizeLine ∧ k = ((y.length : Int) != 0)
  | .byt y => y.size ≤ sizeLine ∧ k = ((y.size : Int) != 0)
  | .ref p => (∃ xs, SqL K H p xs ∧ k = !xs.isEmpty) ∨ (∃ xs, SqT K H p xs ∧ k = !xs.isEmpty) ∨ ∃ kvs, H p = some (.dK kvs) ∧ k = !kvs.isEmpty
  | _ => False
theorem isEmpty_kv {κ : Type} {kvs : List (κ × V)} {vs : List (κ × Value)} (r : KV kvs vs) : (!vs.isEmpty) = !kvs.isEmpty := by
  cases r <;> rfl
theorem isEmpty_of {xs : List V} {its : List Value} (r : Vals xs its) : (!its.toArray.isEmpty) = !xs.isEmpty := by
  cases r <;> simp
theorem line63 : (sizeLine : Nat) < 2 ^ 63 := by rw [sizeLine_eq]; decide
theorem tru_ok : TruR X (fun x H Q => ∃ k, TruV X.K x H k ∧ Q k H) := by
  intro pins s σ H x v Q I rx h
  obtain ⟨k, e, q⟩ := h
  have hl := line63
  have hs : sizeLine = 16777216 := sizeLine_eq
  cases x with
  | non =>
    cases rx
    have e' : k = false := e
    subst e'
    exact truthy_none ⟨H, I, q⟩
  | bl b =>
    cases rx
    have e' : k = b := e
    subst e'
    exact wpAny_truthy_bool ⟨H, I, q⟩
  | int i =>
    obtain ⟨t, rfl⟩ := rx
    have e' : k = (i != 0) := e
    subst e'
    exact PySem.P.truthy_int ⟨H, I, q⟩
  | str y =>
    obtain ⟨t, rfl⟩ := rx
    obtain ⟨hy, e'⟩ : y.length ≤ sizeLine ∧ k = ((y.length : Int) != 0) := e
    subst e'
    exact PySem.P.truthy_str (by omega) ⟨H, I.tok _, q⟩
  | byt y =>
    obtain ⟨t, rfl⟩ := rx
    obtain ⟨hy, e'⟩ : y.size ≤ sizeLine ∧ k = ((y.size : Int) != 0) := e
    subst e'
    exact PySem.W.truthy_bytes (by omega) ⟨H, I.tok _, q⟩
  | ref p =>
    cases rx
    have e' : (∃ xs, SqL X.K H p xs ∧ k = !xs.isEmpty) ∨ (∃ xs, SqT X.K H p xs ∧ k = !xs.isEmpty) ∨ ∃ kvs, H p = some (.dK kvs) ∧ k = !kvs.isEmpty := e
    rcases e' with ⟨xs, hx, e'⟩ | ⟨xs, hx, e'⟩ | ⟨kvs, hx, e'⟩
    · subst e'
      obtain ⟨its, r, pl, hz⟩ := I.list hx
      have hlen := r.length
      exact wpAny_truthy_list pl.isList (by simp only [List.size_toArray]; omega) ⟨H, I.tok _, by rw [isEmpty_of r]; exact q⟩
    · subst e'
      obtain ⟨its, r, pl, hz⟩ := I.tuple hx
      have hlen := r.length
      exact truthy_tuple pl (by simp only [List.size_toArray]; omega) ⟨H, I.tok _, by rw [isEmpty_of r]; exact q⟩
    · subst e'
      obtain ⟨hz, hS, vs, r, m⟩ : kvs.length ≤ sizeLine ∧ (p == sysModules) = false ∧ ∃ vs, KV kvs vs ∧ s.heap.DictOf (mixKind X.prog X.w) p vs := I.hok p _ hx
      have hlen : kvs.length = vs.length := Paired.length r
      exact wpAny_truthy_dict hS m (by omega) ⟨H, I.tok _, by rw [isEmpty_kv r]; exact q⟩
  | _ => exact (show False from e).elim
/-- any expression whose test is its value's truth (a name, a call, a subscript, a field ..: he by fun _ => rfl) -/
theorem pt_truth (ha : PE X a ta) (he : ∀ whole, isTrue a X.env whole = (do let v ← whole; standAt a.pos; holding [v] (truthy v))) :
    PT X a (fun σ H Q => ta σ H fun x H' => ∃ k, TruV X.K x H' k ∧ Q k H') := by
  intro pins s σ H Q I h
  exact isTrue_plain (thn (ha pins s σ H _ I h) fun v s1 ⟨x, H1, I1, r1, q1⟩ => tru_ok pins s1 σ H1 x v Q I1 r1 q1) (he _)

/-! ### strs and bytes -/
theorem pe_byt {x : List UInt8} {k : Nat} : PE X (.Constant (.bytes x) k pos) (fun _ H Q => Q (.byt x.toArray) H) := fun _ _ _ H _ I h => PySem.W.Constant_bytes ⟨.byt x.toArray, H, I.tok _, ⟨_, rfl⟩, h⟩
theorem op_add_str : OpR X (binaryOp .Add) (fun x y H Q => ∃ i j, x = .str i ∧ y = .str j ∧ i.length + j.length ≤ sizeLine ∧ Q (.str (i ++ j)) H) := by
  intro pins s σ H x y v u Q I rx ry h
  obtain ⟨i, j, rfl, rfl, hz, q⟩ := h
  obtain ⟨t, rfl⟩ := rx
  obtain ⟨t', rfl⟩ := ry
  exact add_str (fun t' tk => ⟨.str (i ++ j), H, I.tok _, ⟨_, rfl⟩, q⟩) hz
theorem iop_add_str : OpR X (inplaceOp .Add) (fun x y H Q => ∃ i j, x = .str i ∧ y = .str j ∧ i.length + j.length ≤ sizeLine ∧ Q (.str (i ++ j)) H) := by
  intro pins s σ H x y v u Q I rx ry h
  obtain ⟨i, j, rfl, rfl, hz, q⟩ := h
  obtain ⟨t, rfl⟩ := rx
  obtain ⟨t', rfl⟩ := ry
  exact iadd_str (fun t' tk => ⟨.str (i ++ j), H, I.tok _, ⟨_, rfl⟩, q⟩) hz
theorem op_add_byt : OpR X (binaryOp .Add) (fun x y H Q => ∃ i j, x = .byt i ∧ y = .byt j ∧ i.size + j.size ≤ 16777216 ∧ Q (.byt (i ++ j)) H) := by
  intro pins s σ H x y v u Q I rx ry h
  obtain ⟨i, j, rfl, rfl, hz, q⟩ := h
  obtain ⟨t, rfl⟩ := rx
  obtain ⟨t', rfl⟩ := ry
  exact PySem.W.KBy.add_bytes hz (fun t' tk => ⟨.byt (i ++ j), H, I.tok _, ⟨_, rfl⟩, q⟩)

def PlainIxT (b : Expr) : Prop := ∀ o i, subscripted b false o i = operate [o, i] (getItem o i)
/-- s[i], 0 ≤ i < len -/
theorem pe_item_str (ha : PE X a ta) (hb : PE X b tb) (hs : PlainIxT b) :
    PE X (.Subscript a b pos) (tOp (fun x y H Q => ∃ z i c, x = .str z ∧ y = .int i ∧ 0 ≤ i ∧ i < 2 ^ 63 ∧ i < z.length ∧ z.cps[i.toNat]? = some c ∧ Q (.str ⟨#[c]⟩) H) ta tb) := by
  intro pins s σ H Q I h
  refine Subscript_ (binT ha hb I h fun v u s2 x y H2 I2 rx ry q => ?_)
  obtain ⟨z, i, c, rfl, rfl, h0, h63, h1, hc, q⟩ := q
  obtain ⟨t, rfl⟩ := rx
  obtain ⟨t', rfl⟩ := ry
  have e : seqIndex? i z.length = some i.toNat := PySem.StrLaws.seqIndex_nonneg h0 h1
  exact tail_any (typeIs_str s2 z t) slot_str_getitem.lookup (getItem_str (c := c) (by
    have e1 : decide (i < -(2 ^ 63 : Int)) = false := decide_eq_false (by omega)
    have e2 : decide (i ≥ 2 ^ 63) = false := decide_eq_false (by omega)
    rw [e1, e2] <;> rfl) (by rw [e]; exact hc) ⟨.str ⟨#[c]⟩, H2, I2.tok _, ⟨_, rfl⟩, q⟩) (hs _ _)
/-- b[i], 0 ≤ i < len -/
theorem pe_item_byt (ha : PE X a ta) (hb : PE X b tb) (hs : PlainIxT b) :
    PE X (.Subscript a b pos) (tOp (fun x y H Q => ∃ (z : List UInt8) (i : Int), x = .byt z.toArray ∧ y = .int i ∧ z.length ≤ sizeLine ∧ 0 ≤ i ∧ i < z.length ∧ Q (.int ((z.getD i.toNat 0).toNat : Nat)) H) ta tb) := by
  intro pins s σ H Q I h
  refine Subscript_ (binT ha hb I h fun v u s2 x y H2 I2 rx ry q => ?_)
  obtain ⟨z, i, rfl, rfl, hz, h0, h1, q⟩ := q
  obtain ⟨t, rfl⟩ := rx
  obtain ⟨t', rfl⟩ := ry
  have hl : sizeLine = 16777216 := sizeLine_eq
  exact tail_any (PySem.W.typeIs_bytes s2 z.toArray t) PySem.W.FB.slot_bytes_getitem.lookup (PySem.W.getItem_bytes (by omega) h0 h1 ⟨.int ((z.getD i.toNat 0).toNat : Nat), H2, I2.tok _, ⟨_, rfl⟩, q⟩) (hs _ _)

/-! ### scalar builtins, by CallR -/
theorem vals1 {x : V} {us : List Value} (r : Vals [x] us) : ∃ u, us = [u] ∧ RelV x u := by
  cases r with
  | cons r1 r2 => cases r2; exact ⟨_, rfl, r1⟩
theorem vals2 {x y : V} {us : List Value} (r : Vals [x, y] us) : ∃ u w', us = [u, w'] ∧ RelV x u ∧ RelV y w' := by
  cases r with
  | cons r1 r2 =>
    cases r2 with
    | cons r3 r4 => cases r4; exact ⟨_, _, rfl, r1, r3⟩
theorem call_abs : CallR X (.builtin "abs") (fun xs H Q => ∃ i, xs = [.int i] ∧ Q (.int (if i < 0 then -i else i)) H) := by
  intro pins s σ H xs us Q I r h
  obtain ⟨i, rfl, q⟩ := h
  obtain ⟨u, rfl, t, rfl⟩ := vals1 r
  exact call_abs_int fun u tk => ⟨.int (if i < 0 then -i else i), H, I.tok _, ⟨_, rfl⟩, q⟩
theorem call_max2 (hc : X.calm = true) : CallR X (.builtin "max") (fun xs H Q => ∃ i j, xs = [.int i, .int j] ∧ Q (.int (if j > i then j else i)) H) := by
  intro pins s σ H xs us Q I r h
  obtain ⟨i, j, rfl, q⟩ := h
  obtain ⟨u, w', rfl, ⟨t, rfl⟩, ⟨t', rfl⟩⟩ := vals2 r
  refine max_two_ints (I.ok.hd hc) fun h' tk k => ⟨_, H, I.kept k, ?_, q⟩
  by_cases hj : j > i
  · rw [if_pos hj, if_pos hj]; exact ⟨_, rfl⟩
  · rw [if_neg hj, if_neg hj]; exact ⟨_, rfl⟩
theorem call_min2 (hc : X.calm = true) : CallR X (.builtin "min") (fun xs H Q => ∃ i j, xs = [.int i, .int j] ∧ Q (.int (if j < i then j else i)) H) := by
  intro pins s σ H xs us Q I r h
  obtain ⟨i, j, rfl, q⟩ := h
  obtain ⟨u, w', rfl, ⟨t, rfl⟩, ⟨t', rfl⟩⟩ := vals2 r
  refine min_two_ints (I.ok.hd hc) fun h' tk k => ⟨_, H, I.kept k, ?_, q⟩
  by_cases hj : j < i
  · rw [if_pos hj, if_pos hj]; exact ⟨_, rfl⟩
  · rw [if_neg hj, if_neg hj]; exact ⟨_, rfl⟩
theorem call_int1 : CallR X (.type "int") (fun xs H Q => (∃ i, xs = [.int i] ∧ Q (.int i) H) ∨ ∃ k, xs = [.bl k] ∧ Q (.int (if k then 1 else 0)) H) := by
  intro pins s σ H xs us Q I r h
  rcases h with ⟨i, rfl, q⟩ | ⟨k, rfl, q⟩
  · obtain ⟨u, rfl, t, rfl⟩ := vals1 r
    exact call_int_int ⟨.int i, H, I, ⟨_, rfl⟩, q⟩
  · obtain ⟨u, rfl, r1⟩ := vals1 r
    cases r1
    exact call_int_bool ⟨.int (if k then 1 else 0), H, I.tok _, ⟨_, rfl⟩, q⟩
theorem call_bool1 : CallR X (.type "bool") (fun xs H Q => (∃ i, xs = [.int i] ∧ Q (.bl (i != 0)) H) ∨ ∃ k, xs = [.bl k] ∧ Q (.bl k) H) := by
  intro pins s σ H xs us Q I r h
  rcases h with ⟨i, rfl, q⟩ | ⟨k, rfl, q⟩
  · obtain ⟨u, rfl, t, rfl⟩ := vals1 r
    exact call_bool_int ⟨.bl (i != 0), H, I, rfl, q⟩
  · obtain ⟨u, rfl, r1⟩ := vals1 r
    cases r1
    exact call_bool_bool ⟨.bl k, H, I, rfl, q⟩
theorem call_str_int : CallR X (.type "str") (fun xs H Q => ∃ i, xs = [.int i] ∧ i.natAbs.log2 < 1920 ∧ Q (.str (toString i)) H) := by
  intro pins s σ H xs us Q I r h
  obtain ⟨i, rfl, hz, q⟩ := h
  obtain ⟨u, rfl, t, rfl⟩ := vals1 r
  exact PySem.P.str_of_int hz ⟨.str _, H, I.tok _, ⟨_, rfl⟩, q⟩
theorem call_ord : CallR X (.builtin "ord") (fun xs H Q => ∃ x, xs = [.str x] ∧ x.length = 1 ∧ Q (.int (x.cps.getD 0 0 : Nat)) H) := by
  intro pins s σ H xs us Q I r h
  obtain ⟨x, rfl, hz, q⟩ := h
  obtain ⟨u, rfl, t, rfl⟩ := vals1 r
  exact ord_of_one hz ⟨.int _, H, I.tok _, ⟨_, rfl⟩, q⟩
theorem call_chr : CallR X (.builtin "chr") (fun xs H Q => ∃ i, xs = [.int i] ∧ 0 ≤ i ∧ i ≤ 1114111 ∧ Q (.str ⟨#[i.toNat]⟩) H) := by
  intro pins s σ H xs us Q I r h
  obtain ⟨i, rfl, h0, h1, q⟩ := h
  obtain ⟨u, rfl, t, rfl⟩ := vals1 r
  exact chr_of_range h0 h1 ⟨.str _, H, I.tok _, ⟨_, rfl⟩, q⟩
/-- len of a str, a bytes, a list, a tuple -/
def LenV (K : PySem.W.Frag) (x : V) (H : Hp) (n : Nat) : Prop :=
  match x with
  | .str y => y.length ≤ sizeLine ∧ n = y.length
  | .byt y => y.size ≤ sizeLine ∧ n = y.size
  | .ref p => (∃ xs, SqL K H p xs ∧ n = xs.length) ∨ ∃ xs, SqT K H p xs ∧ n = xs.length
  | _ => False
theorem call_len : CallR X (.builtin "len") (fun xs H Q => ∃ x n, xs = [x] ∧ LenV X.K x H n ∧ Q (.int n) H) := by
  intro pins s σ H xs us Q I r h
  obtain ⟨x, n, rfl, e, q⟩ := h
  obtain ⟨u, rfl, rx⟩ := vals1 r
  have hl := line63
  have hs : sizeLine = 16777216 := sizeLine_eq
  cases x with
  | str y =>
    obtain ⟨t, rfl⟩ := rx
    obtain ⟨hy, e'⟩ : y.length ≤ sizeLine ∧ n = y.length := e
    subst e'
    exact len_str (by omega) ⟨.int _, H, I.tok _, ⟨_, rfl⟩, q⟩
  | byt y =>
    obtain ⟨t, rfl⟩ := rx
    obtain ⟨hy, e'⟩ : y.size ≤ sizeLine ∧ n = y.size := e
    subst e'
    exact PySem.W.len_bytes (by omega) ⟨.int _, H, I.tok _, ⟨_, rfl⟩, q⟩
  | ref p =>
    cases rx
    have e' : (∃ xs, SqL X.K H p xs ∧ n = xs.length) ∨ ∃ xs, SqT X.K H p xs ∧ n = xs.length := e
    rcases e' with ⟨xs, hx, e'⟩ | ⟨xs, hx, e'⟩
    · subst e'
      obtain ⟨its, r', pl, hz⟩ := I.list hx
      have hlen := r'.length
      exact Calls.call_len_list pl.isList (by simp only [List.size_toArray]; omega) ⟨.int xs.length, H, I.tok _, ⟨_, by simp only [List.size_toArray]; rw [hlen]⟩, q⟩
    · subst e'
      obtain ⟨its, r', pl, hz⟩ := I.tuple hx
      have hlen := r'.length
      exact len_tuple pl (by simp only [List.size_toArray]; omega) ⟨.int xs.length, H, I.tok _, ⟨_, by simp only [List.size_toArray]; rw [hlen]⟩, q⟩
  | _ => exact (show False from e).elim
/-- divmod: a new tuple -/
theorem call_divmod : CallR X (.builtin "divmod") (fun xs H Q => ∃ i j, xs = [.int i, .int j] ∧ CDiv i j ∧ ∀ p, H p = none → Q (.ref p) (upd H p (.tup [.int (i / j), .int (i % j)]))) := by
  intro pins s σ H xs us Q I r h
  obtain ⟨i, j, rfl, ⟨h1, h2⟩, q⟩ := h
  obtain ⟨u, w', rfl, ⟨t, rfl⟩, ⟨t', rfl⟩⟩ := vals2 r
  refine divmod_int (by omega) ?_ (.inl (PyProof.noPylong_small (by omega)))
  rw [Int.fdiv_eq_ediv_of_nonneg i (by omega), Int.fmod_eq_emod_of_nonneg i (by omega)]
  have hn : H s.heap.objs.size = none := I.hok.fresh (Nat.le_refl _)
  refine ⟨.ref s.heap.objs.size, _, ?_, rfl, q _ hn⟩
  refine I.laid (fun b o e => Heap.get?_push_of_some _ e) (Nat.le_refl _) ⟨by simp only [List.length_cons, List.length_nil]; rw [sizeLine_eq]; decide, [.int (i / j) s.toks, .int (i % j) (s.toks + 1)], .cons ⟨_, rfl⟩ (.cons ⟨_, rfl⟩ .nil), ?_⟩
  exact ⟨_, Heap.get?_push_size s.heap rfl, rfl, 0, rfl⟩
end
end L2

namespace L2
open PySem PySem.Spec PyProof.Rows

/-! ### an instance, its attributes a map -/
structure ObjM (h : Heap) (x dx C : Addr) (mA : Str → Option Value) : Prop where
  obj : h.get? x = some (PySem.W.instObj C dx)
  ns : h.Ns1 dx mA
  ne : dx ≠ x

theorem lookIn_ns {h : Heap} {dx : Addr} {mA : Str → Option Value} (n : h.Ns1 dx mA) : ∃ od, h.get? dx = some od ∧ ∀ name, PySem.W.lookIn name od = some (mA name) := by
  obtain ⟨o, es, ep, ho, hd, hk, _, hm⟩ := n
  refine ⟨o, ho, fun name => ?_⟩
  have e := hm name
  unfold nsFind findBy at e
  rw [← Array.find?_toList] at e
  unfold PySem.W.lookIn
  rw [hd]
  dsimp only
  split
  · rename_i y q
    rw [q] at e
    exact congrArg some e
  · rename_i q
    rw [q] at e
    have a : es.toList.any (·.refKey) = false := by
      rw [List.any_eq_false]
      intro y hy
      obtain ⟨z, t, hkey⟩ := hk y (Array.mem_toList_iff.mp hy)
      simp [DictEntry.refKey, hkey]
    have a' : ¬ es.toList.any (·.refKey) = true := by rw [a]; exact Bool.false_ne_true
    rw [if_neg a']
    exact congrArg some e

theorem ObjM.look {h : Heap} {x dx C : Addr} {mA : Str → Option Value} (I : ObjM h x dx C mA) : ∃ od, PySem.W.InstAt h x (PySem.W.instObj C dx) C (some od) ∧ ∀ name, PySem.W.lookIn name od = some (mA name) :=
  let ⟨od, ho, hl⟩ := lookIn_ns I.ns
  ⟨od, ⟨I.obj, rfl, rfl, ho⟩, hl⟩

section
variable {prog : Program} {w : World} {A : Around} {E : Value → Shared → Prop} {s : Shared} {K : PySem.W.Frag} {x dx C f : Addr} {mA : Str → Option Value} {name : Str} {v : Value}

theorem get_map {expr : Bool} {Q : Value → Shared → Prop} (X : K.In s.heap) (I : ObjM s.heap x dx C mA) (hg : PySem.W.plainGet K C name = true) (hh : PySem.W.hasDictIn K C = true)
    (ha : PySem.W.findIn K (.ref C) name = some none) (hv : mA name = some v) (hv' : PySem.W.handedIn v = true) (h : Q v { s with toks := s.toks + 1 }) :
    wpAny (model prog w) A (getAttr (.ref x) name expr) Q E s := by
  obtain ⟨od, J, hl⟩ := I.look
  exact PySem.W.get_value X J (PySem.W.plainGet_of hg).1 (PySem.W.findObj_own hh ha rfl (by rw [hl, hv])) hv' h

theorem get_const {expr : Bool} {a : Value} {Q : Value → Shared → Prop} (X : K.In s.heap) (I : ObjM s.heap x dx C mA) (hg : PySem.W.plainGet K C name = true) (hh : PySem.W.hasDictIn K C = true)
    (ha : PySem.W.findIn K (.ref C) name = some (some a)) (hn : PySem.W.specialIn K a "__get__" = some none) (hc : PySem.W.copiedNames.contains name = false) (hv : mA name = none) (hv' : PySem.W.handedIn a = true)
    (h : Q a { s with toks := s.toks + 1 }) : wpAny (model prog w) A (getAttr (.ref x) name expr) Q E s := by
  obtain ⟨od, J, hl⟩ := I.look
  exact PySem.W.get_value X J (PySem.W.plainGet_of hg).1 (PySem.W.findObj_cls hh ha hn hv' hc (by rw [hl, hv])) hv' h

theorem get_meth {pl : Sem Bool} {Q : Value × List Value → Shared → Prop} (X : K.In s.heap) (I : ObjM s.heap x dx C mA) (hg : PySem.W.plainGet K C name = true)
    (hf : PySem.W.findIn K (.ref C) name = some (some (.ref f))) (ht : PySem.W.isFn K (.ref f) = true) (hv : mA name = none) (h : Q (.ref f, [.ref x]) s) :
    wpAny (model prog w) A (getMethod (.ref x) name pl) Q E s := by
  obtain ⟨od, J, hl⟩ := I.look
  exact PySem.W.method_fn X J (PySem.W.plainGet_of hg).1 (PySem.W.plainGet_of hg).2 hf (beq_iff_eq.mp ht) (by show (PySem.W.lookIn name od).map (·.isSome) = some false; rw [hl, hv]; rfl) h

theorem set_map {ns : List Str} {Q : Unit → Shared → Prop} (X : K.In s.heap) (I : ObjM s.heap x dx C mA)
    (hs : PySem.W.findIn K (.ref C) "__setattr__" = some (some (.builtin "object.__setattr__"))) (hp : PySem.W.plainOver K C = true) (ht : PySem.W.takerIn K C name = some none) (hh : PySem.W.hasDictIn K C = true)
    (hw : PySem.Within mA ns) (hsz : ns.length ≤ sizeLine)
    (h : ∀ h', ObjM h' x dx C (fun y => if y = name then some v else mA y) → Heap.SameBut dx s.heap h' → Q () { s with heap := h', toks := s.toks + 2 }) :
    wpAny (model prog w) A (setAttr (.ref x) name v) Q E s := by
  obtain ⟨od, J, hl⟩ := I.look
  refine PySem.W.set_plain X J hs (PySem.W.osa_open (s := { s with toks := s.toks + 1 }) (r := none) X J hp ht fun b => ?_)
  obtain ⟨cd, hc, hd'⟩ := PySem.W.any_some hh
  have hx : s.heap.get? x = some ⟨.ref C, some dx, .plain, #[]⟩ := I.obj
  refine wpAny_bind (wpAny_pure (wpAny_bind (wpAny_bind (wpAny_loadPart hx (wpAny_bind (PySem.W.Looks.here (s := { s with toks := s.toks + 1 }) (PySem.W.looks_clsIn X hc) ?_))))))
  rw [hd']
  refine wpAny_pure (a := some dx) (wpAny_bind (wpAny_pure (wpAny_bind ?_)))
  refine wpAny_nsSet1 (s := { s with toks := s.toks + 1 }) I.ns fun h' hn2 hs2 => ?_
  obtain ⟨oD, esD, epD, hoD, hdD, hcD⟩ := hn2.count (PySem.Within.cons name v hw)
  refine wpAny_bind (wpAny_lookBehind hoD (by rw [hdD]; exact pastItsLine_dict (Nat.le_trans hcD (by rw [List.length_cons]; omega))) ?_)
  exact wpAny_pure (h _ ⟨(hs2.2 _ (Ne.symm I.ne)).trans I.obj, hn2, I.ne⟩ hs2)

/-- C(..): the dict at the heap's end, the instance behind it; then its __init__ -/
theorem make_map {R : Result → Shared → Prop} {vs : List Value} {kw : List (Str × Value)} (X : K.In s.heap) (hm : PySem.W.makesIn K C = true)
    (hi : PySem.W.findIn K (.ref C) "__init__" = some (some (.ref f))) (hf : PySem.W.typeIn K (.ref f) = some (.type "function"))
    (h : codeAny (model prog w) (A.under (.builtin "type.__call__" ⟨.ref C :: vs, kw⟩)) (.call (.ref f) ⟨.ref (s.heap.objs.size + 1) :: vs, kw⟩) (PySem.W.InitBack (s.heap.objs.size + 1) R)
      { s with heap := (s.heap.push PySem.W.emptyDict).push (PySem.W.instObj C s.heap.objs.size) }) :
    codeAny (model prog w) A (.call (.ref C) ⟨vs, kw⟩) R s := by
  obtain ⟨hh, g, d, t, os⟩ := s
  exact PySem.W.make_core (PySem.W.makes_of X hm) (PySem.W.looks_findIn X hi) (fun self => PySem.W.bind_fn X self hf) (.inl rfl) h
/-- C() where there is no __init__ but object's -/
theorem make_map0 {R : Result → Shared → Prop} (X : K.In s.heap) (hm : PySem.W.makesIn K C = true)
    (hi : PySem.W.findIn K (.ref C) "__init__" = some (some (.builtin "object.__init__")))
    (hb : ∀ self, PySem.W.Looks (model prog w) s.heap (bindSpecial (.builtin "object.__init__") self) (.builtin "object.__init__", [self]))
    (h : codeAny (model prog w) (A.under (.builtin "type.__call__" ⟨[.ref C], []⟩)) (.call (.builtin "object.__init__") ⟨[.ref (s.heap.objs.size + 1)], []⟩) (PySem.W.InitBack (s.heap.objs.size + 1) R)
      { s with heap := (s.heap.push PySem.W.emptyDict).push (PySem.W.instObj C s.heap.objs.size) }) :
    codeAny (model prog w) A (.call (.ref C) ⟨[], []⟩) R s := by
  obtain ⟨hh, g, d, t, os⟩ := s
  exact PySem.W.make_core (PySem.W.makes_of X hm) (PySem.W.looks_findIn X hi) hb (.inr ⟨rfl, rfl⟩) h
end

/-! ### the attributes as a list of pairs -/
def putF (f : Str) (v : V) : List (Str × V) → List (Str × V)
  | [] => [(f, v)]
  | (g, x) :: r => if g = f then (g, v) :: r else (g, x) :: putF f v r
theorem lookup_putF (f g : Str) (v : V) : ∀ fs : List (Str × V), (putF f v fs).lookup g = if g = f then some v else fs.lookup g
  | [] => by
    show List.lookup g [(f, v)] = _
    by_cases h : g = f
    · have hb : (g == f) = true := beq_iff_eq.mpr h
      simp only [List.lookup, hb, if_pos h]
    · have hb : (g == f) = false := beq_eq_false_iff_ne.mpr h
      simp only [List.lookup, hb, if_neg h]
  | (k, x) :: r => by
    have ih := lookup_putF f g v r
    rw [show putF f v ((k, x) :: r) = (if k = f then (k, v) :: r else (k, x) :: putF f v r) from rfl]
    by_cases hk : k = f
    · rw [if_pos hk]
      by_cases h : g = k
      · have hb : (g == k) = true := beq_iff_eq.mpr h
        simp only [List.lookup, hb, if_pos (h.trans hk)]
      · have hb : (g == k) = false := beq_eq_false_iff_ne.mpr h
        simp only [List.lookup, hb, if_neg (fun e : g = f => h (e.trans hk.symm))]
    · rw [if_neg hk]
      by_cases h : g = k
      · have hb : (g == k) = true := beq_iff_eq.mpr h
        simp only [List.lookup, hb, if_neg (fun e : g = f => hk (h.symm.trans e))]
      · have hb : (g == k) = false := beq_eq_false_iff_ne.mpr h
        simp only [List.lookup, hb]
        exact ih
theorem keys_putF (f : Str) (v : V) : ∀ fs : List (Str × V), f ∈ (putF f v fs).map (·.1) ∧ ∀ g, g ∈ fs.map (·.1) → g ∈ (putF f v fs).map (·.1)
  | [] => ⟨by simp [putF], fun g h => by simp at h⟩
  | (k, x) :: r => by
    obtain ⟨i1, i2⟩ := keys_putF f v r
    rw [show putF f v ((k, x) :: r) = (if k = f then (k, v) :: r else (k, x) :: putF f v r) from rfl]
    by_cases hk : k = f
    · rw [if_pos hk]
      subst hk
      exact ⟨by simp, fun g h => by simpa using h⟩
    · rw [if_neg hk]
      refine ⟨?_, fun g h => ?_⟩
      · rw [List.map_cons]
        exact List.mem_cons_of_mem _ i1
      · rw [List.map_cons] at h ⊢
        rcases List.mem_cons.mp h with e | e
        · exact List.mem_cons.mpr (.inl e)
        · exact List.mem_cons_of_mem _ (i2 g e)
theorem length_putF (f : Str) (v : V) : ∀ fs : List (Str × V), (putF f v fs).length ≤ fs.length + 1
  | [] => by simp [putF]
  | (k, x) :: r => by
    have ih := length_putF f v r
    rw [show putF f v ((k, x) :: r) = (if k = f then (k, v) :: r else (k, x) :: putF f v r) from rfl]
    by_cases hk : k = f
    · rw [if_pos hk, List.length_cons, List.length_cons]; omega
    · rw [if_neg hk, List.length_cons, List.length_cons]; omega

theorem RelO.some_of {v : V} {o : Option Value} (r : RelO (some v) o) : ∃ u, o = some u ∧ RelV v u := by
  cases o with
  | none => exact (show False from r).elim
  | some u => exact ⟨u, rfl, r⟩
theorem RelO.none_of {o : Option Value} (r : RelO none o) : o = none := by
  cases o with
  | none => rfl
  | some u => exact (show False from r).elim
theorem handed_of {v : V} {u : Value} (r : RelV v u) : PySem.W.handedIn u = true := by
  cases v with
  | non => cases (show u = Value.none from r); rfl
  | bl b => cases (show u = Value.bool b from r); rfl
  | int i => obtain ⟨t, e⟩ := (show ∃ t, u = Value.int i t from r); cases e; rfl
  | str x => obtain ⟨t, e⟩ := (show ∃ t, u = Value.str x t from r); cases e; rfl
  | byt b => obtain ⟨t, e⟩ := (show ∃ t, u = Value.bytes b t from r); cases e; rfl
  | flt b => obtain ⟨t, e⟩ := (show ∃ t, u = Value.float b t from r); cases e; rfl
  | ref a => cases (show u = Value.ref a from r); rfl
  | ty n => cases (show u = Value.type n from r); rfl

section
variable {P : Program} {w : World} {H H' : Hp} {h h' : Heap} {a C dx : Addr} {fs fs' : List (Str × V)}
theorem ins_get (hok : HOk P w H h) (e : H a = some (.ins C dx fs)) : ∃ mA, ObjM h a dx C mA ∧ (∀ f, RelO (fs.lookup f) (mA f)) ∧ PySem.Within mA (fs.map (·.1)) ∧ fs.length ≤ 1000 ∧ H dx = some (.own a) := by
  obtain ⟨d, z, ne, ob, mA, n, r, q⟩ := (show ObjOk P w H h a (.ins C dx fs) from hok a _ e)
  exact ⟨mA, ⟨ob, n, ne⟩, r, q, z, d⟩
end

/-! ### what of the text a class must have -/
structure Cls (K : PySem.W.Frag) (C : Addr) : Prop where
  pg : PySem.W.plainGet K C Str.empty = true
  hd : PySem.W.hasDictIn K C = true
  po : PySem.W.plainOver K C = true
  sa : PySem.W.findIn K (.ref C) "__setattr__" = some (some (.builtin "object.__setattr__"))
theorem Cls.get {K : PySem.W.Frag} {C : Addr} (c : Cls K C) (f : Str) : PySem.W.plainGet K C f = true := c.pg
/-- no class of it has the name -/
def NoAttr (K : PySem.W.Frag) (C : Addr) (f : Str) : Prop := PySem.W.findIn K (.ref C) f = some none
theorem NoAttr.taker {K : PySem.W.Frag} {C : Addr} {f : Str} (n : NoAttr K C f) : PySem.W.takerIn K C f = some none := by
  unfold PySem.W.takerIn
  rw [show PySem.W.findIn K (.ref C) f = some none from n]
  rfl
/-- a constant of the class -/
structure Con (K : PySem.W.Frag) (C : Addr) (f : Str) (v : V) (u : Value) : Prop where
  at_ : PySem.W.findIn K (.ref C) f = some (some u)
  rel : RelV v u
  get : PySem.W.specialIn K u "__get__" = some none
  cp : PySem.W.copiedNames.contains f = false
/-- a method: a plain def of the class or of one above it -/
structure Meth (K : PySem.W.Frag) (C : Addr) (m : Str) (f : Addr) : Prop where
  at_ : PySem.W.findIn K (.ref C) m = some (some (.ref f))
  fn : PySem.W.isFn K (.ref f) = true
  kp : PySem.W.keepIn K (.ref f) = true

section
variable {X : Cx} {pins : List (Addr × Obj)} {σ : St} {H : Hp} {s : Shared} {a C dx : Addr} {fs : List (Str × V)} {f : Str} {v : V} {A : Around} {E : Value → Shared → Prop}

theorem getattr_ok {b : Bool} {Q : Value → Shared → Prop} (I : Inv X pins σ H s) (e : H a = some (.ins C dx fs)) (c : Cls X.K C) (n : NoAttr X.K C f) (l : fs.lookup f = some v)
    (h : ∀ u s', Inv X pins σ H s' → RelV v u → Q u s') : wpAny (model X.prog X.w) A (getAttr (.ref a) f b) Q E s := by
  obtain ⟨mA, O, r, _, _, _⟩ := ins_get I.hok e
  obtain ⟨u, hu, ru⟩ := RelO.some_of (v := v) (o := mA f) (by rw [← l]; exact r f)
  exact get_map I.kIn O (c.get f) c.hd n hu (handed_of ru) (h u _ (I.tok _) ru)

theorem getcon_ok {b : Bool} {u : Value} {Q : Value → Shared → Prop} (I : Inv X pins σ H s) (e : H a = some (.ins C dx fs)) (c : Cls X.K C) (k : Con X.K C f v u) (l : fs.lookup f = none)
    (h : ∀ s', Inv X pins σ H s' → Q u s') : wpAny (model X.prog X.w) A (getAttr (.ref a) f b) Q E s := by
  obtain ⟨mA, O, r, _, _, _⟩ := ins_get I.hok e
  have hn : mA f = none := RelO.none_of (by rw [← l]; exact r f)
  exact get_const I.kIn O (c.get f) c.hd k.at_ k.get k.cp hn (handed_of k.rel) (h _ (I.tok _))

theorem getmeth_ok {m : Str} {g : Addr} {pl : Sem Bool} {Q : Value × List Value → Shared → Prop} (I : Inv X pins σ H s) (e : H a = some (.ins C dx fs)) (c : Cls X.K C) (k : Meth X.K C m g) (l : fs.lookup m = none)
    (h : Q (.ref g, [.ref a]) s) : wpAny (model X.prog X.w) A (getMethod (.ref a) m pl) Q E s := by
  obtain ⟨mA, O, r, _, _, _⟩ := ins_get I.hok e
  have hn : mA m = none := RelO.none_of (by rw [← l]; exact r m)
  exact get_meth I.kIn O (c.get m) k.at_ k.fn hn h

theorem setattr_ok {y : V} {u : Value} {Q : Unit → Shared → Prop} (I : Inv X pins σ H s) (e : H a = some (.ins C dx fs)) (c : Cls X.K C) (n : NoAttr X.K C f) (hl : fs.length < 1000) (ry : RelV y u)
    (h : ∀ s', Inv X pins σ (upd H a (.ins C dx (putF f y fs))) s' → Q () s') : wpAny (model X.prog X.w) A (setAttr (.ref a) f u) Q E s := by
  obtain ⟨mA, O, r, wi, _, ho⟩ := ins_get I.hok e
  have hz : (fs.map (·.1)).length ≤ sizeLine := by rw [List.length_map, sizeLine_eq]; omega
  refine set_map I.kIn O c.sa c.po n.taker c.hd wi hz fun h' O' sb => h _ ?_
  have hd : ∃ o, h'.get? dx = some o := let ⟨o, _, _, e', _⟩ := O'.ns; ⟨o, e'⟩
  refine I.write (x := a) (e := dx) (by rw [e]; exact True.intro) (.inr ho) (fun b q hb z => (sb.2 b hb).trans z) hd ?_
  refine ⟨by rw [upd_ne O.ne]; exact ho, ?_, O.ne, O'.obj, _, O'.ns, fun g => ?_, fun g hg => ?_⟩
  · have := length_putF f y fs; omega
  · show RelO ((putF f y fs).lookup g) (if g = f then some u else mA g)
    rw [lookup_putF]
    by_cases q : g = f
    · rw [if_pos q, if_pos q]; exact ry
    · rw [if_neg q, if_neg q]; exact r g
  · by_cases q : g = f
    · rw [q]; exact (keys_putF f y fs).1
    · refine (keys_putF f y fs).2 g (wi g fun z => hg ?_)
      show (if g = f then some u else mA g) = none
      rw [if_neg q]; exact z

/-- a new instance, tracked, without attributes -/
theorem Inv.made (I : Inv X pins σ H s) : Inv X pins σ (upd (upd H s.heap.objs.size (.own (s.heap.objs.size + 1))) (s.heap.objs.size + 1) (.ins C s.heap.objs.size []))
    { s with heap := (s.heap.push PySem.W.emptyDict).push (PySem.W.instObj C s.heap.objs.size) } := by
  have e1 : (s.heap.push PySem.W.emptyDict).get? s.heap.objs.size = some PySem.W.emptyDict := Heap.get?_push_size s.heap rfl
  have e2 : ((s.heap.push PySem.W.emptyDict).push (PySem.W.instObj C s.heap.objs.size)).get? (s.heap.objs.size + 1) = some (PySem.W.instObj C s.heap.objs.size) := by
    have := Heap.get?_push_size (s.heap.push PySem.W.emptyDict) (o := PySem.W.instObj C s.heap.objs.size) rfl
    rwa [Heap.size_push] at this
  have e3 : (s.heap.push PySem.W.emptyDict).Ns s.heap.objs.size (fun _ => none) := ⟨PySem.W.emptyDict, #[], _, e1, rfl, (fun e he => absurd he (by simp)), fun _ => rfl⟩
  have I1 := I.laid (a := s.heap.objs.size) (o := .own (s.heap.objs.size + 1)) (h' := s.heap.push PySem.W.emptyDict) (t' := s.toks) (fun b u q => Heap.get?_push_of_some _ q) (Nat.le_refl _) ⟨_, e1⟩
  refine I1.laid (a := s.heap.objs.size + 1) (o := .ins C s.heap.objs.size []) (t' := s.toks) (fun b u q => Heap.get?_push_of_some _ q) (Nat.le_of_eq (Heap.size_push _ _)) ?_
  have ne : s.heap.objs.size ≠ s.heap.objs.size + 1 := Nat.ne_of_lt (Nat.lt_succ_self _)
  refine ⟨by rw [upd_ne ne, upd_same], Nat.zero_le _, ne, e2, fun _ => none, (Heap.Ns1.of_empty e3).at fun o q => Heap.get?_push_of_some _ q, fun _ => True.intro, fun y hy => absurd rfl hy⟩

/-- e.f where nothing but the object is asked: through attributeBase (super) and the last hold -/
theorem attr_of {prog : Program} {w : World} {env : Env} {e : Expr} {f : Str} {pos : Pos} {s : Shared} {Q : Value → Shared → Prop} (hb : attributeBase e f env (eval e env) = eval e env)
    (h : wpAny (model prog w) A (eval e env) (fun o s₁ => wpAny (model prog w) A (getAttr o f true) Q E s₁) E s) : wpAny (model prog w) A (eval (.Attribute e f pos) env) Q E s :=
  Attribute_any_ h (by rw [arm_eval_Attribute, hb])
end

/-! ### readings and rules -/
/-- e.f, an attribute of the instance -/
def tFld (K : PySem.W.Frag) (ta : TE) (f : Str) : TE := fun σ H Q => ta σ H fun x H1 => ∃ a C dx fs v, x = .ref a ∧ H1 a = some (.ins C dx fs) ∧ Cls K C ∧ NoAttr K C f ∧ fs.lookup f = some v ∧ Q v H1
/-- e.f, a constant of the class -/
def tCon (K : PySem.W.Frag) (ta : TE) (f : Str) : TE := fun σ H Q => ta σ H fun x H1 => ∃ a C dx fs v u, x = .ref a ∧ H1 a = some (.ins C dx fs) ∧ Cls K C ∧ Con K C f v u ∧ fs.lookup f = none ∧ Q v H1
/-- e.f = value -/
def sFld (K : PySem.W.Frag) (ta tv : TE) (f : Str) : TS := fun D σ H => tv σ H fun y H1 => ta σ H1 fun x H2 => ∃ a C dx fs, x = .ref a ∧ H2 a = some (.ins C dx fs) ∧ Cls K C ∧ NoAttr K C f ∧ fs.length < 1000 ∧
  D.nx σ (upd H2 a (.ins C dx (putF f y fs)))
/-- an augmented operator on two values -/
def InOp (X : Cx) (op : Operator) (rd : V → V → Hp → VK → Prop) : Prop :=
  ∀ (pins : List (Addr × Obj)) (s : Shared) (σ : St) (H : Hp) (x y : V) (u v : Value) (Q : VK), Inv X pins σ H s → RelV x u → RelV y v → rd x y H Q → wpAny (model X.prog X.w) X.A (inplaceOp op u v) (EP X pins σ Q) X.xe s
/-- e.f op= value -/
def sFldAug (K : PySem.W.Frag) (ta tv : TE) (rd : V → V → Hp → VK → Prop) (f : Str) : TS := fun D σ H => ta σ H fun x H1 => ∃ a C dx fs v, x = .ref a ∧ H1 a = some (.ins C dx fs) ∧ Cls K C ∧ NoAttr K C f ∧ fs.lookup f = some v ∧
  tv σ H1 fun y H2 => rd v y H2 fun z H3 => ∃ dx' fs', H3 a = some (.ins C dx' fs') ∧ fs'.length < 1000 ∧ D.nx σ (upd H3 a (.ins C dx' (putF f z fs')))

section
variable {X : Cx} {o e value : Expr} {f : Str} {pos pos' tpos : Pos} {ta tv : TE}
theorem pe_fld (he : PE X e ta) (hb : attributeBase e f X.env (eval e X.env) = eval e X.env) : PE X (.Attribute e f pos) (tFld X.K ta f) := by
  intro pins s σ H Q I h
  refine attr_of hb (thn (he pins s σ H _ I h) fun u s1 ⟨x, H1, I1, rx, a, C, dx, fs, v, ex, ea, c, n, l, q⟩ => ?_)
  subst ex
  obtain rfl : u = Value.ref a := rx
  exact getattr_ok I1 ea c n l fun u' s2 I2 ru => ⟨v, H1, I2, ru, q⟩
theorem pe_con (he : PE X e ta) (hb : attributeBase e f X.env (eval e X.env) = eval e X.env) : PE X (.Attribute e f pos) (tCon X.K ta f) := by
  intro pins s σ H Q I h
  refine attr_of hb (thn (he pins s σ H _ I h) fun u s1 ⟨x, H1, I1, rx, a, C, dx, fs, v, u0, ex, ea, c, k, l, q⟩ => ?_)
  subst ex
  obtain rfl : u = Value.ref a := rx
  exact getcon_ok I1 ea c k l fun s2 I2 => ⟨v, H1, I2, k.rel, q⟩
theorem ps_fld (ha : PE X o ta) (hv : PE X value tv) (hs : swapsWith value (some (.Attribute o f pos')) pos.line X.env = pure false) : PS X (.Assign [.Attribute o f pos'] value pos) (sFld X.K ta tv f) := by
  intro pins s σ H D I h
  refine plainObj_wpAny_Assign_Attribute (thn (hv pins s σ H _ I h) fun u s1 ⟨y, H1, I1, ry, q⟩ => thn (ha pins s1 σ H1 _ I1 q) fun ov s2 ⟨x, H2, I2, rx, a, C, dx, fs, ex, ea, c, n, l, q2⟩ => ?_) hs
  subst ex
  obtain rfl : ov = Value.ref a := rx
  exact setattr_ok I2 ea c n l ry fun s3 I3 => ⟨σ, _, I3, q2⟩
theorem ps_fldaug {op : Operator} {rd : V → V → Hp → VK → Prop} (ha : PE X o ta) (hv : PE X value tv) (hop : InOp X op rd) : PS X (.AugAssign (.Attribute o f tpos) op value pos) (sFldAug X.K ta tv rd f) := by
  intro pins s σ H D I h
  refine wpAny_AugAssign_AttributeAny (thn (ha pins s σ H _ I h) fun ov s1 ⟨x, H1, I1, rx, a, C, dx, fs, v, ex, ea, c, n, l, q⟩ => ?_)
  subst ex
  obtain rfl : ov = Value.ref a := rx
  refine getattr_ok I1 ea c n l fun u s2 I2 ru => thn (hv pins s2 σ H1 _ I2 q) fun w3 s3 ⟨y, H2, I3, ry, q3⟩ => thn (hop pins s3 σ H2 v y u w3 _ I3 ru ry q3) fun w4 s4 ⟨z, H3, I4, rz, dx', fs', ea', l', q4⟩ => ?_
  exact setattr_ok I4 ea' c n l' rz fun s5 I5 => ⟨σ, _, I5, q4⟩
def rAdd : V → V → Hp → VK → Prop := fun x y H Q => ∃ i j, x = .int i ∧ y = .int j ∧ Q (.int (i + j)) H
def rSub : V → V → Hp → VK → Prop := fun x y H Q => ∃ i j, x = .int i ∧ y = .int j ∧ Q (.int (i - j)) H
theorem in_add : InOp X .Add rAdd := by
  rintro pins s σ H x y u v Q I rx ry ⟨i, j, rfl, rfl, q⟩
  obtain ⟨t, rfl⟩ := (show ∃ t, u = Value.int i t from rx)
  obtain ⟨t', rfl⟩ := (show ∃ t', v = Value.int j t' from ry)
  exact PyProof.Rows.iadd_int ⟨.int (i + j), H, I.tok _, ⟨_, rfl⟩, q⟩
theorem in_sub : InOp X .Sub rSub := by
  rintro pins s σ H x y u v Q I rx ry ⟨i, j, rfl, rfl, q⟩
  obtain ⟨t, rfl⟩ := (show ∃ t, u = Value.int i t from rx)
  obtain ⟨t', rfl⟩ := (show ∃ t', v = Value.int j t' from ry)
  exact PyProof.Rows.isub_int ⟨.int (i - j), H, I.tok _, ⟨_, rfl⟩, q⟩

/-- what is between an instance and its method: the tree of a method call -/
theorem methcall_of {pl : Sem Bool} {m : Str} {apos : Pos} {args : List Expr} {pins : List (Addr × Obj)} {s : Shared} {σ : St} {H : Hp} {Q : Value → Shared → Prop} {te : TE} (he : PE X e te) (I : Inv X pins σ H s)
    (h : te σ H fun x H1 => ∃ a C dx fs g, x = .ref a ∧ H1 a = some (.ins C dx fs) ∧ Cls X.K C ∧ Meth X.K C m g ∧ fs.lookup m = none ∧
      ∀ s1, Inv X pins σ H1 s1 → wpAny (model X.prog X.w) X.A (callWith pos (.ref g) [.ref a] (backTo pos (starEach args X.env)) (backToKw pos (keywordEach [] X.env))) Q X.xe s1)
    (ht : eval (.Call (.Attribute e m apos) args [] pos) X.env = (do
      let ov ← eval e X.env
      standAt apos.atName
      let (f, first) ← holding [ov] (getMethod ov m pl)
      callWith pos f first (backTo pos (starEach args X.env)) (backToKw pos (keywordEach [] X.env)))) :
    wpAny (model X.prog X.w) X.A (eval (.Call (.Attribute e m apos) args [] pos) X.env) Q X.xe s := by
  refine PySem.W.methodCall_KW (pl := pl) (thn (he pins s σ H _ I h) fun u s1 ⟨x, H1, I1, rx, a, C, dx, fs, g, ex, ea, c, k, l, q⟩ => ?_) ht
  subst ex
  obtain rfl : u = Value.ref a := rx
  exact getmeth_ok I1 ea c k l (q s1 I1)
end

/-! ### isinstance -/
section
variable {X : Cx} {pins : List (Addr × Obj)} {σ : St} {H : Hp} {s : Shared} {A : Around} {E : Value → Shared → Prop} {Q : Value → Shared → Prop} {c : Value} {b : Bool}
/-- the type of a value, as the fragment's deciders take it; for an instance its class -/
inductive TyOf (K : PySem.W.Frag) (H : Hp) : V → Value → Prop where
  | non : TyOf K H .non (.type "NoneType")
  | bl (x : Bool) : TyOf K H (.bl x) (.type "bool")
  | int (i : Int) : TyOf K H (.int i) (.type "int")
  | str (x : Str) : TyOf K H (.str x) (.type "str")
  | flt (x : UInt64) : TyOf K H (.flt x) (.type "float")
  | lst {a : Addr} {xs : List V} (e : H a = some (.lst xs)) : TyOf K H (.ref a) (.type "list")
  | frz {a : Addr} {o : Obj} {xs : List V} (e : H a = some (.frz o (.lst xs))) : TyOf K H (.ref a) (.type "list")
  | tup {a : Addr} {xs : List V} (e : H a = some (.tup xs)) : TyOf K H (.ref a) (.type "tuple")
  | dK {a : Addr} {kvs : List (Key × V)} (e : H a = some (.dK kvs)) : TyOf K H (.ref a) (.type "dict")
  | dT {a : Addr} {kvs : List (List Key × V)} (e : H a = some (.dT kvs)) : TyOf K H (.ref a) (.type "dict")
  | ins {a C dx : Addr} {fs : List (Str × V)} (e : H a = some (.ins C dx fs)) (cl : Cls K C) (ha : PySem.W.findIn K (.ref C) "__class__" = some (some (.builtin "object.__class__")))
      (hn : PySem.W.specialIn K (.builtin "object.__class__") "__get__" = some (some (.builtin "getset_descriptor.__get__"))) (htk : PySem.W.takesIn K (.builtin "object.__class__") = some true)
      (hm : PySem.W.mroIn K C (.type "object") = some true) : TyOf K H (.ref a) (.ref C)
/-- isinstance(x, c) for one class c, a built-in or an own one: kitOne's answer -/
theorem isinst_ok {x : V} {u t : Value} (I : Inv X pins σ H s) (rx : RelV x u) (ty : TyOf X.K H x t) (e : PySem.W.kitOne X.K t c = some b) (h : ∀ tk, Q (.bool b) { s with toks := tk }) :
    wpAny (model X.prog X.w) A (call (.builtin "isinstance") [u, c]) Q E s := by
  cases ty with
  | non => cases (show u = Value.none from rx); exact PySem.W.kia_one PySem.W.kitx_none I.kIn True.intro e (fun z => nomatch z) h
  | bl y => cases (show u = Value.bool y from rx); exact PySem.W.kia_one PySem.W.kitx_bool I.kIn True.intro e (fun z => nomatch z) h
  | int i => obtain ⟨t, q⟩ := (show ∃ t, u = Value.int i t from rx); cases q; exact PySem.W.kia_one PySem.W.kitx_int I.kIn True.intro e (fun z => nomatch z) h
  | str y => obtain ⟨t, q⟩ := (show ∃ t, u = Value.str y t from rx); cases q; exact PySem.W.kia_one PySem.W.kitx_str I.kIn True.intro e (fun z => nomatch z) h
  | flt y => obtain ⟨t, q⟩ := (show ∃ t, u = Value.float y t from rx); cases q; exact PySem.W.kia_one PySem.W.kitx_float I.kIn True.intro e (fun z => nomatch z) h
  | @lst a xs ea =>
    cases (show u = Value.ref a from rx)
    obtain ⟨_, _, n, _, h1⟩ := (show ObjOk X.prog X.w H s.heap a (.lst xs) from I.hok a _ ea)
    exact PySem.W.kia_one PySem.W.kitx_list I.kIn ⟨_, h1, rfl⟩ e (fun z => nomatch z) h
  | @frz a ob xs ea =>
    cases (show u = Value.ref a from rx)
    obtain ⟨_, _, _, n, _, h1⟩ := (show ObjOk X.prog X.w H s.heap a (.frz ob (.lst xs)) from I.hok a _ ea)
    exact PySem.W.kia_one PySem.W.kitx_list I.kIn ⟨_, h1, rfl⟩ e (fun z => nomatch z) h
  | @tup a xs ea =>
    cases (show u = Value.ref a from rx)
    obtain ⟨_, _, _, p⟩ := (show ObjOk X.prog X.w H s.heap a (.tup xs) from I.hok a _ ea)
    obtain ⟨o, h1, h2, _⟩ := p
    exact PySem.W.kia_one PySem.W.kitx_tuple I.kIn ⟨o, h1, h2⟩ e (fun z => nomatch z) h
  | @dK a kvs ea =>
    cases (show u = Value.ref a from rx)
    obtain ⟨_, _, vs, _, p⟩ := (show ObjOk X.prog X.w H s.heap a (.dK kvs) from I.hok a _ ea)
    obtain ⟨o, es, ep, h1, h2, _⟩ := p
    exact PySem.W.kia_one PySem.W.kitx_dict I.kIn ⟨o, h1, h2.1⟩ e (fun z => nomatch z) h
  | @dT a kvs ea =>
    cases (show u = Value.ref a from rx)
    obtain ⟨_, _, xs, _, o, es, ep, h1, h2, _⟩ := (show ObjOk X.prog X.w H s.heap a (.dT kvs) from I.hok a _ ea)
    exact PySem.W.kia_one PySem.W.kitx_dict I.kIn ⟨o, h1, h2.1⟩ e (fun z => nomatch z) h
  | @ins a C dx fs ea cl ha hn htk hm =>
    cases (show u = Value.ref a from rx)
    obtain ⟨mA, O, _⟩ := ins_get I.hok ea
    obtain ⟨od, J, _⟩ := O.look
    exact PySem.W.kia_one (PySem.W.kitx_own (cl.get _) cl.hd ha hn htk hm) I.kIn J e (fun z => nomatch z) h
end
end L2

namespace L2
open PySem PySem.Spec PyProof.Rows

/-! ### room -/
structure Room (k : Nat) (A : Around) : Prop where
  hd : A.handled = none
  dp : A.depth + 3 * k + 5 < recursionLimit
  un : A.units + 16 * k + 200 < cLine
theorem Room.mono {j k : Nat} {A : Around} (r : Room k A) (h : j ≤ k) : Room j A := ⟨r.hd, by have := r.dp; omega, by have := r.un; omega⟩
theorem Room.deeper {k : Nat} {A : Around} (r : Room (k + 1) A) (env : Env) : Room k (A.deeper env) :=
  ⟨r.hd, by have := r.dp; show A.depth + 1 + 3 * k + 5 < _; omega, by have := r.un; show A.units + 3 + 16 * k + 200 < _; omega⟩
theorem Room.in1 {k : Nat} {A : Around} (r : Room (k + 1) A) : Room k A.in1 :=
  ⟨r.hd, by have := r.dp; show A.depth + 3 * k + 5 < _; omega, by have := r.un; show A.units + 1 + 16 * k + 200 < _; omega⟩
theorem make_depth {A : Around} {C : Addr} {us : List Value} {kw : List (Str × Value)} : (A.under (.builtin "type.__call__" ⟨.ref C :: us, kw⟩)).depth = A.depth + 1 := by
  first | rfl | simp [Around.under, Code.weight, Code.isCreation, Code.isGuard, Code.isCaller, Code.frames, Code.isFrame, guardIds]
theorem make_units {A : Around} {C : Addr} {us : List Value} {kw : List (Str × Value)} : (A.under (.builtin "type.__call__" ⟨.ref C :: us, kw⟩)).units = A.units + 1 := by
  first | rfl | simp [Around.under, Code.cUnits, Code.frames, Code.isFrame]
theorem Room.make {k : Nat} {A : Around} (r : Room (k + 1) A) (C : Addr) (us : List Value) (kw : List (Str × Value)) : Room k (A.under (.builtin "type.__call__" ⟨.ref C :: us, kw⟩)) :=
  ⟨r.hd, by have := r.dp; rw [make_depth]; omega, by have := r.un; rw [make_units]; omega⟩
theorem Room.depth {k : Nat} {A : Around} (r : Room k A) : A.depth < recursionLimit := by have := r.dp; omega
theorem Room.units {k : Nat} {A : Around} (r : Room k A) : A.units + 64 < cLine := by have := r.un; omega
theorem Room.units0 {k : Nat} {A : Around} (r : Room k A) : A.units < cLine := by have := r.un; omega

/-! ### argument lists and displays -/
def tNil : TA := fun _ H Q => Q [] H
def tCons (ta : TE) (tr : TA) : TA := fun σ H Q => ta σ H fun x H1 => tr σ H1 fun xs H2 => Q (x :: xs) H2
section
variable {X : Cx} {e : Expr} {es : List Expr} {te : TE} {t : TA} {pos : Pos}
theorem pa_nil : PA X [] tNil := fun _ _ _ _ H Q I h => Calls.spliced_nil ⟨[], H, I, .nil, h⟩
theorem pa_cons (ha : PE X e te) (hr : PA X es t) (hs : starEach (e :: es) X.env = (false, eval e X.env) :: starEach es X.env := by rfl) : PA X (e :: es) (tCons te t) := by
  intro pos pins s σ H Q I h
  rw [hs]
  show wpAny _ _ (spliced ((false, eval e X.env) :: backTo pos (starEach es X.env))) _ _ s
  refine Calls.spliced_cons (thn (ha pins s σ H _ I h) fun u s1 ⟨x, H1, I1, r1, q1⟩ => ?_)
  exact thn (hr pos pins s1 σ H1 _ I1 q1) fun us s2 ⟨xs, H2, I2, r2, q2⟩ => ⟨x :: xs, H2, I2, .cons r1 r2, q2⟩

/-- a tuple, a list of written items -/
def tTup (t : TA) : TE := fun σ H Q => t σ H fun xs H1 => xs.length ≤ sizeLine ∧ ∀ p, H1 p = none → Q (.ref p) (upd H1 p (.tup xs))
def tLst (t : TA) : TE := fun σ H Q => t σ H fun xs H1 => xs.length ≤ sizeLine ∧ ∀ p, H1 p = none → Q (.ref p) (upd H1 p (.lst xs))
theorem pe_tup {x1} (h : PA X es t) : PE X (.Tuple es x1 pos) (tTup t) := by
  intro pins s σ H Q I hq
  refine wpAny_Tuple_spliced (thn (h pos pins s σ H _ I hq) fun us s1 ⟨xs, H1, I1, r, z, q⟩ => ⟨by rw [← r.length]; exact z, ?_⟩)
  have hf : H1 s1.heap.objs.size = none := I1.hok.fresh (Nat.le_refl _)
  refine ⟨.ref s1.heap.objs.size, upd H1 s1.heap.objs.size (.tup xs), I1.laid (t' := s1.toks) (fun b u e => Heap.get?_push_of_some _ e) (Nat.le_refl _) ?_, rfl, q _ hf⟩
  exact ⟨z, us, r, ⟨_, Heap.get?_push_size _ rfl, rfl, _, rfl⟩⟩
theorem pe_lst (h : PA X es t) : PE X (.List es pos) (tLst t) := by
  intro pins s σ H Q I hq
  refine wpAny_List_spliced (thn (h pos pins s σ H _ I hq) fun us s1 ⟨xs, H1, I1, r, z, q⟩ => ⟨by rw [← r.length]; exact z, ?_⟩)
  have hf : H1 s1.heap.objs.size = none := I1.hok.fresh (Nat.le_refl _)
  refine ⟨.ref s1.heap.objs.size, upd H1 s1.heap.objs.size (.lst xs), I1.laid (t' := s1.toks) (fun b u e => Heap.get?_push_of_some _ e) (Nat.le_refl _) ?_, rfl, q _ hf⟩
  exact ⟨z, us, 0, r, Heap.get?_push_size _ rfl⟩
end

/-! ### what a def promises -/
/-- a def's promise: the bound arguments in the parameters' order, the heap, the wanted end, the wanted exception -/
abbrev Sp := List V → Hp → VK → XK → Prop
/-- how an exception lies behind a call (file 08 gives it): the callers' frames, abstract heap and state ahead of the call, the wish, the exception, the state -/
abbrev CXT := List Env → Hp → Shared → XK → Value → Shared → Prop

/-- the state at a call -/
structure Env0 (P : Program) (w : World) (K : PySem.W.Frag) (mg : Str → Option Value) (base : Heap) (A : Around) (outer : List Env) (s : Shared) (H : Hp) : Prop where
  frames : A.frames = some outer
  mod : Mod K mg base
  bs : ∀ b o, base.get? b = some o → s.heap.get? b = some o ∧ H b = none
  bsz : base.objs.size ≤ s.heap.objs.size
  funs : s.heap.FunFrames base outer
  frf : ∀ b ∈ frs outer, H b = none
  hok : HOk P w H s.heap
  bare : AllBare s.gens
/-- a call's end -/
def CE (outer : List Env) (P : Program) (w : World) (H : Hp) (s : Shared) (Q : VK) (u : Value) (s' : Shared) : Prop :=
  ∃ v H', s'.os = s.os ∧ AllBare s'.gens ∧ Un (frs outer) [] H H' s.heap s'.heap ∧ HOk P w H' s'.heap ∧ RelV v u ∧ Q v H'
def CR (CX : CXT) (outer : List Env) (P : Program) (w : World) (H : Hp) (s : Shared) (Q : VK) (E : XK) (r : Result) (s' : Shared) : Prop :=
  match r with
  | .ok (.ret u) => CE outer P w H s Q u s'
  | .ok _ => False
  | .error e => CX outer H s E e s'
structure FnOk (P : Program) (w : World) (K : PySem.W.Frag) (mg : Str → Option Value) (base : Heap) (CX : CXT) (k : Nat) (f : Addr) (fd : FuncData) (ps : List Str) (sp : Sp) : Prop where
  len : ∀ vs H Q E, sp vs H Q E → vs.length = ps.length
  run : ∀ (A : Around) (outer : List Env) (s : Shared) (H : Hp) (args : Args) (us : List Value) (vs : List V) (Q : VK) (E : XK), Room k A → Env0 P w K mg base A outer s H → BindsTo s fd args (ps.zip us) → Vals vs us → sp vs H Q E →
    codeAny (model P w) A (.call (.ref f) args) (CR CX outer P w H s Q E) s
theorem FnOk.mono {P : Program} {w : World} {K : PySem.W.Frag} {mg : Str → Option Value} {base : Heap} {CX : CXT} {j k : Nat} {f : Addr} {fd : FuncData} {ps : List Str} {sp : Sp} (F : FnOk P w K mg base CX j f fd ps sp) (h : j ≤ k) :
    FnOk P w K mg base CX k f fd ps sp := ⟨F.len, fun A outer s H args us vs Q E hr => F.run A outer s H args us vs Q E (hr.mono h)⟩
/-- a weaker promise -/
theorem FnOk.imp {P : Program} {w : World} {K : PySem.W.Frag} {mg : Str → Option Value} {base : Heap} {CX : CXT} {k : Nat} {f : Addr} {fd : FuncData} {ps : List Str} {sp sp' : Sp} (F : FnOk P w K mg base CX k f fd ps sp)
    (h : ∀ vs H Q E, sp' vs H Q E → sp vs H Q E) : FnOk P w K mg base CX k f fd ps sp' :=
  ⟨fun vs H Q E q => F.len vs H Q E (h _ _ _ _ q), fun A outer s H args us vs Q E hr he hb hv hs => F.run A outer s H args us vs Q E hr he hb hv (h _ _ _ _ hs)⟩

theorem Env0.make {P : Program} {w : World} {K : PySem.W.Frag} {mg : Str → Option Value} {base : Heap} {A : Around} {outer : List Env} {s : Shared} {H : Hp} (e : Env0 P w K mg base A outer s H) (C : Addr) (us : List Value) (kw : List (Str × Value)) :
    Env0 P w K mg base (A.under (.builtin "type.__call__" ⟨.ref C :: us, kw⟩)) outer s H := ⟨by first | exact e.frames | (simpa [Around.under, Code.envs, Code.isFrame, pushEnvs] using e.frames), e.mod, e.bs, e.bsz, e.funs, e.frf, e.hok, e.bare⟩
theorem Env0.in1 {P : Program} {w : World} {K : PySem.W.Frag} {mg : Str → Option Value} {base : Heap} {A : Around} {outer : List Env} {s : Shared} {H : Hp} (e : Env0 P w K mg base A outer s H) :
    Env0 P w K mg base A.in1 outer s H := ⟨e.frames, e.mod, e.bs, e.bsz, e.funs, e.frf, e.hok, e.bare⟩

section
variable {X : Cx} {pins : List (Addr × Obj)} {σ : St} {H : Hp} {s s' : Shared}
/-- from a body: what a callee wants -/
theorem Inv.env0 (I : Inv X pins σ H s) : Env0 X.prog X.w X.K X.mg X.base X.A X.stack s H :=
  ⟨I.ok.frames, I.ok.mod, I.bs, Nat.le_trans I.ok.bsz I.sz, I.stack, I.stkFree, I.hok, I.bare⟩
/-- behind a call -/
theorem Inv.after {Q : VK} {u : Value} (I : Inv X pins σ H s) (h : CE X.stack X.prog X.w H s Q u s') : EP X pins σ Q u s' := by
  obtain ⟨v, H', os, bare, un, hok, r, q⟩ := h
  obtain ⟨hh, g, d, t, os'⟩ := s'
  obtain rfl : os' = s.os := os
  exact ⟨v, H', I.call (h' := hh) (g' := g) (d' := d) (t' := t) (ch := []) un hok bare (fun b z => absurd z (by simp)), r, q⟩
end

/-! ### calls -/
/-- f(..): the written arguments, then the defaults dvs; E: what is wanted of an exception -/
def tCall (sp : Sp) (dvs : List V) (E : XK) (t : TA) : TE := fun σ H Q => t σ H fun vs H1 => sp (vs ++ dvs) H1 Q E
/-- o.m(..) of an instance of the class at C -/
def tMeth (C : Addr) (m : Str) (sp : Sp) (dvs : List V) (E : XK) (ta : TE) (t : TA) : TE := fun σ H Q => ta σ H fun x H1 => ∃ a dx fs, x = .ref a ∧ H1 a = some (.ins C dx fs) ∧ fs.lookup m = none ∧
  t σ H1 fun vs H2 => sp (x :: (vs ++ dvs)) H2 Q E
/-- C(..): a new instance and its dict, then __init__ -/
def tMake (C : Addr) (sp : Sp) (dvs : List V) (E : XK) (t : TA) : TE := fun σ H Q => t σ H fun vs H1 => ∀ x dx, H1 x = none → H1 dx = none → dx ≠ x →
  sp (.ref x :: (vs ++ dvs)) (upd (upd H1 dx (.own x)) x (.ins C dx [])) (fun v H2 => v = .non ∧ Q (.ref x) H2) E

/-- how the parameters are bound: us the positional arguments, kw the keywords' values by name, ds the defaults that fill up -/
def Binds (K : PySem.W.Frag) (fd : FuncData) (ps : List Str) (ds : List Value) : Prop :=
  ∀ (s : Shared) (us : List Value), K.In s.heap → (us ++ ds).length = ps.length → BindsTo s fd ⟨us, []⟩ (ps.zip (us ++ ds))
/-- every parameter is given -/
theorem Binds.all {K : PySem.W.Frag} {fd : FuncData} {ps : List Str} (h : ∀ us : List Value, us.length = ps.length → bindArgs fd ⟨us, []⟩ = pure (ps.zip us)) : Binds K fd ps [] := fun s us _ hl => by
  rw [List.append_nil] at hl ⊢
  exact .of_eq (h us hl)

/-- an exception of a callee reaches what this body wants of exceptions -/
def Passes (CX : CXT) (X : Cx) (E : XK) : Prop := ∀ (pins : List (Addr × Obj)) (σ : St) (H : Hp) (s : Shared) (e : Value) (s' : Shared), Inv X pins σ H s → CX X.stack H s E e s' → X.xe e s'

section
variable {X : Cx} {CX : CXT} {k : Nat} {f C : Addr} {fd : FuncData} {ps : List Str} {sp : Sp} {dvs : List V} {ds : List Value} {E : XK} {x m : Str} {p pos apos : Pos} {e o : Expr} {es : List Expr} {ta : TE} {t : TA}

/-- the callee runs -/
theorem run_fn {pins : List (Addr × Obj)} {σ : St} {H : Hp} {s : Shared} {Q : VK} {us : List Value} {vs : List V} (F : FnOk X.prog X.w X.K X.mg X.base CX k f fd ps sp) (hr : Room k X.A) (hb : Binds X.K fd ps ds) (hd : Vals dvs ds) (hx : Passes CX X E)
    (I : Inv X pins σ H s) (r : Vals vs us) (h : sp (vs ++ dvs) H Q E) : wpAny (model X.prog X.w) X.A (call (.ref f) us) (EP X pins σ Q) X.xe s := by
  have r2 : Vals (vs ++ dvs) (us ++ ds) := r.append hd
  have hl : (us ++ ds).length = ps.length := by rw [← r2.length]; exact F.len _ _ _ _ h
  refine wpAny_call (codeAny_mono (F.run X.A X.stack s H ⟨us, []⟩ (us ++ ds) (vs ++ dvs) Q E hr I.env0 (hb s us I.kIn hl) r2 h) fun r s' hq => ?_)
  cases r with
  | error e => exact hx pins σ H s e s' I hq
  | ok fl =>
    cases fl with
    | ret u => exact I.after hq
    | next => exact False.elim hq
    | brk => exact False.elim hq
    | cont => exact False.elim hq

theorem pe_call (F : FnOk X.prog X.w X.K X.mg X.base CX k f fd ps sp) (hr : Room k X.A) (hg : Gl X x) (hm : X.mg x = some (.ref f)) (hk : PySem.W.keepIn X.K (.ref f) = true) (hb : Binds X.K fd ps ds) (hd : Vals dvs ds) (hx : Passes CX X E)
    (ha : PA X (e :: es) t) (hdb : (x == ("__debug__" : Str)) = false := by decide) (he : starEach (e :: es) X.env = (false, eval e X.env) :: starEach es X.env := by rfl) (hpl : (backTo pos (starEach es X.env)).any (·.1) = false := by rfl) :
    PE X (.Call (.Name x p) (e :: es) [] pos) (tCall sp dvs E t) := by
  intro pins s σ H Q I h
  refine wpAny_Call_Name_kw (ld_glob I hg hm ?_ hdb)
  refine PySem.W.callWith_K (h₀ := X.base) I.ok.mod.kin hk (thn (ha pos pins s σ H _ I h) fun us s1 ⟨vs, H1, I1, r, q⟩ => ⟨I1.kIn, ?_⟩) he hpl
  exact run_fn F hr hb hd hx I1 r q
theorem pe_call0 (F : FnOk X.prog X.w X.K X.mg X.base CX k f fd ps sp) (hr : Room k X.A) (hg : Gl X x) (hm : X.mg x = some (.ref f)) (hk : PySem.W.keepIn X.K (.ref f) = true) (hb : Binds X.K fd ps ds) (hd : Vals dvs ds) (hx : Passes CX X E)
    (hdb : (x == ("__debug__" : Str)) = false := by decide) : PE X (.Call (.Name x p) [] [] pos) (tCall sp dvs E tNil) := by
  intro pins s σ H Q I h
  refine wpAny_Call_Name_kw (ld_glob I hg hm ?_ hdb)
  exact PySem.W.callWith_K0 I.kIn hk (run_fn (us := []) F hr hb hd hx I .nil h)

/-- o.m(e, ..) -/
theorem pe_meth {pl : Sem Bool} (he : PE X o ta) (c : Cls X.K C) (hm : Meth X.K C m f) (F : FnOk X.prog X.w X.K X.mg X.base CX k f fd ps sp) (hr : Room k X.A) (hb : Binds X.K fd ps ds) (hd : Vals dvs ds) (hx : Passes CX X E) (ha : PA X (e :: es) t)
    (hst : starEach (e :: es) X.env = (false, eval e X.env) :: starEach es X.env := by rfl) (hpl : (backTo pos (starEach es X.env)).any (·.1) = false := by rfl)
    (ht : eval (.Call (.Attribute o m apos) (e :: es) [] pos) X.env = (do
      let ov ← eval o X.env
      standAt apos.atName
      let (f, first) ← holding [ov] (getMethod ov m pl)
      callWith pos f first (backTo pos (starEach (e :: es) X.env)) (backToKw pos (keywordEach [] X.env))) := by rfl) :
    PE X (.Call (.Attribute o m apos) (e :: es) [] pos) (tMeth C m sp dvs E ta t) := by
  intro pins s σ H Q I h
  refine PySem.W.methodCall_KW (pl := pl) (thn (he pins s σ H _ I h) fun u s1 ⟨x, H1, I1, rx, a, dx, fs, ex, ea, l, q⟩ => ?_) ht
  subst ex
  obtain rfl : u = Value.ref a := rx
  refine getmeth_ok I1 ea c hm l ?_
  refine PySem.W.callWith_K (first := [.ref a]) (h₀ := X.base) I.ok.mod.kin hm.kp (thn (ha pos pins s1 σ H1 _ I1 q) fun us s2 ⟨vs, H2, I2, r, q2⟩ => ⟨I2.kIn, ?_⟩) hst hpl
  exact run_fn (us := .ref a :: us) (vs := .ref a :: vs) F hr hb hd hx I2 (.cons rfl r) q2
/-- o.m() -/
theorem pe_meth0 {pl : Sem Bool} (he : PE X o ta) (c : Cls X.K C) (hm : Meth X.K C m f) (F : FnOk X.prog X.w X.K X.mg X.base CX k f fd ps sp) (hr : Room k X.A) (hb : Binds X.K fd ps ds) (hd : Vals dvs ds) (hx : Passes CX X E)
    (ht : eval (.Call (.Attribute o m apos) [] [] pos) X.env = (do
      let ov ← eval o X.env
      standAt apos.atName
      let (f, first) ← holding [ov] (getMethod ov m pl)
      callWith pos f first (backTo pos (starEach [] X.env)) (backToKw pos (keywordEach [] X.env))) := by rfl) :
    PE X (.Call (.Attribute o m apos) [] [] pos) (tMeth C m sp dvs E ta tNil) := by
  intro pins s σ H Q I h
  refine PySem.W.methodCall_KW (pl := pl) (thn (he pins s σ H _ I h) fun u s1 ⟨x, H1, I1, rx, a, dx, fs, ex, ea, l, q⟩ => ?_) ht
  subst ex
  obtain rfl : u = Value.ref a := rx
  refine getmeth_ok I1 ea c hm l ?_
  exact PySem.W.callWith_K0 (first := [.ref a]) I1.kIn hm.kp (run_fn (us := [.ref a]) (vs := [.ref a]) F hr hb hd hx I1 (.cons rfl .nil) q)

/-- what a class must have to be made -/
structure Mk (K : PySem.W.Frag) (C f : Addr) : Prop where
  makes : PySem.W.makesIn K C = true
  init : PySem.W.findIn K (.ref C) "__init__" = some (some (.ref f))
  fn : PySem.W.isFn K (.ref f) = true
  kp : PySem.W.keepIn K (.ref C) = true

theorem run_make {pins : List (Addr × Obj)} {σ : St} {H : Hp} {s : Shared} {Q : VK} {us : List Value} {vs : List V} (M : Mk X.K C f) (F : FnOk X.prog X.w X.K X.mg X.base CX k f fd ps sp) (hr : Room (k + 1) X.A) (hb : Binds X.K fd ps ds) (hd : Vals dvs ds)
    (hx : Passes CX X E) (I : Inv X pins σ H s) (r : Vals vs us)
    (h : ∀ x dx, H x = none → H dx = none → dx ≠ x → sp (.ref x :: (vs ++ dvs)) (upd (upd H dx (.own x)) x (.ins C dx [])) (fun v H2 => v = .non ∧ Q (.ref x) H2) E) :
    wpAny (model X.prog X.w) X.A (call (.ref C) us) (EP X pins σ Q) X.xe s := by
  have hq := h (s.heap.objs.size + 1) s.heap.objs.size (I.hok.fresh (Nat.le_succ _)) (I.hok.fresh (Nat.le_refl _)) (Nat.ne_of_lt (Nat.lt_succ_self _))
  have I2 := Inv.made (C := C) I
  have r2 : Vals (V.ref (s.heap.objs.size + 1) :: (vs ++ dvs)) (Value.ref (s.heap.objs.size + 1) :: (us ++ ds)) := .cons rfl (r.append hd)
  have hl : (Value.ref (s.heap.objs.size + 1) :: us ++ ds).length = ps.length := by
    have e := r2.length
    rw [F.len _ _ _ _ hq] at e
    exact e.symm
  refine wpAny_call (make_map (f := f) I.kIn M.makes M.init (beq_iff_eq.mp M.fn) (codeAny_mono (F.run _ X.stack _ _ ⟨Value.ref (s.heap.objs.size + 1) :: us, []⟩ (Value.ref (s.heap.objs.size + 1) :: (us ++ ds)) _ _ E (hr.make C us [])
    (I2.env0.make C us []) (hb _ (Value.ref (s.heap.objs.size + 1) :: us) I2.kIn hl) r2 hq) fun r s' hq' => ?_))
  cases r with
  | error e => exact hx pins σ _ _ e s' I2 hq'
  | ok fl =>
    cases fl with
    | ret u =>
      obtain ⟨v, H', I3, rv, ev, q3⟩ := I2.after hq'
      subst ev
      exact ⟨rv, ⟨V.ref (s.heap.objs.size + 1), H', I3, rfl, q3⟩⟩
    | next => exact False.elim hq'
    | brk => exact False.elim hq'
    | cont => exact False.elim hq'
theorem pe_make (M : Mk X.K C f) (F : FnOk X.prog X.w X.K X.mg X.base CX k f fd ps sp) (hr : Room (k + 1) X.A) (hg : Gl X x) (hm : X.mg x = some (.ref C)) (hb : Binds X.K fd ps ds) (hd : Vals dvs ds) (hx : Passes CX X E)
    (ha : PA X (e :: es) t) (hdb : (x == ("__debug__" : Str)) = false := by decide) (he : starEach (e :: es) X.env = (false, eval e X.env) :: starEach es X.env := by rfl) (hpl : (backTo pos (starEach es X.env)).any (·.1) = false := by rfl) :
    PE X (.Call (.Name x p) (e :: es) [] pos) (tMake C sp dvs E t) := by
  intro pins s σ H Q I h
  refine wpAny_Call_Name_kw (ld_glob I hg hm ?_ hdb)
  refine PySem.W.callWith_K (h₀ := X.base) I.ok.mod.kin M.kp (thn (ha pos pins s σ H _ I h) fun us s1 ⟨vs, H1, I1, r, q⟩ => ⟨I1.kIn, ?_⟩) he hpl
  exact run_make M F hr hb hd hx I1 r q
theorem pe_make0 (M : Mk X.K C f) (F : FnOk X.prog X.w X.K X.mg X.base CX k f fd ps sp) (hr : Room (k + 1) X.A) (hg : Gl X x) (hm : X.mg x = some (.ref C)) (hb : Binds X.K fd ps ds) (hd : Vals dvs ds) (hx : Passes CX X E)
    (hdb : (x == ("__debug__" : Str)) = false := by decide) : PE X (.Call (.Name x p) [] [] pos) (tMake C sp dvs E tNil) := by
  intro pins s σ H Q I h
  refine wpAny_Call_Name_kw (ld_glob I hg hm ?_ hdb)
  exact PySem.W.callWith_K0 I.kIn M.kp (run_make (us := []) M F hr hb hd hx I .nil h)
end

/-! ### keywords -/
/-- the values of the keywords, from the left -/
def PK (X : Cx) (kws : List Keyword) (t : TA) : Prop :=
  ∀ (pos : Pos) (pins : List (Addr × Obj)) (s : Shared) (σ : St) (H : Hp) (Q : List V → Hp → Prop), Inv X pins σ H s → t σ H Q → wpAny (model X.prog X.w) X.A (evalAll ((backToKw pos (keywordEach kws X.env)).map (·.2))) (AP X pins σ Q) X.xe s
section
variable {X : Cx} {CX : CXT} {k : Nat} {f C : Addr} {fd : FuncData} {ps ks : List Str} {sp : Sp} {E : XK} {x m : Str} {p pos apos kpos : Pos} {e o : Expr} {es : List Expr} {kws : List Keyword} {te ta : TE} {t tk : TA} {nm : Option Str}
theorem pk_nil : PK X [] tNil := fun _ _ _ _ H Q I h => wpAny_evalAll_nil ⟨[], H, I, .nil, h⟩
theorem pk_cons (ha : PE X e te) (hr : PK X kws t) : PK X (⟨nm, e, kpos⟩ :: kws) (tCons te t) := by
  intro pos pins s σ H Q I h
  show wpAny _ _ (evalAll ((do let v ← eval e X.env; standAt pos; pure v) :: (backToKw pos (keywordEach kws X.env)).map (·.2))) _ _ s
  refine wpAny_evalAll_cons (wpAny_bind (thn (ha pins s σ H _ I h) fun u s1 ⟨x, H1, I1, r1, q1⟩ => wpAny_bind (wpAny_standAt (wpAny_pure ?_))))
  exact thn (hr pos pins s1 σ H1 _ I1 q1) fun us s2 ⟨xs, H2, I2, r2, q2⟩ => ⟨x :: xs, H2, I2, .cons r1 r2, q2⟩

/-- how a call with keywords binds: g puts the positional values us and the keywords' values ws (names ks) in the parameters' order, defaults among them -/
structure KBinds (K : PySem.W.Frag) (fd : FuncData) (ps ks : List Str) (g : List Value → List Value → List Value) (gV : List V → List V → List V) : Prop where
  to : ∀ (s : Shared) (us ws : List Value), K.In s.heap → (g us ws).length = ps.length → BindsTo s fd ⟨us, ks.zip ws⟩ (ps.zip (g us ws))
  rel : ∀ {vs : List V} {us : List Value} {zs : List V} {ws : List Value}, Vals vs us → Vals zs ws → Vals (gV vs zs) (g us ws)
def tCallK (sp : Sp) (gV : List V → List V → List V) (E : XK) (t tk : TA) : TE := fun σ H Q => t σ H fun vs H1 => tk σ H1 fun zs H2 => sp (gV vs zs) H2 Q E
variable {g : List Value → List Value → List Value} {gV : List V → List V → List V}
theorem run_fnk {pins : List (Addr × Obj)} {σ : St} {H : Hp} {s : Shared} {Q : VK} {us ws : List Value} {vs zs : List V} (F : FnOk X.prog X.w X.K X.mg X.base CX k f fd ps sp) (hr : Room k X.A) (hb : KBinds X.K fd ps ks g gV) (hx : Passes CX X E)
    (I : Inv X pins σ H s) (r : Vals vs us) (rz : Vals zs ws) (h : sp (gV vs zs) H Q E) : wpAny (model X.prog X.w) X.A (call (.ref f) us (ks.zip ws)) (EP X pins σ Q) X.xe s := by
  have r2 := hb.rel r rz
  have hl : (g us ws).length = ps.length := by rw [← r2.length]; exact F.len _ _ _ _ h
  refine wpAny_call (codeAny_mono (F.run X.A X.stack s H ⟨us, ks.zip ws⟩ (g us ws) (gV vs zs) Q E hr I.env0 (hb.to s us ws I.kIn hl) r2 h) fun r s' hq => ?_)
  cases r with
  | error e => exact hx pins σ H s e s' I hq
  | ok fl =>
    cases fl with
    | ret u => exact I.after hq
    | next => exact False.elim hq
    | brk => exact False.elim hq
    | cont => exact False.elim hq
/-- f(e, .., k = v, ..) -/
theorem pe_callK (F : FnOk X.prog X.w X.K X.mg X.base CX k f fd ps sp) (hr : Room k X.A) (hg : Gl X x) (hm : X.mg x = some (.ref f)) (hk : PySem.W.keepIn X.K (.ref f) = true) (hb : KBinds X.K fd ps ks g gV) (hx : Passes CX X E)
    (ha : PA X (e :: es) t) (hkw : PK X kws tk) (hall : (backToKw pos (keywordEach kws X.env)).all (·.1.isSome) = true := by rfl) (hks : (backToKw pos (keywordEach kws X.env)).filterMap (·.1) = ks := by rfl)
    (hdb : (x == ("__debug__" : Str)) = false := by decide) (he : starEach (e :: es) X.env = (false, eval e X.env) :: starEach es X.env := by rfl)
    (hpl : ((backTo pos (starEach (e :: es) X.env)).any (·.1) || (backToKw pos (keywordEach kws X.env)).any (·.1.isNone)) = false := by rfl) :
    PE X (.Call (.Name x p) (e :: es) kws pos) (tCallK sp gV E t tk) := by
  intro pins s σ H Q I h
  refine wpAny_Call_Name_kw (ld_glob I hg hm ?_ hdb)
  refine PySem.W.callWith_KW (h₀ := X.base) I.ok.mod.kin hk hall (thn (ha pos pins s σ H _ I h) fun us s1 ⟨vs, H1, I1, r, q⟩ => ?_) hpl he
  refine thn (hkw pos pins s1 σ H1 _ I1 q) fun ws s2 ⟨zs, H2, I2, rz, q2⟩ => ⟨I2.kIn, ?_⟩
  rw [hks]
  exact run_fnk F hr hb hx I2 r rz q2
end

/-! ### a def's body keeps its promise -/
/-- names: the parameters first -/
structure FnScope (N P : List Str) (sc : Scope) : Prop where
  kind : sc.kind = .function
  co : sc.isCoroutine = false
  gen : sc.isGenerator = false
  nd : N.Nodup
  pre : N.take P.length = P
  par : ∀ x ∈ P, sc.names.lookup x = some .local ∨ sc.names.lookup x = some .cell
  nofree : ∀ y ∈ sc.names, y.2 ≠ .free

theorem bindL_out {kindOf : Str → Option NameKind} {x : Str} : ∀ {binds : List (Str × Value)} {m : Str → Option Value}, (∀ v, (x, v) ∉ binds) → bindL kindOf binds m x = m x
  | [], _, _ => rfl
  | (n, v) :: r, m, h => by
    unfold bindL
    rw [bindL_out fun w hw => h w (List.mem_cons_of_mem _ hw)]
    split
    · have : x ≠ n := by rintro rfl; exact h v List.mem_cons_self
      simp [this]
    · rfl
theorem bindC_out {kindOf : Str → Option NameKind} {x : Str} : ∀ {binds : List (Str × Value)} {m : Str → Option Value}, (∀ v, (x, v) ∉ binds) → bindC kindOf binds m x = m x
  | [], _, _ => rfl
  | (n, v) :: r, m, h => by
    unfold bindC
    rw [bindC_out fun w hw => h w (List.mem_cons_of_mem _ hw)]
    split
    · rfl
    · have : x ≠ n := by rintro rfl; exact h v List.mem_cons_self
      simp [this]
theorem bindL_get {kindOf : Str → Option NameKind} {x : Str} {v : Value} : ∀ {P : List Str} {vs : List Value} {i : Nat} {m : Str → Option Value}, P.Nodup → P[i]? = some x → vs[i]? = some v → kindOf x = some .local →
    bindL kindOf (P.zip vs) m x = some v
  | [], _, _, _, _, h, _, _ => by simp at h
  | _ :: _, [], _, _, _, _, h, _ => by simp at h
  | p :: P, w :: vs, 0, m, nd, h1, h2, hk => by
    simp at h1 h2; subst h1; subst h2
    show bindL kindOf ((p, w) :: P.zip vs) m p = _
    unfold bindL
    rw [bindL_out fun v hv => (List.nodup_cons.mp nd).1 (List.of_mem_zip hv).1, if_pos hk]
    simp
  | p :: P, w :: vs, i + 1, m, nd, h1, h2, hk => by
    show bindL kindOf ((p, w) :: P.zip vs) m x = _
    unfold bindL
    exact bindL_get (i := i) (List.nodup_cons.mp nd).2 (by simpa using h1) (by simpa using h2) hk
theorem bindC_get {kindOf : Str → Option NameKind} {x : Str} {v : Value} : ∀ {P : List Str} {vs : List Value} {i : Nat} {m : Str → Option Value}, P.Nodup → P[i]? = some x → vs[i]? = some v → kindOf x ≠ some .local →
    bindC kindOf (P.zip vs) m x = some v
  | [], _, _, _, _, h, _, _ => by simp at h
  | _ :: _, [], _, _, _, _, h, _ => by simp at h
  | p :: P, w :: vs, 0, m, nd, h1, h2, hk => by
    simp at h1 h2; subst h1; subst h2
    show bindC kindOf ((p, w) :: P.zip vs) m p = _
    unfold bindC
    rw [bindC_out fun v hv => (List.nodup_cons.mp nd).1 (List.of_mem_zip hv).1, if_neg hk]
    simp
  | p :: P, w :: vs, i + 1, m, nd, h1, h2, hk => by
    show bindC kindOf ((p, w) :: P.zip vs) m x = _
    unfold bindC
    exact bindC_get (i := i) (List.nodup_cons.mp nd).2 (by simpa using h1) (by simpa using h2) hk

/-- the names' values at the entry -/
def start (N : List Str) (vs : List V) : St := vs.map some ++ List.replicate (N.length - vs.length) none

/-- the context of a def's body, at its entry; an exception leaves the frame, then lies as CX says -/
def cxOf (CX : CXT) (P : Program) (w : World) (K : PySem.W.Frag) (mg : Str → Option Value) (base : Heap) (N : List Str) (qual : Str) (scope : Scope) (f : Addr) (cd : Value) (A : Around) (outer : List Env) (s : Shared) (H : Hp) (E : XK) : Cx where
  prog := P
  w := w
  K := K
  mg := mg
  base := base
  A := A.deeper (envOfC qual scope s.heap.objs.size f cd)
  N := N
  s₀ := s
  H₀ := H
  env := envOfC qual scope s.heap.objs.size f cd
  outer := outer
  stack := envOfC qual scope s.heap.objs.size f cd :: outer
  ex := []
  calm := true
  fn := fun _ => true
  pn := []
  xe := fun e s' => wpAny (model P w) (A.deeper (envOfC qual scope s.heap.objs.size f cd)) (leaving (envOfC qual scope s.heap.objs.size f cd) e) (fun _ s'' => CX outer H s E e s'') (fun e' s'' => CX outer H s E e' s'') s'

theorem cell_has {sc : Scope} {n : Nat} {x : Str} (h : sc.names.lookup x = some .cell) : ∃ c, (cellsFrom n sc.names []).lookup x = some c := by
  have q := PySem.W.cellsFrom_some sc.names n [] (.inl h)
  exact Option.isSome_iff_exists.mp q

theorem inv_start {CX : CXT} {P : Program} {w : World} {K : PySem.W.Frag} {mg : Str → Option Value} {base : Heap} {N ps : List Str} {qual : Str} {scope : Scope} {f : Addr} {cd : Value} {A : Around} {outer : List Env} {s s1 : Shared} {H : Hp} {E : XK} {us : List Value} {vs : List V}
    (S : FnScope N ps scope) (hd : A.handled = none) (e0 : Env0 P w K mg base A outer s H) (hl : vs.length = ps.length) (r : Vals vs us)
    (x : InCallC s s.heap.objs.size (bindL (envOfC qual scope s.heap.objs.size f cd).kindOf (ps.zip us) fun _ => none) (cellsFrom (s.heap.objs.size + 1) scope.names []) (bindC (envOfC qual scope s.heap.objs.size f cd).kindOf (ps.zip us) fun _ => none) s1) :
    Inv (cxOf CX P w K mg base N qual scope f cd A outer s H E) [] (start N vs) H s1 := by
  have hpl : ps.length ≤ N.length := by have := congrArg List.length S.pre; rw [List.length_take] at this; omega
  obtain ⟨h1, tk, rfl, hk⟩ := x.done
  have noA : ∀ b : Addr, b ∉ (cxOf CX P w K mg base N qual scope f cd A outer s H E).ex := fun b z => absurd (show b ∈ ([] : List Addr) from z) (by simp)
  refine ⟨⟨e0.mod, S.kind, rfl, rfl, Nat.le_refl _, fun y z c h1 h2 => ?_, fun y hy => ?_, fun y c _ h => ?_, fun _ => hd, Around.frames_deeper e0.frames, .inr ⟨rfl, rfl⟩, fun b z => absurd z (noA b), e0.bs, e0.bsz, fun b _ _ => noA b, fun b z => absurd z (noA b), e0.funs, e0.frf⟩,
    rfl, e0.bare, Un.kept hk, ⟨_, x.toInCall.ns, fun i y v h1 h2 h3 => ?_⟩, fun y c h => ⟨_, x.cell y c h⟩, e0.hok.fresh (Nat.le_refl _), fun y c h => ?_, fun p hp => absurd (show p ∈ ([] : List (Addr × Obj)) from hp) (by simp), e0.hok.kept hk, ?_⟩
  · exact name_of_addr x.apart (PySem.mem_of_lookup h1) (PySem.mem_of_lookup h2)
  · have hy : scope.names.lookup y = some .cell ∨ scope.names.lookup y = some .free := hy
    rcases hy with hy | hy
    · exact cell_has hy
    · exact absurd rfl (S.nofree _ (PySem.mem_of_lookup hy))
  · exact Nat.le_of_lt (x.above y c (PySem.mem_of_lookup h))
  · have hi : i < vs.length := by
      unfold start at h2
      by_cases hi : i < vs.length
      · exact hi
      · rw [List.getElem?_append_right (by simpa using hi)] at h2
        rw [List.getElem?_replicate] at h2
        split at h2 <;> cases h2
    have ha : vs[i]? = some v := by
      unfold start at h2
      rw [List.getElem?_append_left (by simpa using hi), List.getElem?_map] at h2
      cases e : vs[i]? with
      | none => rw [e] at h2; cases h2
      | some a => rw [e] at h2; cases h2; rfl
    obtain ⟨u, hu, rv⟩ := r.get ha
    have hp : ps[i]? = some y := by
      rw [← S.pre, List.getElem?_take_of_lt (by omega)]; exact h1
    have ndP : ps.Nodup := by rw [← S.pre]; exact S.nd.sublist (List.take_sublist _ _)
    refine ⟨u, rv, ?_⟩
    rcases S.par y (List.mem_of_getElem? hp) with k | k
    · exact .inl ⟨k, bindL_get ndP hp hu k⟩
    · obtain ⟨c, e⟩ := cell_has (n := s.heap.objs.size + 1) k
      refine .inr ⟨.inl k, c, e, ?_⟩
      have q := x.cell y c e
      rw [bindC_get ndP hp hu (by show scope.names.lookup y ≠ _; rw [k]; decide)] at q
      exact q
  · exact e0.hok.fresh (Nat.le_of_lt (x.above y c (PySem.mem_of_lookup h)))
  · unfold start
    show _ = N.length
    rw [List.length_append, List.length_map, List.length_replicate]
    omega

/-- THE RULE: a def (or a method) of the text, by its body. The body's reading t is chosen for each entry; it is run at the parameters' values -/
theorem fn_of {CX : CXT} {P : Program} {w : World} {K : PySem.W.Frag} {mg : Str → Option Value} {base : Heap} {k : Nat} {f : Addr} {name qual : Str} {params : Arguments} {body : List Stmt} {scope : Scope} {dV kV doc pm cdv ct oc : Value} {an od : Option Addr}
    {osl : Array (Option Value)} {N ps : List Str} {sp : Sp} (lk : K.lookup f = some ⟨oc, od, .func (PySem.W.fnOf name qual params body scope dV kV doc pm an cdv ct), osl⟩) (hcd : PySem.W.codeIn K cdv qual = true) (S : FnScope N ps scope)
    (len : ∀ vs H Q E, sp vs H Q E → vs.length = ps.length)
    (hbody : ∀ (A : Around) (outer : List Env) (s : Shared) (H : Hp) (vs : List V) (Q : VK) (E : XK), Room k (A.deeper (envOfC qual scope s.heap.objs.size f cdv)) → sp vs H Q E →
      ∃ t, PSs (cxOf CX P w K mg base N qual scope f cdv A outer s H E) body t ∧ t { nx := fun _ H' => Q .non H', rt := Q } (start N vs) H) :
    FnOk P w K mg base CX (k + 1) f (PySem.W.fnOf name qual params body scope dV kV doc pm an cdv ct) ps sp := by
  refine ⟨len, fun A outer s H args us vs Q E hr e0 hb r hsp => ?_⟩
  have hl := len _ _ _ _ hsp
  have KX : K.In s.heap := e0.mod.kin.keeps fun b o e => (e0.bs b o e).1
  have lim : s.heap.NoLimit := e0.mod.nolimit.keeps fun b o e => (e0.bs b o e).1
  have hkind : ∀ y ∈ ps.zip us, scope.names.lookup y.1 = some .local ∨ (scope.names.lookup y.1 = some .cell ∧ ((cellsFrom (s.heap.objs.size + 1) scope.names []).lookup y.1).isSome = true) := fun ⟨n, v⟩ hy => by
    rcases S.par n (List.of_mem_zip hy).1 with q | q
    · exact .inl q
    · exact .inr ⟨q, PySem.W.cellsFrom_some _ _ _ (.inl q)⟩
  refine codeAny_call_function hr.depth (KX _ _ lk) rfl S.co S.gen rfl (PySem.W.codeRec_of KX hcd) (hb _ _ _ _ ?_)
  refine wpAny_newFunctionEnv_cells S.kind hkind fun env he s1 x => ?_
  subst he
  refine ⟨lim.keeps x.toInCall.keep, codeAny_func ?_⟩
  obtain ⟨t, ht, hq⟩ := hbody A outer s H vs Q E (hr.deeper _) hsp
  have I : Inv (cxOf CX P w K mg base N qual scope f cdv A outer s H E) [] (start N vs) H s1 := inv_start S hr.hd e0 hl r x
  refine wpAny_mono (ht [] s1 (start N vs) H _ I hq) (fun fl s' hs => ?_) fun e s' hs => hs
  have fin : ∀ {σ' : St} {H' : Hp} {v : V} {u : Value}, Inv (cxOf CX P w K mg base N qual scope f cdv A outer s H E) [] σ' H' s' → RelV v u → Q v H' → CE outer P w H s Q u s' :=
    fun {σ' H' v u} J rv q => ⟨v, H', J.os, J.bare, J.base, J.hok, rv, q⟩
  cases fl with
  | ret u =>
    obtain ⟨v, σ', H', J, rv, q⟩ := hs
    exact fin J rv q
  | next =>
    obtain ⟨σ', H', J, q⟩ := hs
    exact fin (v := V.non) (u := Value.none) J rfl q
  | brk =>
    obtain ⟨_, _, _, q⟩ := hs
    exact False.elim q
  | cont =>
    obtain ⟨_, _, _, q⟩ := hs
    exact False.elim q
end L2

namespace L2
open PySem PySem.Spec PyProof.Rows
section
variable {X : Cx} {x : Str} {p pos : Pos} {e : Expr} {es : List Expr} {t : TA} {id T : String} {r : List V → Hp → VK → Prop}

def tCB (r : List V → Hp → VK → Prop) (t : TA) : TE := fun σ H Q => t σ H fun vs H1 => r vs H1 Q
/-- f(e, ..), f a built-in function -/
theorem pe_callB (hc : CallR X (.builtin id) r) (hg : Gl X x) (hm : X.mg x = none) (hv : bootBuiltins x = some (.builtin id)) (ha : PA X (e :: es) t) (hn : x ≠ "__name__" := by decide) (hdb : (x == ("__debug__" : Str)) = false := by decide)
    (he : starEach (e :: es) X.env = (false, eval e X.env) :: starEach es X.env := by rfl) (hpl : (backTo pos (starEach es X.env)).any (·.1) = false := by rfl) : PE X (.Call (.Name x p) (e :: es) [] pos) (tCB r t) := by
  intro pins s σ H Q I h
  refine wpAny_Call_Name_kw (ld_blt I hg hm hv ?_ hn hdb)
  exact PyProof.Rows.callWith_builtin1 (thn (ha pos pins s σ H _ I h) fun us s1 ⟨vs, H1, I1, r1, q1⟩ => hc pins s1 σ H1 vs us Q I1 r1 q1) he hpl
/-- T(e, ..), T a built-in type -/
theorem pe_callTy (hc : CallR X (.type T) r) (hg : Gl X x) (hm : X.mg x = none) (hv : bootBuiltins x = some (.type T)) (ha : PA X (e :: es) t) (hn : x ≠ "__name__" := by decide) (hdb : (x == ("__debug__" : Str)) = false := by decide)
    (he : starEach (e :: es) X.env = (false, eval e X.env) :: starEach es X.env := by rfl) (hpl : (backTo pos (starEach es X.env)).any (·.1) = false := by rfl) : PE X (.Call (.Name x p) (e :: es) [] pos) (tCB r t) := by
  intro pins s σ H Q I h
  refine wpAny_Call_Name_kw (ld_blt I hg hm hv ?_ hn hdb)
  exact PyProof.Rows.callWith_type1 (thn (ha pos pins s σ H _ I h) fun us s1 ⟨vs, H1, I1, r1, q1⟩ => hc pins s1 σ H1 vs us Q I1 r1 q1) he hpl
/-- T() -/
theorem pe_callTy0 (hc : CallR X (.type T) r) (hg : Gl X x) (hm : X.mg x = none) (hv : bootBuiltins x = some (.type T)) (hn : x ≠ "__name__" := by decide) (hdb : (x == ("__debug__" : Str)) = false := by decide) :
    PE X (.Call (.Name x p) [] [] pos) (tCB r tNil) := by
  intro pins s σ H Q I h
  refine wpAny_Call_Name_kw (ld_blt I hg hm hv ?_ hn hdb)
  exact PyProof.Rows.callWith_type0 (hc pins s σ H [] [] Q I .nil h)
end
end L2

namespace HT
open PySem PyProof.Rows

/-- t < u of tuples of ints -/
def lexLt : List Int → List Int → Bool
  | [], [] => false
  | [], _ :: _ => true
  | _ :: _, [] => false
  | x :: xs, y :: ys => if x = y then lexLt xs ys else decide (x < y)
theorem lexLt_cons (x y : Int) (xs ys : List Int) : lexLt (x :: xs) (y :: ys) = if x = y then lexLt xs ys else decide (x < y) := rfl
theorem lexLt_nil_nil : lexLt [] [] = false := rfl
theorem lexLt_nil_cons (y : Int) (ys : List Int) : lexLt [] (y :: ys) = true := rfl
theorem lexLt_cons_nil (x : Int) (xs : List Int) : lexLt (x :: xs) [] = false := rfl

theorem eqAt_int (A : Around) (s : Shared) (a : Int) (t : Tok) (c : Int) (u : Tok) : ∃ e, SeqAt.EqAt A s (.int a t) (.int c u) e ∧ (e = true ↔ a = c) :=
  ⟨(a == c), SeqAt.EqAt.int_int a t c u, by simp⟩
theorem rcLt_int (A : Around) (s : Shared) (a : Int) (t : Tok) (c : Int) (u : Tok) (prog : Program) (w : World) (E : Value → Shared → Prop) (Q : Value → Shared → Prop) (h : Q (.bool (decide (a < c))) s) :
    wpAny (model prog w) A (richCompare .Lt (.int a t) (.int c u)) Q E s :=
  (PyProof.Rows.lt_int h : wpAny (model prog w) A (compareOp .Lt (.int a t) (.int c u)) Q E s)

section
open PySem.SeqAt
open PySem.AutoSeq1 (wpAny_loadPart')
open PySem.MeetsSeq PySem.MeetsSeq2 PySem.MeetsSeq3

theorem tuple_lt_ints (l b : Addr) (items items2 : Array Value) (n n2 : Nat) (dd dd2 : Option Addr) (sl sl2 : Array (Option Value)) (ns ms : List Int) (hi : IntsAre items.toList ns) (hj : IntsAre items2.toList ms) :
    Meets (Builtin.«tuple.__lt__» ⟨[.ref l, .ref b], []⟩)
      (fun _ R s => s.heap.get? l = some { cls := .type "tuple", dict := dd, data := .seq items n, slots := sl } ∧ s.heap.get? b = some { cls := .type "tuple", dict := dd2, data := .seq items2 n2, slots := sl2 } ∧
        R (.ok (.ret (.bool (lexLt ns ms)))) s) :=
  .of_wp fun prog w A R s h => by
    obtain ⟨hp, g, d, tk, os⟩ := s; obtain ⟨hl, hb, h⟩ := h
    have f2 := AutoSeq1.sub_tuple_tuple
    have z1 : items.size = ns.length := by rw [← hi.length]; simp
    have z2 : items2.size = ms.length := by rw [← hj.length]; simp
    wp_walk using wpAny_loadPart' hl, wpAny_loadPart' hb, wpAny_forIn_list _ (fun rest b s' => b.1 = none ∧ s' = ⟨hp, g, d, tk, os⟩ ∧ ∃ (vs ws : List Value) (ns' ms' : List Int), rest = vs.zip ws ∧
      IntsAre vs ns' ∧ IntsAre ws ms' ∧ ns'.length + items2.size = ms'.length + items.size ∧ R (.ok (.ret (.bool (lexLt ns' ms')))) ⟨hp, g, d, tk, os⟩) _
    case turn =>
      rintro ⟨y, x⟩ rest b s' ⟨hb', rfl, vs, ws, ns', ms', hz, hvi, hwi, hlen, hR⟩
      cases hvi with
      | nil => rw [List.zip_nil_left] at hz; cases hz
      | cons a t hvi' =>
        cases hwi with
        | nil => rw [List.zip_nil_right] at hz; cases hz
        | cons c u hwi' =>
          rw [List.zip_cons_cons] at hz
          injection hz with hyx hrest
          injection hyx with hy hx
          subst hy hx
          rw [lexLt_cons] at hR
          simp only [List.length_cons] at hlen
          obtain ⟨e, he, hiff⟩ := eqAt_int A.in1 ⟨hp, g, d, tk, os⟩ a t c u
          refine wpAny_bind (he prog w _ _ ?_)
          cases e with
          | true =>
            rw [if_pos (hiff.mp rfl)] at hR
            wp_walk
            exact ⟨rfl, rfl, _, _, _, _, hrest, hvi', hwi', by omega, hR⟩
          | false =>
            rw [if_neg (fun q => absurd (hiff.mpr q) Bool.false_ne_true)] at hR
            have hri := rcLt_int A.in1 ⟨hp, g, d, tk, os⟩ a t c u prog w
            wp_walk using hri
            exact ⟨_, rfl, by simpa using hR⟩
    case fin =>
      rintro ⟨b1, b2⟩ s' ⟨hb', rfl, vs, ws, ns', ms', hz, hvi, hwi, hlen, hR⟩
      simp only at hb'
      subst hb'
      have hv : lexLt ns' ms' = decide (items.size < items2.size) := by
        cases hvi with
        | nil =>
          cases hwi with
          | nil =>
            simp only [List.length_nil] at hlen
            rw [lexLt_nil_nil]
            exact (decide_eq_false (by omega)).symm
          | cons c u hw =>
            simp only [List.length_nil, List.length_cons] at hlen
            rw [lexLt_nil_cons]
            exact (decide_eq_true (by omega)).symm
        | cons a t hv =>
          cases hwi with
          | nil =>
            simp only [List.length_nil, List.length_cons] at hlen
            rw [lexLt_cons_nil]
            exact (decide_eq_false (by omega)).symm
          | cons c u hw =>
            rw [List.zip_cons_cons] at hz
            cases hz
      rw [hv] at hR
      wp_walk
      exact ⟨_, rfl, by simpa [Builtin.Tuple.tupleCompareSizes] using hR⟩
    case h =>
      exact ⟨rfl, rfl, items.toList, items2.toList, ns, ms, rfl, hi, hj, by omega, h⟩
end

section
variable {prog : Program} {w : World} {A : Around} {E : Value → Shared → Prop} {s : Shared}

theorem lt_tupInts {l b : Addr} {items items2 : Array Value} {ns ms : List Int} {Q : Value → Shared → Prop} (hl : IsTup s.heap l items) (hb : IsTup s.heap b items2) (hi : IntsAre items.toList ns) (hj : IntsAre items2.toList ms)
    (hu : A.units < cLine) (h : Q (.bool (lexLt ns ms)) s) : wpAny (model prog w) A (compareOp .Lt (.ref l) (.ref b)) Q E s := by
  obtain ⟨⟨cls, dd, data, sl⟩, ho, hc, n, hd⟩ := id hl
  obtain ⟨⟨cls2, dd2, data2, sl2⟩, ho2, hc2, n2, hd2⟩ := id hb
  simp only at hc hd hc2 hd2
  subst hc hd hc2 hd2
  exact richCompare_meets_room (op := .Lt) ⟨_, ho, rfl⟩ ⟨_, ho2, rfl⟩ PySem.F.slot_tuple_lt PySem.F.entry_tuple_lt (PySem.F.args_tuple_lt_2 _ _) (tuple_lt_ints l b items items2 n n2 dd dd2 sl sl2 ns ms hi hj)
    ⟨ho, ho2, show Value.bool (lexLt ns ms) ≠ Value.notImplemented ∧ Q (.bool (lexLt ns ms)) s from ⟨(fun x => nomatch x), h⟩⟩ hu

/-- t + u, t not empty -/
theorem cat_tup {t b : Addr} {vs ws : List Value} {Q : Value → Shared → Prop} (ht : IsTup s.heap t vs.toArray) (hb : IsTup s.heap b ws.toArray) (hv : vs ≠ [])
    (h1 : ws = [] → Q (.ref t) s) (h2 : ws ≠ [] → Q (.ref s.heap.objs.size) { s with heap := s.heap.push { cls := .type "tuple", data := .seq (vs ++ ws).toArray } })
    (hsz : vs.length + ws.length ≤ sizeLine) : wpAny (model prog w) A (binaryOp .Add (.ref t) (.ref b)) Q E s := by
  obtain ⟨⟨cls, dd, data, sl⟩, ho, hc, n, hd⟩ := id ht
  obtain ⟨⟨cls2, dd2, data2, sl2⟩, ho2, hc2, n2, hd2⟩ := id hb
  simp only at hc hd hc2 hd2
  subst hc hd hc2 hd2
  have e : vs.toArray ++ ws.toArray = (vs ++ ws).toArray := by simp
  by_cases hw : ws = []
  · exact concat_meets ⟨_, ho, rfl⟩ ⟨_, ho2, rfl⟩ noFill_tuple_add seq_tuple_add PySem.F.slot_tuple_add PySem.F.entry_tuple_add (PySem.F.args_tuple_add_2 _ _)
      (tuple_addW1 t b vs.toArray ws.toArray n n2 dd dd2 sl sl2 (by simpa using hv) (by simp [hw])) ⟨ho, ho2, h1 hw⟩
  · refine concat_meets ⟨_, ho, rfl⟩ ⟨_, ho2, rfl⟩ noFill_tuple_add seq_tuple_add PySem.F.slot_tuple_add PySem.F.entry_tuple_add (PySem.F.args_tuple_add_2 _ _)
      (tuple_addW2 t b vs.toArray ws.toArray n n2 dd dd2 sl sl2 (by simpa using hv) (by simpa using hw) (by rw [List.size_toArray, List.size_toArray]; exact hsz)) ⟨ho, ho2, ?_⟩
    rw [e]
    exact h2 hw

/-! ### t[a:b], not the whole -/
/-- a slice's bound as a place among n (d where it is left out) -/
def sIx (n d : Nat) : Option Int → Nat
  | none => d
  | some v => if v < 0 then (v + (n : Int)).toNat else min v.toNat n
theorem sIx_none (n d : Nat) : sIx n d none = d := rfl
theorem sIx_nat (n d k : Nat) : sIx n d (some (k : Int)) = min k n := by
  show (if (k : Int) < 0 then ((k : Int) + (n : Int)).toNat else min (k : Int).toNat n) = min k n
  rw [if_neg (by omega), Int.toNat_natCast]
theorem sIx_le (n d : Nat) (hd : d ≤ n) (o : Option Int) : sIx n d o ≤ n := by
  cases o with
  | none => exact hd
  | some v =>
    show (if v < 0 then (v + (n : Int)).toNat else min v.toNat n) ≤ n
    by_cases hv : v < 0
    · rw [if_pos hv]; omega
    · rw [if_neg hv]; exact Nat.min_le_right _ _
theorem clip_eq (v : Int) (n d : Nat) : (if v < 0 then max (v + (n : Int)) 0 else min v (n : Int)) = ((sIx n d (some v) : Nat) : Int) := by
  show (if v < 0 then max (v + (n : Int)) 0 else min v (n : Int)) = (((if v < 0 then (v + (n : Int)).toNat else min v.toNat n) : Nat) : Int)
  by_cases hv : v < 0
  · simp only [if_pos hv]; omega
  · simp only [if_neg hv]; omega
theorem adjust_gen (lo hi : Option Int) (n : Nat) : Builtin.Slice.sliceAdjust lo hi 1 (n : Int) = (((sIx n 0 lo : Nat) : Int), ((sIx n n hi : Nat) : Int)) := by
  have h1 : ¬ ((1 : Int) < 0) := by omega
  unfold Builtin.Slice.sliceAdjust
  simp only [h1, if_false]
  refine Prod.ext ?_ ?_
  · cases lo with
    | none => rfl
    | some v => exact clip_eq v n 0
  · cases hi with
    | none => rfl
    | some v => exact clip_eq v n n
theorem places_gen (i j : Nat) : Builtin.Slice.slicePlaces (i : Int) (j : Int) 1 = j - i := by
  unfold Builtin.Slice.slicePlaces
  have h1 : (1 : Int) > 0 := by omega
  simp only [h1, if_true, Int.ediv_one]
  split <;> omega
theorem slicePart_ {v : Value} {o : Option Int} {Q : Option Int → Shared → Prop} (p : IsPart v o) (h : Q o s) : wpAny (model prog w) A (Builtin.Slice.slicePartIndex v) Q E s := by
  cases p with
  | none => exact slicePart_none h
  | int i t => exact slicePart_int h
theorem sliceApplied_gen {sl : Addr} {vl vu : Value} {lo hi : Option Int} {n : Nat} {Q : Int × Int × Nat → Shared → Prop} (hs : s.heap.IsSliceOf sl vl vu .none) (pl : IsPart vl lo) (pu : IsPart vu hi)
    (h : Q (((sIx n 0 lo : Nat) : Int), 1, sIx n n hi - sIx n 0 lo) s) : wpAny (model prog w) A (Builtin.Slice.sliceApplied (.ref sl) (pure (n : Int))) Q E s := by
  obtain ⟨os, hos, hcs, hds⟩ := id hs
  unfold Builtin.Slice.sliceApplied Builtin.Slice.sliceFields
  refine wpAny_bind (wpAny_bind (wpAny_field hos hds (x := vl) rfl (wpAny_bind (wpAny_field hos hds (x := vu) rfl (wpAny_bind (wpAny_field hos hds (x := .none) rfl (wpAny_pure ?_)))))))
  refine wpAny_bind (slicePart_none ?_)
  show wpAny _ _ (if ((1 : Int) == 0) = true then _ else _) _ _ s
  rw [if_neg (by decide)]
  refine wpAny_bind (slicePart_ pl (wpAny_bind (slicePart_ pu (wpAny_bind (wpAny_pure ?_)))))
  show wpAny _ _ (match Builtin.Slice.sliceAdjust lo hi 1 (n : Int) with | (lo, hi) => pure (lo, (1 : Int), Builtin.Slice.slicePlaces lo hi 1)) _ _ s
  rw [adjust_gen lo hi n]
  show wpAny _ _ (pure (((sIx n 0 lo : Nat) : Int), (1 : Int), Builtin.Slice.slicePlaces ((sIx n 0 lo : Nat) : Int) ((sIx n n hi : Nat) : Int) 1)) _ _ s
  rw [places_gen]
  exact wpAny_pure h
theorem pick_gen (xs : Array Value) (i k : Nat) : ((List.range k).filterMap fun (m : Nat) => xs[((i : Int) + (m : Int) * 1).toNat]?).toArray = ((xs.toList.drop i).take k).toArray := by
  have e : (fun (m : Nat) => xs[((i : Int) + (m : Int) * 1).toNat]?) = fun m => xs[i + m]? := by
    funext m
    have : ((i : Int) + (m : Int) * 1).toNat = i + m := by omega
    rw [this]
  rw [e]
  have := pick_run xs i k
  rw [List.filterMap_map] at this
  have e2 : ((fun x => xs[x]?) ∘ fun x => i + x) = fun m => xs[i + m]? := rfl
  rw [e2] at this
  rw [this]

theorem getItem_tuple_cut {t sl : Addr} {items : Array Value} {vl vu : Value} {lo hi : Option Int} {Q : Value → Shared → Prop} (ht : IsTup s.heap t items) (hs : s.heap.IsSliceOf sl vl vu .none) (pl : IsPart vl lo) (pu : IsPart vu hi)
    (hw : ¬ (sIx items.size 0 lo = 0 ∧ sIx items.size items.size hi = items.size))
    (h : Q (.ref s.heap.objs.size) { s with heap := s.heap.push { cls := .type "tuple", data := .seq ((items.toList.drop (sIx items.size 0 lo)).take (sIx items.size items.size hi - sIx items.size 0 lo)).toArray } })
    (hsz : items.size ≤ sizeLine) : wpAny (model prog w) A (getItem (.ref t) (.ref sl)) Q E s := by
  have htake : sizeOk (.seq ((items.toList.drop (sIx items.size 0 lo)).take (sIx items.size items.size hi - sIx items.size 0 lo)).toArray) := by
    show ((items.toList.drop (sIx items.size 0 lo)).take (sIx items.size items.size hi - sIx items.size 0 lo)).toArray.size ≤ sizeLine
    rw [List.size_toArray, List.length_take, List.length_drop, Array.length_toList]
    omega
  have hj : sIx items.size items.size hi ≤ items.size := sIx_le _ _ (Nat.le_refl _) hi
  obtain ⟨os, hos, hcs, hds⟩ := id hs
  have hTs : s.TypeIs (.ref sl) "slice" := ⟨os, hos, hcs⟩
  unfold getItem
  try with_reducible refine wpAny_holding ?_
  first | refine wpAny_bind (wpAny_pure ?_) | skip
  refine wpAny_bind (wpAny_sequenceKey ht.typeIs (by decide) ?_)
  refine wpAny_bind (wpAny_callSpecial?_slot (name := Str.ofString "__getitem__") ht.typeIs PyProof.Rows.slot_tuple_getitem
    (wpAny_call_entry PyProof.Rows.slot_tuple_getitem ht.typeIs entry_tuple_getitem ?_ (args_tuple_getitem _ _)))
  show wpAny _ _ (Builtin.Tuple.tupleItemsOf (.ref t) >>= _) _ _ s
  refine wpAny_bind (tupleItemsOf_ ht ?_)
  refine wpAny_bind (wpAny_typeOf hTs ?_)
  rw [if_pos (by decide)]
  refine wpAny_bind (sliceApplied_gen hs pl pu ?_)
  have hno : ¬ ((((sIx items.size 0 lo : Nat) : Int) == 0 && (1 : Int) == 1 && (sIx items.size items.size hi - sIx items.size 0 lo) == items.size) = true) := by
    intro q
    rw [Bool.and_eq_true, Bool.and_eq_true] at q
    have q1 : ((sIx items.size 0 lo : Nat) : Int) = 0 := eq_of_beq q.1.1
    have q2 : sIx items.size items.size hi - sIx items.size 0 lo = items.size := eq_of_beq q.2
    exact hw ⟨by omega, by omega⟩
  show wpAny _ _ (if (((sIx items.size 0 lo : Nat) : Int) == 0 && (1 : Int) == 1 && (sIx items.size items.size hi - sIx items.size 0 lo) == items.size) = true then _ else _) _ _ s
  rw [if_neg hno, pick_gen]
  first
    | exact wpAny_bind (m := Builtin.Tuple.tupleExact _) (wpAny_newObj_type (wpAny_pure ⟨_, rfl, wpAny_pure h⟩) htake)
    | exact wpAny_bind (m := Builtin.Tuple.tupleExact _) (wpAny_newObj_type (wpAny_bind (wpAny_pure (wpAny_pure ⟨_, rfl, wpAny_pure h⟩))) htake)
    | exact wpAny_bind (wpAny_bind (m := Builtin.Tuple.tupleExact _) (wpAny_newObj_type (wpAny_pure (wpAny_pure ⟨_, rfl, wpAny_pure h⟩)) htake))
    | exact wpAny_bind (wpAny_bind (m := Builtin.Tuple.tupleExact _) (wpAny_newObj_type (wpAny_pure ⟨_, rfl, wpAny_pure h⟩) htake))
end
end HT

namespace L2
open PySem PySem.Spec PyProof.Rows

/-! ### the parts of a slice -/
abbrev TO := St → Hp → (Option Int → Hp → Prop) → Prop
/-- a slice's part (left out, or an int) -/
def PO (X : Cx) (e : Option Expr) (t : TO) : Prop :=
  ∀ (pins : List (Addr × Obj)) (s : Shared) (σ : St) (H : Hp) (Q : Option Int → Hp → Prop), Inv X pins σ H s → t σ H Q →
    wpAny (model X.prog X.w) X.A (evalPart e X.env) (fun u s' => ∃ o H', Inv X pins σ H' s' ∧ IsPart u o ∧ Q o H') X.xe s
def tNoPart : TO := fun _ H Q => Q none H
def tPart (t : TE) : TO := fun σ H Q => t σ H fun x H1 => ∃ i, x = .int i ∧ Q (some i) H1

theorem intsAre_of {ns : List Int} : ∀ {us : List Value}, Vals (ns.map V.int) us → IntsAre us ns := by
  induction ns with
  | nil => intro us r; rw [List.map_nil] at r; cases r; exact .nil
  | cons n ns ih =>
    intro us r
    rw [List.map_cons] at r
    cases r with
    | cons r1 r2 =>
      obtain ⟨t, e⟩ := r1
      subst e
      exact .cons n t (ih r2)

section
variable {X : Cx} {e : Expr} {te : TE} {lo hi : Option Expr} {tl th : TO} {pos p2 : Pos}

theorem po_none : PO X none tNoPart := by
  intro pins s σ H Q I h
  rw [evalPart_none]
  exact wpAny_pure ⟨none, H, I, .none, h⟩
theorem po_some (h : PE X e te) : PO X (some e) (tPart te) := by
  intro pins s σ H Q I hw
  rw [evalPart_some]
  refine thn (h pins s σ H _ I hw) fun u s1 ⟨x, H1, I1, r1, q1⟩ => ?_
  obtain ⟨i, rfl, q⟩ := q1
  obtain ⟨t, rfl⟩ := r1
  exact ⟨some i, H1, I1, .int i t, q⟩

/-- what a slice of a value is, by values: the slice object stands at sl -/
def SlR (X : Cx) (r : V → Option Int → Option Int → Hp → VK → Prop) : Prop :=
  ∀ (pins : List (Addr × Obj)) (s : Shared) (σ : St) (H : Hp) (x : V) (v vl vu : Value) (lo hi : Option Int) (sl : Addr) (Q : VK), Inv X pins σ H s → RelV x v → s.heap.IsSliceOf sl vl vu .none → IsPart vl lo → IsPart vu hi → r x lo hi H Q →
    ∃ T id, typeLookup (.type T) "__getitem__" = pure (some (.builtin id)) ∧ s.TypeIs v T ∧ wpAny (model X.prog X.w) X.A (getItem v (.ref sl)) (EP X pins σ Q) X.xe s
theorem SlR.or {r r' : V → Option Int → Option Int → Hp → VK → Prop} (h : SlR X r) (h' : SlR X r') : SlR X (fun x lo hi H Q => r x lo hi H Q ∨ r' x lo hi H Q) := by
  intro pins s σ H x v vl vu lo hi sl Q I rx hs pl pu q
  rcases q with q | q
  · exact h pins s σ H x v vl vu lo hi sl Q I rx hs pl pu q
  · exact h' pins s σ H x v vl vu lo hi sl Q I rx hs pl pu q
def tSl (r : V → Option Int → Option Int → Hp → VK → Prop) (te : TE) (tl th : TO) : TE := fun σ H Q => te σ H fun x H1 => tl σ H1 fun l H2 => th σ H2 fun u H3 => r x l u H3 Q
/-- a[lo:hi], any a -/
theorem pe_slice {r : V → Option Int → Option Int → Hp → VK → Prop} (hr : SlR X r) (he : PE X e te) (hl : PO X lo tl) (hu : PO X hi th) : PE X (.Subscript e (.Slice lo hi none p2) pos) (tSl r te tl th) := by
  intro pins s σ H Q I h
  refine Subscript_ (thn (he pins s σ H _ I h) fun v s1 ⟨x, H1, I1, r1, q1⟩ => ?_)
  refine wpAny_Slice (thn (hl pins s1 σ H1 _ I1 q1) fun vl s2 ⟨l, H2, I2, pl, q2⟩ => thn (hu pins s2 σ H2 _ I2 q2) fun vu s3 ⟨u, H3, I3, pu, q3⟩ => ?_)
  rw [evalPart_none]
  refine wpAny_pure ?_
  have I4 : Inv X pins σ H3 { s3 with heap := s3.heap.push { cls := .type "slice", data := .fields #[vl, vu, .none] } } := I3.kept (t' := s3.toks) fun b ob q => Heap.get?_push_of_some _ q
  obtain ⟨T, id, hT, ht, hg⟩ := hr pins { s3 with heap := s3.heap.push { cls := .type "slice", data := .fields #[vl, vu, .none] } } σ H3 x v vl vu l u s3.heap.objs.size Q I4 r1 (Heap.IsSliceOf.new ..) pl pu q3
  show wpAny (model X.prog X.w) X.A (subscriptTail e (.Slice lo hi none p2) v (.ref s3.heap.objs.size)) (EP X pins σ Q) X.xe { s3 with heap := s3.heap.push { cls := .type "slice", data := .fields #[vl, vu, .none] } }
  exact tail_any (ops := [.ref s3.heap.objs.size, v]) ht hT hg (by with_unfolding_all rfl)

/-- the items of xs[lo:hi] -/
def cutV (xs : List V) (lo hi : Option Int) : List V := (xs.drop (HT.sIx xs.length 0 lo)).take (HT.sIx xs.length xs.length hi - HT.sIx xs.length 0 lo)
theorem cutV_length (xs : List V) (lo hi : Option Int) : (cutV xs lo hi).length ≤ xs.length := by
  unfold cutV
  rw [List.length_take, List.length_drop]
  omega
/-- t[lo:hi], not the whole of it (the whole would be t itself) -/
def rSlT (K : PySem.W.Frag) : V → Option Int → Option Int → Hp → VK → Prop := fun x lo hi H Q => ∃ a xs, x = .ref a ∧ SqT K H a xs ∧
  ¬ (HT.sIx xs.length 0 lo = 0 ∧ HT.sIx xs.length xs.length hi = xs.length) ∧ ∀ p, H p = none → Q (.ref p) (upd H p (.tup (cutV xs lo hi)))
theorem sl_tup : SlR X (rSlT X.K) := by
  intro pins s σ H x v vl vu lo hi sl Q I rx hs pl pu h
  obtain ⟨a, xs, rfl, hx, hw, q⟩ := h
  cases rx
  obtain ⟨its, r, ht, hz⟩ := I.tuple hx
  have hlen : its.toArray.size = xs.length := by rw [List.size_toArray]; exact r.length.symm
  refine ⟨"tuple", _, PyProof.Rows.slot_tuple_getitem.lookup, ht.typeIs, ?_⟩
  refine HT.getItem_tuple_cut ht hs pl pu (by rw [hlen]; exact hw) ?_ (by rw [hlen]; exact hz)
  rw [hlen]
  refine ⟨.ref s.heap.objs.size, _, I.laid (t' := s.toks) (o := .tup (cutV xs lo hi)) (fun b ob q => Heap.get?_push_of_some _ q) (Nat.le_refl _) ?_, rfl, q _ (I.hok.fresh (Nat.le_refl _))⟩
  exact ⟨Nat.le_trans (cutV_length xs lo hi) hz, _, (r.drop (HT.sIx xs.length 0 lo)).take (HT.sIx xs.length xs.length hi - HT.sIx xs.length 0 lo), IsTup.new _ _⟩

/-! ### t < u, t + u -/
def rLtT (K : PySem.W.Frag) : R2 := fun x y H Q => ∃ a b ns ms, x = .ref a ∧ y = .ref b ∧ SqT K H a (ns.map V.int) ∧ SqT K H b (ms.map V.int) ∧ Q (.bl (HT.lexLt ns ms)) H
theorem op_ltT (hu : X.A.units < cLine) : OpR X (compareOp .Lt) (rLtT X.K) := by
  intro pins s σ H x y v u Q I rx ry h
  obtain ⟨a, b, ns, ms, rfl, rfl, ha, hb, q⟩ := h
  cases rx
  cases ry
  obtain ⟨its, r1, p1, _⟩ := I.tuple ha
  obtain ⟨its2, r2, p2, _⟩ := I.tuple hb
  have i1 : IntsAre its.toArray.toList ns := intsAre_of r1
  have i2 : IntsAre its2.toArray.toList ms := intsAre_of r2
  exact HT.lt_tupInts p1 p2 i1 i2 hu ⟨.bl (HT.lexLt ns ms), H, I, rfl, q⟩
/-- t + u, t not empty: u empty gives t itself -/
def rCatT (K : PySem.W.Frag) : R2 := fun x y H Q => ∃ a b xs ys, x = .ref a ∧ y = .ref b ∧ SqT K H a xs ∧ SqT K H b ys ∧ xs ≠ [] ∧ xs.length + ys.length ≤ sizeLine ∧
  (ys = [] → Q (.ref a) H) ∧ (ys ≠ [] → ∀ p, H p = none → Q (.ref p) (upd H p (.tup (xs ++ ys))))
theorem Vals.nil_iff {xs : List V} {us : List Value} (r : Vals xs us) : us = [] ↔ xs = [] := by
  cases r with
  | nil => simp
  | cons _ _ => simp
theorem op_catT : OpR X (binaryOp .Add) (rCatT X.K) := by
  intro pins s σ H x y v u Q I rx ry h
  obtain ⟨a, b, xs, ys, rfl, rfl, ha, hb, hx, hz, q1, q2⟩ := h
  cases rx
  cases ry
  obtain ⟨its, r1, p1, _⟩ := I.tuple ha
  obtain ⟨its2, r2, p2, _⟩ := I.tuple hb
  refine HT.cat_tup p1 p2 (fun z => hx (r1.nil_iff.mp z)) (fun z => ⟨.ref a, H, I, rfl, q1 (r2.nil_iff.mp z)⟩) (fun z => ?_) (by rw [← r1.length, ← r2.length]; exact hz)
  refine ⟨.ref s.heap.objs.size, _, I.laid (t' := s.toks) (o := .tup (xs ++ ys)) (fun b ob q => Heap.get?_push_of_some _ q) (Nat.le_refl _) ?_, rfl, q2 (fun w => z (r2.nil_iff.mpr w)) _ (I.hok.fresh (Nat.le_refl _))⟩
  exact ⟨by rw [List.length_append]; exact hz, _, r1.append r2, IsTup.new _ _⟩
/-- tuple(t) -/
theorem call_tupleT : CallR X (.type "tuple") (fun xs H Q => ∃ a ys, xs = [.ref a] ∧ SqT X.K H a ys ∧ Q (.ref a) H) := by
  intro pins s σ H xs us Q I r h
  obtain ⟨a, ys, rfl, ha, q⟩ := h
  obtain ⟨u, rfl, ru⟩ := vals1 r
  cases ru
  obtain ⟨its, _, p1, _⟩ := I.tuple ha
  exact call_tuple_same (items := its.toArray) p1 ⟨.ref a, H, I, rfl, q⟩
end
end L2

namespace L2
open PySem PySem.Spec PyProof.Rows

/-! ### places -/
/-- the place that an index of any sign means -/
def ixN (n : Nat) (i : Int) : Option Nat := if 0 ≤ i then (if i < n then some i.toNat else none) else if -(n : Int) ≤ i then some (i + n).toNat else none
def atI {α : Type} (xs : List α) (i : Int) : Option α := (ixN xs.length i).bind fun j => xs[j]?
theorem ixN_seq {n : Nat} {i : Int} {j : Nat} (h : ixN n i = some j) : seqIndex? i n = some j ∧ j < n ∧ -(n : Int) ≤ i ∧ i < n := by
  unfold ixN at h
  by_cases h0 : 0 ≤ i
  · rw [if_pos h0] at h
    by_cases h1 : i < n
    · rw [if_pos h1] at h
      have e : i.toNat = j := Option.some.inj h
      exact ⟨by rw [seqIndex_of h0 h1, e], by omega, by omega, h1⟩
    · rw [if_neg h1] at h; cases h
  · rw [if_neg h0] at h
    by_cases h1 : -(n : Int) ≤ i
    · rw [if_pos h1] at h
      have e : (i + n).toNat = j := Option.some.inj h
      exact ⟨by rw [seqIndex_neg (by omega) h1, e], by omega, h1, by omega⟩
    · rw [if_neg h1] at h; cases h
theorem atI_get {α : Type} {xs : List α} {i : Int} {v : α} (h : atI xs i = some v) : ∃ j, seqIndex? i xs.length = some j ∧ xs[j]? = some v ∧ j < xs.length ∧ -(xs.length : Int) ≤ i ∧ i < xs.length := by
  unfold atI at h
  cases e : ixN xs.length i with
  | none => rw [e] at h; cases h
  | some j =>
    rw [e] at h
    obtain ⟨h1, h2, h3, h4⟩ := ixN_seq e
    exact ⟨j, h1, h, h2, h3, h4⟩
theorem atI_nat {α : Type} {xs : List α} {j : Nat} {v : α} (h : xs[j]? = some v) : atI xs (j : Int) = some v := by
  have hj : j < xs.length := (List.getElem?_eq_some_iff.mp h).1
  have e : ixN xs.length (j : Int) = some j := by
    unfold ixN
    rw [if_pos (by omega), if_pos (by omega)]; simp
  unfold atI; rw [e]; exact h
theorem atI_last {α : Type} (xs : List α) (v : α) : atI (xs ++ [v]) (-1) = some v := by
  have hl : (xs ++ [v]).length = xs.length + 1 := by simp
  have e : ixN (xs ++ [v]).length (-1) = some xs.length := by
    unfold ixN
    rw [hl, if_neg (by decide), if_pos (by omega)]
    congr 1
    omega
  unfold atI
  rw [e]
  show (xs ++ [v])[xs.length]? = some v
  simp

/-! ### what may be subscripted -/
/-- what stands as an index of a plain subscript -/
def PlainIx (b : Expr) : Prop := ∀ o i, subscripted b false o i = operate [o, i] (getItem o i)
/-- a subscript by values -/
def IxR (X : Cx) (r : R2) : Prop :=
  ∀ (value slice : Expr) (pins : List (Addr × Obj)) (s : Shared) (σ : St) (H : Hp) (x y : V) (v u : Value) (Q : VK), Inv X pins σ H s → RelV x v → RelV y u → r x y H Q →
    subscripted slice false v u = operate [v, u] (getItem v u) → wpAny (model X.prog X.w) X.A (subscriptTail value slice v u) (EP X pins σ Q) X.xe s
/-- a call of a builtin's method by values: the receiver, the arguments -/
def MtR (X : Cx) (id : String) (r : V → List V → Hp → VK → Prop) : Prop :=
  ∀ (pins : List (Addr × Obj)) (s : Shared) (σ : St) (H : Hp) (x : V) (xs : List V) (v : Value) (us : List Value) (Q : VK), Inv X pins σ H s → RelV x v → Vals xs us → r x xs H Q →
    wpAny (model X.prog X.w) X.A (call (.builtin id) (v :: us)) (EP X pins σ Q) X.xe s
section
variable {X : Cx} {a b : Expr} {ta tb : TE} {pos : Pos}
theorem IxR.or {r r' : R2} (h : IxR X r) (h' : IxR X r') : IxR X (fun x y H Q => r x y H Q ∨ r' x y H Q) := by
  intro value slice pins s σ H x y v u Q I rx ry q hs
  rcases q with q | q
  · exact h value slice pins s σ H x y v u Q I rx ry q hs
  · exact h' value slice pins s σ H x y v u Q I rx ry q hs
theorem MtR.or {id : String} {r r' : V → List V → Hp → VK → Prop} (h : MtR X id r) (h' : MtR X id r') : MtR X id (fun x xs H Q => r x xs H Q ∨ r' x xs H Q) := by
  intro pins s σ H x xs v us Q I rx rs q
  rcases q with q | q
  · exact h pins s σ H x xs v us Q I rx rs q
  · exact h' pins s σ H x xs v us Q I rx rs q
/-- a[b] -/
theorem pe_ix {r : R2} (hr : IxR X r) (ha : PE X a ta) (hb : PE X b tb) (hs : PlainIx b) : PE X (.Subscript a b pos) (tOp r ta tb) := by
  intro pins s σ H Q I h
  exact Subscript_ (binT ha hb I h fun v u s2 x y H2 I2 rx ry q => hr a b pins s2 σ H2 x y v u Q I2 rx ry q (hs _ _))

def rIxL (K : PySem.W.Frag) : R2 := fun x y H Q => ∃ p xs i v, x = .ref p ∧ y = .int i ∧ SqL K H p xs ∧ atI xs i = some v ∧ Q v H
def rIxT (K : PySem.W.Frag) : R2 := fun x y H Q => ∃ p xs i v, x = .ref p ∧ y = .int i ∧ SqT K H p xs ∧ atI xs i = some v ∧ Q v H
def rIxS : R2 := fun x y H Q => ∃ z i c, x = .str z ∧ y = .int i ∧ z.length ≤ sizeLine ∧ atI z.cps.toList i = some c ∧ Q (.str ⟨#[c]⟩) H
theorem ix_list : IxR X (rIxL X.K) := by
  intro value slice pins s σ H x y v u Q I rx ry h hs
  obtain ⟨p, xs, i, z, rfl, rfl, hq, he, q⟩ := h
  cases rx
  obtain ⟨t, rfl⟩ := ry
  obtain ⟨its, r, pl, hz⟩ := I.list hq
  obtain ⟨j, h1, h2, h3, h4, h5⟩ := atI_get he
  obtain ⟨w, ew, rw'⟩ := r.get h2
  have hl := r.length
  have hn := line63
  have fin : EP X pins σ Q w s := ⟨z, H, I, rw', q⟩
  by_cases h0 : 0 ≤ i
  · have hj : i.toNat = j := by
      rw [seqIndex_of h0 h5] at h1
      exact Option.some.inj h1
    exact item_listR pl.isList h0 (by omega) (by rw [hj]; simpa using ew) fin hs
  · have hj : (i + (its.toArray.size : Int)).toNat = j := by
      rw [seqIndex_neg (by omega) h4] at h1
      rw [List.size_toArray, ← hl]
      exact Option.some.inj h1
    exact subscriptTail_builtinR (x := w) pl.isList.typeIs slot_list_getitem.lookup
      (wpAny_getItem_list_neg (Q := fun r s' => r = w ∧ EP X pins σ Q r s') pl.isList (by omega) (by rw [List.size_toArray] <;> omega) (by omega) (by rw [hj]; simpa using ew) ⟨rfl, fin⟩) hs
theorem ix_tup : IxR X (rIxT X.K) := by
  intro value slice pins s σ H x y v u Q I rx ry h hs
  obtain ⟨p, xs, i, z, rfl, rfl, hq, he, q⟩ := h
  cases rx
  obtain ⟨t, rfl⟩ := ry
  obtain ⟨its, r, pl, hz⟩ := I.tuple hq
  obtain ⟨j, h1, h2, h3, h4, h5⟩ := atI_get he
  obtain ⟨w, ew, rw'⟩ := r.get h2
  have hl := r.length
  have hn := line63
  have fin : EP X pins σ Q w s := ⟨z, H, I, rw', q⟩
  exact subscriptTail_builtinR (x := w) pl.typeIs slot_tuple_getitem.lookup
    (getItem_tuple (j := j) (Q := fun r s' => r = w ∧ EP X pins σ Q r s') pl (by omega) (by omega) (by rw [List.size_toArray, ← hl]; exact h1) (by simpa using ew) ⟨rfl, fin⟩) hs
theorem ix_str : IxR X rIxS := by
  intro value slice pins s σ H x y v u Q I rx ry h hs
  obtain ⟨z, i, c, rfl, rfl, hz, he, q⟩ := h
  obtain ⟨t, rfl⟩ := rx
  obtain ⟨t', rfl⟩ := ry
  obtain ⟨j, h1, h2, h3, h4, h5⟩ := atI_get he
  have hl : z.cps.toList.length = z.length := by simp [Str.length]
  rw [hl] at h1 h4 h5
  have hn := line63
  exact tail_any (typeIs_str s z t) slot_str_getitem.lookup (getItem_str (c := c) (by
    have e1 : decide (i < -(2 ^ 63 : Int)) = false := decide_eq_false (by omega)
    have e2 : decide (i ≥ 2 ^ 63) = false := decide_eq_false (by omega)
    rw [e1, e2, Bool.or_false]) (by rw [h1]; simpa using h2) ⟨.str ⟨#[c]⟩, H, I.tok _, ⟨_, rfl⟩, q⟩) hs
/-- list, tuple or str -/
def rIx (K : PySem.W.Frag) : R2 := fun x y H Q => rIxL K x y H Q ∨ rIxT K x y H Q ∨ rIxS x y H Q
theorem ix_seq : IxR X (rIx X.K) := ix_list.or (ix_tup.or ix_str)

/-! ### xs[i] = v, any sign -/
/-- the list's object behind a store -/
theorem mapSeq_set (its : List Value) (n j : Nat) (u : Value) : Obj.mapSeq (·.setIfInBounds j u) { cls := .type "list", data := .seq its.toArray n } = { cls := .type "list", data := .seq (its.set j u).toArray n } := by
  simp [Obj.mapSeq]
theorem Inv.lst {pins : List (Addr × Obj)} {σ : St} {H : Hp} {s : Shared} {p : Addr} {xs : List V} (I : Inv X pins σ H s) (h : H p = some (.lst xs)) :
    ∃ (its : List Value) (n : Nat), Vals xs its ∧ s.heap.get? p = some { cls := .type "list", data := .seq its.toArray n } ∧ xs.length ≤ sizeLine := by
  obtain ⟨z, its, n, r, e⟩ := I.hok p _ h
  exact ⟨its, n, r, e, z⟩
/-- the list at p is written by an update of its object -/
theorem Inv.lstUpd {pins : List (Addr × Obj)} {σ : St} {H : Hp} {s : Shared} {p : Addr} {xs ys : List V} {its its' : List Value} {n n' : Nat} {f : Obj → Obj} (I : Inv X pins σ H s) (h : H p = some (.lst xs))
    (ho : s.heap.get? p = some { cls := .type "list", data := .seq its.toArray n }) (hf : f { cls := .type "list", data := .seq its.toArray n } = { cls := .type "list", data := .seq its'.toArray n' }) (r : Vals ys its') (hz : ys.length ≤ sizeLine) (t : Nat) :
    Inv X pins σ (upd H p (.lst ys)) { s with heap := s.heap.update p f, toks := t } := by
  have e : (s.heap.update p f).get? p = some { cls := .type "list", data := .seq its'.toArray n' } := by
    rw [Heap.get?_update_self f ho (by rw [hf] <;> rfl), hf]
  refine I.write (x := p) (e := p) (by rw [h]; trivial) (.inl rfl) (fun b u hb q => (Heap.get?_update_other _ _ (Ne.symm hb)).trans q) ⟨_, e⟩ ?_
  exact ⟨hz, its', n', r, e⟩
def rSetL : V → V → V → Hp → (Hp → Prop) → Prop := fun o i v H Q => ∃ p xs k j, o = .ref p ∧ i = .int k ∧ H p = some (.lst xs) ∧ ixN xs.length k = some j ∧ Q (upd H p (.lst (xs.set j v)))
theorem set_list : PSet X rSetL := by
  intro pins s σ H o i v ov iv u Q I ro ri rv h
  obtain ⟨p, xs, k, j, rfl, rfl, hp, hj, q⟩ := h
  cases ro
  obtain ⟨t, rfl⟩ := ri
  obtain ⟨its, n, r, ho, hz⟩ := I.lst hp
  obtain ⟨h1, h2, h3, h4⟩ := ixN_seq hj
  have hl := r.length
  have hn := line63
  have I' : Inv X pins σ (upd H p (.lst (xs.set j v))) { s with heap := s.heap.update p (Obj.mapSeq (·.setIfInBounds j u)) } :=
    I.lstUpd hp ho (mapSeq_set its n j u) (r.set rv j) (by rw [List.length_set]; exact hz) s.toks
  by_cases h0 : 0 ≤ k
  · have hk : k.toNat = j := by
      rw [seqIndex_of h0 h4] at h1
      exact Option.some.inj h1
    exact PySem.W.ki_setAt ho h0 (by omega) (by rw [List.size_toArray, ← hl]; exact h4) (by rw [hk]; exact ⟨_, I', q⟩)
  · have hk : (k + (its.toArray.size : Int)).toNat = j := by
      rw [seqIndex_neg (by omega) h3] at h1
      rw [List.size_toArray, ← hl]
      exact Option.some.inj h1
    exact PySem.W.ki_setBack ho (by omega) (by rw [List.size_toArray, ← hl]; exact h3) (by omega) (by rw [hk]; exact ⟨_, I', q⟩)

/-! ### slices -/
theorem slice_bounds (lo hi : Option Int) (n : Nat) : (sliceBounds lo hi none n).1 = ((HT.sIx n 0 lo : Nat) : Int) ∧ (sliceBounds lo hi none n).2.1 = ((HT.sIx n n hi : Nat) : Int) ∧ (sliceBounds lo hi none n).2.2 = 1 := by
  refine ⟨?_, ?_, rfl⟩
  · cases lo with
    | none => simp [sliceBounds, HT.sIx]
    | some i =>
      simp only [sliceBounds, HT.sIx, Option.getD_none, show (1 : Int) > 0 by decide, if_true]
      by_cases h : i < 0
      · simp only [h, if_true] <;> omega
      · simp only [h, if_false] <;> omega
  · cases hi with
    | none => simp [sliceBounds, HT.sIx]
    | some i =>
      simp only [sliceBounds, HT.sIx, Option.getD_none, show (1 : Int) > 0 by decide, if_true]
      by_cases h : i < 0
      · simp only [h, if_true] <;> omega
      · simp only [h, if_false] <;> omega
theorem slicePick_cut (its : List Value) (lo hi : Option Int) : slicePick its.toArray lo hi none = ((its.drop (HT.sIx its.length 0 lo)).take (HT.sIx its.length its.length hi - HT.sIx its.length 0 lo)).toArray := by
  obtain ⟨h1, h2, h3⟩ := slice_bounds lo hi its.toArray.size
  unfold slicePick
  rw [h1, h2, h3]
  simp only [sliceRange_one, pick_run, List.size_toArray] <;> rfl
/-- xs[lo:hi] of a list: a new list -/
def rSlL (K : PySem.W.Frag) : V → Option Int → Option Int → Hp → VK → Prop := fun x lo hi H Q => ∃ a xs, x = .ref a ∧ SqL K H a xs ∧ ∀ p, H p = none → Q (.ref p) (upd H p (.lst (cutV xs lo hi)))
theorem sl_list : SlR X (rSlL X.K) := by
  intro pins s σ H x v vl vu lo hi sl Q I rx hs pl pu h
  obtain ⟨a, xs, rfl, hx, q⟩ := h
  cases rx
  obtain ⟨its, r, ht, hz⟩ := I.list hx
  have hlen := r.length
  refine ⟨"list", _, slot_list_getitem.lookup, ht.isList.typeIs, ?_⟩
  refine wpAny_getItem_list_slice ht.isList hs pl pu .none (by simp) ?_ (by rw [List.size_toArray] <;> omega)
  rw [slicePick_cut, ← hlen]
  refine ⟨.ref s.heap.objs.size, _, I.laid (t' := s.toks) (o := .lst (cutV xs lo hi)) (fun b ob q => Heap.get?_push_of_some _ q) (Nat.le_refl _) ?_, rfl, q _ (I.hok.fresh (Nat.le_refl _))⟩
  exact ⟨Nat.le_trans (cutV_length xs lo hi) hz, _, 0, (r.drop (HT.sIx xs.length 0 lo)).take (HT.sIx xs.length xs.length hi - HT.sIx xs.length 0 lo), Heap.get?_push_size _ rfl⟩

/-! ### in, not in: flat items -/
def flatV : V → Bool
  | .non => true
  | .bl _ => true
  | .int _ => true
  | .str _ => true
  | _ => false
/-- == of flat values -/
def eqV : V → V → Bool
  | .non, .non => true
  | .bl a, .bl b => a == b
  | .bl a, .int b => (if a then 1 else 0) == b
  | .int a, .bl b => a == (if b then 1 else 0)
  | .int a, .int b => a == b
  | .str a, .str b => a == b
  | _, _ => false
theorem eqAt_V {A : Around} {s : Shared} {y x : V} {u v : Value} (ry : RelV y u) (rx : RelV x v) (fy : flatV y = true) (fx : flatV x = true) : SeqAt.EqAt A s u v (eqV y x) := by
  cases y with
  | non =>
    cases ry
    cases x with
    | non => cases rx; exact SeqAt.EqAt.same _
    | bl b => cases rx; exact SeqAt.EqAt.none_bool b
    | int b => obtain ⟨t, rfl⟩ := rx; exact SeqAt.EqAt.none_int b t
    | str b => obtain ⟨t, rfl⟩ := rx; exact SeqAt.EqAt.none_str b t
    | _ => exact absurd (show false = true from fx) Bool.false_ne_true
  | bl a =>
    cases ry
    cases x with
    | non => cases rx; exact SeqAt.EqAt.bool_none a
    | bl b => cases rx; exact SeqAt.EqAt.bool_bool a b
    | int b => obtain ⟨t, rfl⟩ := rx; exact SeqAt.EqAt.bool_int a b t
    | str b => obtain ⟨t, rfl⟩ := rx; exact SeqAt.EqAt.bool_str a b t
    | _ => exact absurd (show false = true from fx) Bool.false_ne_true
  | int a =>
    obtain ⟨t', rfl⟩ := ry
    cases x with
    | non => cases rx; exact SeqAt.EqAt.int_none a t'
    | bl b => cases rx; exact SeqAt.EqAt.int_bool a t' b
    | int b => obtain ⟨t, rfl⟩ := rx; exact SeqAt.EqAt.int_int a t' b t
    | str b => obtain ⟨t, rfl⟩ := rx; exact SeqAt.EqAt.int_str a t' b t
    | _ => exact absurd (show false = true from fx) Bool.false_ne_true
  | str a =>
    obtain ⟨t', rfl⟩ := ry
    cases x with
    | non => cases rx; exact SeqAt.EqAt.str_none a t'
    | bl b => cases rx; exact SeqAt.EqAt.str_bool a t' b
    | int b => obtain ⟨t, rfl⟩ := rx; exact SeqAt.EqAt.str_int a t' b t
    | str b => obtain ⟨t, rfl⟩ := rx; exact SeqAt.EqAt.str_str a t' b t
    | _ => exact absurd (show false = true from fx) Bool.false_ne_true
  | _ => exact absurd (show false = true from fy) Bool.false_ne_true
/-- the items' answers, read off the values (a value's own answer does not lean on its token) -/
def eqU (x : V) (u : Value) : Bool := match u with
  | .none => eqV .non x
  | .bool b => eqV (.bl b) x
  | .int i _ => eqV (.int i) x
  | .str z _ => eqV (.str z) x
  | _ => false
theorem eqU_of {x y : V} {u : Value} (r : RelV y u) (f : flatV y = true) : eqU x u = eqV y x := by
  cases y with
  | non => cases r; rfl
  | bl b => cases r; rfl
  | int i => obtain ⟨t, rfl⟩ := r; rfl
  | str z => obtain ⟨t, rfl⟩ := r; rfl
  | _ => exact absurd (show false = true from f) Bool.false_ne_true
theorem any_eqU {x : V} : ∀ {xs : List V} {us : List Value}, Vals xs us → xs.all flatV = true → us.any (eqU x) = xs.any fun y => eqV y x
  | _, _, .nil, _ => rfl
  | y :: xs, u :: us, .cons r t, f => by
    rw [List.all_cons, Bool.and_eq_true] at f
    rw [List.any_cons, List.any_cons, eqU_of r f.1, any_eqU t f.2]
theorem mem_eqAt {A : Around} {s : Shared} {x : V} {v : Value} (rx : RelV x v) (fx : flatV x = true) : ∀ {xs : List V} {us : List Value}, Vals xs us → xs.all flatV = true → ∀ u ∈ us, SeqAt.EqAt A s u v (eqU x u)
  | _, _, .nil, _ => fun u hu => by cases hu
  | y :: xs, u :: us, .cons r t, f => fun u' hu => by
    rw [List.all_cons, Bool.and_eq_true] at f
    rcases List.mem_cons.mp hu with rfl | hu
    · rw [eqU_of r f.1]; exact eqAt_V r rx f.1 fx
    · exact mem_eqAt rx fx t f.2 u' hu
def inV (x : V) (xs : List V) : Bool := xs.any fun y => eqV y x
/-- x in a list or tuple of flat items -/
def rIn (K : PySem.W.Frag) (neg : Bool) : R2 := fun x y H Q => ∃ p xs, y = .ref p ∧ (SqL K H p xs ∨ SqT K H p xs) ∧ flatV x = true ∧ xs.all flatV = true ∧ Q (.bl (if neg then !inV x xs else inV x xs)) H
theorem op_in_seq : OpR X (compareOp .In) (rIn X.K false) := by
  intro pins s σ H x y v u Q I rx ry h
  obtain ⟨p, xs, rfl, hq, fx, fs, q⟩ := h
  cases ry
  rcases hq with hq | hq
  · obtain ⟨its, r, pl, hz⟩ := I.list hq
    refine SeqAt.in_listAt (eqU x) pl.isList (fun w hw => mem_eqAt rx fx r fs w (by simpa using hw)) ⟨.bl _, H, I, rfl, ?_⟩
    rw [show its.toArray.any (eqU x) = its.any (eqU x) by simp, any_eqU r fs]
    exact q
  · obtain ⟨its, r, pl, hz⟩ := I.tuple hq
    refine SeqAt.in_tupleAt (eqU x) pl (fun w hw => mem_eqAt rx fx r fs w (by simpa using hw)) ⟨.bl _, H, I, rfl, ?_⟩
    rw [show its.toArray.any (eqU x) = its.any (eqU x) by simp, any_eqU r fs]
    exact q
theorem op_notIn_seq : OpR X (compareOp .NotIn) (rIn X.K true) := by
  intro pins s σ H x y v u Q I rx ry h
  obtain ⟨p, xs, rfl, hq, fx, fs, q⟩ := h
  cases ry
  rcases hq with hq | hq
  · obtain ⟨its, r, pl, hz⟩ := I.list hq
    refine SeqAt.notIn_listAt (eqU x) pl.isList (fun w hw => mem_eqAt rx fx r fs w (by simpa using hw)) ⟨.bl _, H, I, rfl, ?_⟩
    rw [show its.toArray.any (eqU x) = its.any (eqU x) by simp, any_eqU r fs]
    exact q
  · obtain ⟨its, r, pl, hz⟩ := I.tuple hq
    refine SeqAt.notIn_tupleAt (eqU x) pl (fun w hw => mem_eqAt rx fx r fs w (by simpa using hw)) ⟨.bl _, H, I, rfl, ?_⟩
    rw [show its.toArray.any (eqU x) = its.any (eqU x) by simp, any_eqU r fs]
    exact q
theorem op_notIn_str : OpR X (compareOp .NotIn) (fun x y H Q => ∃ i j, x = .str i ∧ y = .str j ∧ Q (.bl (!(!(Builtin.Str.occurrences j i 0 j.length 1).isEmpty))) H) := by
  intro pins s σ H x y v u Q I rx ry h
  obtain ⟨i, j, rfl, rfl, q⟩ := h
  obtain ⟨t, rfl⟩ := rx
  obtain ⟨t', rfl⟩ := ry
  exact notIn_str ⟨.bl _, H, I, rfl, q⟩

/-! ### len, list(x), tuple(x) of any list or tuple that is read -/
theorem call_len_seq : CallR X (.builtin "len") (fun xs H Q => ∃ p ys, xs = [.ref p] ∧ (SqL X.K H p ys ∨ SqT X.K H p ys) ∧ Q (.int ys.length) H) := by
  intro pins s σ H xs us Q I r h
  obtain ⟨p, ys, rfl, hq, q⟩ := h
  obtain ⟨u, rfl, rx⟩ := vals1 r
  cases rx
  have hn := line63
  rcases hq with hq | hq
  · obtain ⟨its, r', pl, hz⟩ := I.list hq
    have hlen := r'.length
    exact Calls.call_len_list pl.isList (by simp only [List.size_toArray] <;> omega) ⟨.int ys.length, H, I.tok _, ⟨s.toks + 1, by rw [List.size_toArray, hlen]⟩, q⟩
  · obtain ⟨its, r', pl, hz⟩ := I.tuple hq
    have hlen := r'.length
    exact len_tuple pl (by simp only [List.size_toArray] <;> omega) ⟨.int ys.length, H, I.tok _, ⟨s.toks + 1, by rw [List.size_toArray, hlen]⟩, q⟩
theorem call_len_str : CallR X (.builtin "len") (fun xs H Q => ∃ z, xs = [.str z] ∧ z.length ≤ sizeLine ∧ Q (.int z.length) H) := by
  intro pins s σ H xs us Q I r h
  obtain ⟨z, rfl, hz, q⟩ := h
  obtain ⟨u, rfl, t, rfl⟩ := vals1 r
  have hn := line63
  exact len_str (by omega) ⟨.int z.length, H, I.tok _, ⟨_, rfl⟩, q⟩
theorem CallR.or {f : Value} {r r' : List V → Hp → VK → Prop} (h : CallR X f r) (h' : CallR X f r') : CallR X f (fun xs H Q => r xs H Q ∨ r' xs H Q) := by
  intro pins s σ H xs us Q I rs q
  rcases q with q | q
  · exact h pins s σ H xs us Q I rs q
  · exact h' pins s σ H xs us Q I rs q
theorem call_list_of : CallR X (.type "list") (fun xs H Q => ∃ p ys, xs = [.ref p] ∧ (SqL X.K H p ys ∨ SqT X.K H p ys) ∧ ∀ l, H l = none → Q (.ref l) (upd H l (.lst ys))) := by
  intro pins s σ H xs us Q I r h
  obtain ⟨p, ys, rfl, hq, q⟩ := h
  obtain ⟨u, rfl, rx⟩ := vals1 r
  cases rx
  have fin : ∀ (its : List Value), Vals ys its → ys.length ≤ sizeLine → ∀ (h' : Heap) (c' : Nat), (∀ b o', s.heap.get? b = some o' → h'.get? b = some o') →
      h'.get? s.heap.objs.size = some { cls := .type "list", dict := none, data := .seq its.toArray c', slots := #[] } → EP X pins σ Q (.ref s.heap.objs.size) { s with heap := h' } := fun its r' hz h' c' kp e =>
    ⟨.ref s.heap.objs.size, _, I.laid (t' := s.toks) kp (Nat.le_refl _) (show ObjOk X.prog X.w _ h' _ (.lst ys) from ⟨hz, its, c', r', e⟩), rfl, q _ (I.hok.fresh (Nat.le_refl _))⟩
  rcases hq with hq | hq
  · obtain ⟨its, r', pl, hz⟩ := I.list hq
    have hlen := r'.length
    obtain ⟨o, ho, hc, n, hd⟩ := pl.isList
    exact call_list_seq p (.inl rfl) ho hc hd (fun h' c' kp e => fin its r' hz h' c' kp e) (by simp only [List.size_toArray] <;> omega)
  · obtain ⟨its, r', pl, hz⟩ := I.tuple hq
    have hlen := r'.length
    obtain ⟨o, ho, hc, n, hd⟩ := pl
    exact call_list_seq p (.inr rfl) ho hc hd (fun h' c' kp e => fin its r' hz h' c' kp e) (by simp only [List.size_toArray] <;> omega)
theorem call_tuple_of : CallR X (.type "tuple") (fun xs H Q => ∃ p ys, xs = [.ref p] ∧ ((SqL X.K H p ys ∧ ∀ l, H l = none → Q (.ref l) (upd H l (.tup ys))) ∨ (SqT X.K H p ys ∧ Q (.ref p) H))) := by
  intro pins s σ H xs us Q I r h
  obtain ⟨p, ys, rfl, h⟩ := h
  obtain ⟨u, rfl, rx⟩ := vals1 r
  cases rx
  rcases h with ⟨hq, q⟩ | ⟨hq, q⟩
  · obtain ⟨its, r', pl, hz⟩ := I.list hq
    have hlen := r'.length
    refine call_tuple_list pl.isList (fun h' kp => ?_) (by simp only [List.size_toArray] <;> omega)
    have I1 : Inv X pins σ H { s with heap := h' } := I.kept (t' := s.toks) kp
    have I2 : Inv X pins σ (upd H h'.objs.size (.tup ys)) { s with heap := h'.push { cls := .type "tuple", data := .seq its.toArray } } :=
      I1.laid (t' := s.toks) (fun b o e => Heap.get?_push_of_some _ e) (Nat.le_refl _) (show ObjOk X.prog X.w _ _ _ (.tup ys) from ⟨hz, its, r', IsTup.new _ _⟩)
    exact ⟨.ref h'.objs.size, _, I2, rfl, q _ (I1.hok.fresh (Nat.le_refl _))⟩
  · obtain ⟨its, r', pl, hz⟩ := I.tuple hq
    exact call_tuple_same pl ⟨.ref p, H, I, rfl, q⟩

/-! ### the call of a builtin's method: o.m(..) -/
/-- the value is of that builtin type -/
def tyV (K : PySem.W.Frag) (T : String) (x : V) (H : Hp) : Prop := match x with
  | .str _ => T = "str"
  | .int _ => T = "int"
  | .ref p => (T = "list" ∧ ∃ xs, SqL K H p xs) ∨ (T = "tuple" ∧ ∃ o, K.lookup p = some o ∧ o.cls = .type "tuple" ∧ o.dict = none) ∨
      (T = "dict" ∧ ((∃ kvs, H p = some (.dK kvs)) ∨ ∃ kvs, H p = some (.dT kvs))) ∨ (T = "set" ∧ ∃ S n, H p = some (.set S n))
  | _ => False
theorem tyV_is {pins : List (Addr × Obj)} {σ : St} {H : Hp} {s : Shared} {T : String} {x : V} {v : Value} (I : Inv X pins σ H s) (r : RelV x v) (ty : tyV X.K T x H) :
    s.TypeIs v T ∧ ∀ a, v = .ref a → ∃ ob, s.heap.get? a = some ob ∧ ob.dict = none := by
  cases x with
  | str z =>
    obtain ⟨t, rfl⟩ := r
    cases (show T = "str" from ty)
    exact ⟨typeIs_str s z t, fun _ e => nomatch e⟩
  | int i =>
    obtain ⟨t, rfl⟩ := r
    cases (show T = "int" from ty)
    exact ⟨typeIs_int s i t, fun _ e => nomatch e⟩
  | ref p =>
    cases r
    rcases ty with ⟨rfl, xs, hq⟩ | ⟨rfl, o, hk, hc, hd⟩ | ⟨rfl, hk⟩ | ⟨rfl, S, n, hk⟩
    · obtain ⟨its, _, pl, _⟩ := I.list hq
      refine ⟨pl.isList.typeIs, fun a e => ?_⟩
      cases e
      obtain ⟨o, n, e, c, hd, _⟩ := pl
      exact ⟨o, e, hd⟩
    · refine ⟨⟨o, I.kIn p o hk, hc⟩, fun a e => ?_⟩
      cases e
      exact ⟨o, I.kIn _ o hk, hd⟩
    · have z : ∃ o, s.heap.get? p = some o ∧ o.ExactDict := by
        rcases hk with ⟨kvs, hk⟩ | ⟨kvs, hk⟩
        · obtain ⟨_, _, _, _, o, _, _, e, ex, _⟩ := I.hok p _ hk
          exact ⟨o, e, ex⟩
        · obtain ⟨_, _, _, _, o, _, _, e, ex, _⟩ := I.hok p _ hk
          exact ⟨o, e, ex⟩
      obtain ⟨o, e, ex⟩ := z
      refine ⟨⟨o, e, ex.1⟩, fun a e2 => ?_⟩
      cases e2
      exact ⟨o, e, ex.2.1⟩
    · obtain ⟨o, _, _, _, e, ex, _⟩ := I.hok p _ hk
      refine ⟨⟨o, e, ex.1⟩, fun a e2 => ?_⟩
      cases e2
      exact ⟨o, e, ex.2.1⟩
  | _ => exact False.elim ty
def tBM0 (K : PySem.W.Frag) (T : String) (r : V → List V → Hp → VK → Prop) (to : TE) : TE := fun σ H Q => to σ H fun x H1 => tyV K T x H1 ∧ r x [] H1 Q
def tBM (K : PySem.W.Frag) (T : String) (r : V → List V → Hp → VK → Prop) (to : TE) (t : TA) : TE := fun σ H Q => to σ H fun x H1 => tyV K T x H1 ∧ t σ H1 fun xs H2 => r x xs H2 Q
variable {o e : Expr} {es : List Expr} {to : TE} {t : TA} {name : Str} {apos cpos : Pos} {T id : String} {r : V → List V → Hp → VK → Prop}
theorem pe_bm0 (pa : PlainAttrs T) (slot : Slot T name id) (hty : typeOf (.builtin id) = pure (.type "method_descriptor")) (hm : MtR X id r) (ho : PE X o to)
    (hbase : attributeBase o name X.env (eval o X.env) = eval o X.env := by rfl) (hline : (apos.endLine == cpos.line) = true := by rfl) : PE X (.Call (.Attribute o name apos) [] [] cpos) (tBM0 X.K T r to) := by
  intro pins s σ H Q I h
  refine wpAny_Call_method0_late hbase hline (thn (ho pins s σ H _ I h) fun v s1 ⟨x, H1, I1, r1, ty, q1⟩ => ?_)
  obtain ⟨h1, h2⟩ := tyV_is I1 r1 ty
  exact ⟨T, id, pa, slot, hty, h1, h2, Calls.callWith_builtin rfl (PySem.evalArgs_none (hm pins s1 σ H1 x [] v [] Q I1 r1 .nil q1))⟩
theorem pe_bm (pa : PlainAttrs T) (slot : Slot T name id) (hty : typeOf (.builtin id) = pure (.type "method_descriptor")) (hm : MtR X id r) (ho : PE X o to) (ha : PA X (e :: es) t)
    (hbase : attributeBase o name X.env (eval o X.env) = eval o X.env := by rfl)
    (hfew : ((backTo cpos (starEach (e :: es) X.env)).all (fun x => !x.1) && (backToKw cpos (keywordEach [] X.env)).all (fun x => x.1.isSome)
      && decide ((e :: es).length + ([] : List Keyword).length + (if ([] : List Keyword).isEmpty then 0 else 1) < 30)) = true := by rfl)
    (hline : (apos.endLine == cpos.line) = true := by rfl) (hs : starEach (e :: es) X.env = (false, eval e X.env) :: starEach es X.env := by rfl) (hplain : (backTo cpos (starEach es X.env)).any (·.1) = false := by rfl) :
    PE X (.Call (.Attribute o name apos) (e :: es) [] cpos) (tBM X.K T r to t) := by
  intro pins s σ H Q I h
  refine wpAny_Call_method_late hbase hfew hline rfl (thn (ho pins s σ H _ I h) fun v s1 ⟨x, H1, I1, r1, ty, q1⟩ => ?_)
  obtain ⟨h1, h2⟩ := tyV_is I1 r1 ty
  refine ⟨T, id, pa, slot, hty, h1, h2, ?_⟩
  have hA := ha cpos pins s1 σ H1 _ I1 q1
  rw [hs] at hA ⊢
  refine Calls.callWith_builtin (by show (false || (backTo cpos (starEach es X.env)).any (·.1)) = false; rw [hplain] <;> rfl) (Calls.evalArgs_plain ?_)
  exact thn hA fun us s2 ⟨vs, H2, I2, r2, q2⟩ => hm pins s2 σ H2 x vs v us Q I2 r1 r2 q2
/- xs.append(e), list.index on a module's tuple .. are MtR facts of 06m -/
end
end L2

namespace L2
open PySem PySem.Spec PyProof.Rows

def MtM (X : Cx) (id : String) (r : V → List V → Hp → VK → Prop) : Prop :=
  ∀ (pins : List (Addr × Obj)) (s : Shared) (σ : St) (H : Hp) (x : V) (xs : List V) (v : Value) (us : List Value) (Q : VK), Inv X pins σ H s → RelV x v → Vals xs us → r x xs H Q →
    wpAny (model X.prog X.w) X.A (call (.builtin id) (v :: us)) (EP X pins σ Q) X.xe s

/-! ### lists of values -/
theorem Vals.one : ∀ {x : V} {us : List Value}, Vals [x] us → ∃ u, us = [u] ∧ RelV x u
  | _, _, .cons r .nil => ⟨_, rfl, r⟩
theorem Vals.two : ∀ {x y : V} {us : List Value}, Vals [x, y] us → ∃ u v, us = [u, v] ∧ RelV x u ∧ RelV y v
  | _, _, _, .cons r (.cons q .nil) => ⟨_, _, rfl, r, q⟩
theorem Vals.zero : ∀ {us : List Value}, Vals [] us → us = []
  | _, .nil => rfl
theorem Vals.dropLast {xs : List V} {us : List Value} (h : Vals xs us) : Vals xs.dropLast us.dropLast := by
  induction h with
  | nil => exact .nil
  | cons r t ih =>
    cases t with
    | nil => exact .nil
    | cons q t' => exact .cons r ih
theorem Vals.eraseIdx : ∀ {xs : List V} {us : List Value} (i : Nat), Vals xs us → Vals (xs.eraseIdx i) (us.eraseIdx i)
  | _, _, _, .nil => .nil
  | _, _, 0, .cons _ t => t
  | _, _, i + 1, .cons r t => .cons r (Vals.eraseIdx i t)
theorem Vals.reverse {xs : List V} {us : List Value} (h : Vals xs us) : Vals xs.reverse us.reverse := by
  induction h with
  | nil => exact .nil
  | cons r t ih => rw [List.reverse_cons, List.reverse_cons]; exact Vals.append ih (.cons r .nil)
theorem Vals.rep {xs : List V} {us : List Value} (h : Vals xs us) : ∀ k : Nat, Vals (List.replicate k xs).flatten (List.replicate k us).flatten
  | 0 => .nil
  | k + 1 => by
    rw [List.replicate_succ, List.replicate_succ, List.flatten_cons, List.flatten_cons]
    exact Vals.append h (Vals.rep h k)
theorem erase_last {α : Type} (l : List α) : l.eraseIdx (l.length - 1) = l.dropLast := by
  induction l with
  | nil => rfl
  | cons a r ih =>
    cases r with
    | nil => rfl
    | cons b r =>
      have e : (a :: b :: r).length - 1 = ((b :: r).length - 1) + 1 := by
        have h1 : (a :: b :: r).length = r.length + 2 := rfl
        have h2 : (b :: r).length = r.length + 1 := rfl
        omega
      rw [e, List.eraseIdx_cons_succ, ih]
      all_goals rfl
theorem len_erase {α : Type} : ∀ (l : List α) (i : Nat), (l.eraseIdx i).length ≤ l.length
  | [], _ => Nat.le_refl _
  | _ :: _, 0 => Nat.le_succ _
  | _ :: r, i + 1 => Nat.succ_le_succ (len_erase r i)
theorem foldl_rep (its : List Value) : ∀ (k : Nat) (acc : List Value),
    List.foldl (fun x1 x2 => x1 ++ x2) acc.toArray (List.replicate k its.toArray) = (acc ++ (List.replicate k its).flatten).toArray
  | 0, acc => by simp
  | k + 1, acc => by
    have e : acc.toArray ++ its.toArray = (acc ++ its).toArray := by simp
    have e2 : (acc ++ its) ++ (List.replicate k its).flatten = acc ++ (List.replicate (k + 1) its).flatten := by
      rw [List.replicate_succ, List.flatten_cons, List.append_assoc]
    rw [← e2, ← foldl_rep its k (acc ++ its), ← e, List.replicate_succ, List.foldl_cons]

section
variable {X : Cx} {pins : List (Addr × Obj)} {σ : St} {H : Hp} {s : Shared} {l b : Addr} {xs ys zs : List V}

/-! ### the two steps: a tracked list is rewritten, a new list is laid -/
theorem Inv.lset {its its' : List Value} {n : Nat} {f : Array Value → Array Value} {t' : Nat} (I : Inv X pins σ H s) (hH : H l = some (.lst xs))
    (e : s.heap.get? l = some { cls := .type "list", data := .seq its.toArray n }) (hf : f its.toArray = its'.toArray) (hv : Vals ys its') (hz : ys.length ≤ sizeLine) :
    Inv X pins σ (upd H l (.lst ys)) { s with heap := s.heap.update l (Obj.mapSeq f), toks := t' } := by
  have q := PySem.IsL.update e f
  rw [hf] at q
  refine I.write (x := l) (e := l) (by rw [hH]; exact trivial) (.inl rfl) (fun b' u hb hu => (Heap.get?_update_other s.heap (Obj.mapSeq f) (Ne.symm hb)).trans hu) ⟨_, q⟩ ?_
  exact ⟨hz, its', _, hv, q⟩
theorem Inv.lnew {its : List Value} {t' : Nat} (I : Inv X pins σ H s) (hv : Vals ys its) (hz : ys.length ≤ sizeLine) :
    Inv X pins σ (upd H s.heap.objs.size (.lst ys)) { s with heap := s.heap.push { cls := .type "list", data := .seq its.toArray }, toks := t' } :=
  I.laid (fun _ _ q => Heap.get?_push_of_some _ q) (Nat.le_refl _) ⟨hz, its, 0, hv, Heap.get?_push_size _ rfl⟩
theorem Inv.fresh (I : Inv X pins σ H s) : H s.heap.objs.size = none := I.hok.fresh (Nat.le_refl _)
theorem Inv.lstM (I : Inv X pins σ H s) (hH : H l = some (.lst xs)) : xs.length ≤ sizeLine ∧ ∃ (its : List Value) (n : Nat), Vals xs its ∧ xs.length = its.length ∧ s.heap.get? l = some { cls := .type "list", data := .seq its.toArray n } := by
  obtain ⟨z, its, n, r, e⟩ := I.hok l _ hH
  exact ⟨z, its, n, r, r.length, e⟩

theorem notLongL {n : Nat} (h : n ≤ sizeLine) : Builtin.List.listTooLong n = false := by
  unfold Builtin.List.listTooLong
  exact decide_eq_false (by omega)
end

section
variable {X : Cx}

/-! ### methods -/
def rAppend : V → List V → Hp → VK → Prop := fun x vs H Q => ∃ l xs y, x = .ref l ∧ vs = [y] ∧ H l = some (.lst xs) ∧ xs.length < sizeLine ∧ Q .non (upd H l (.lst (xs ++ [y])))
theorem mt_append : MtM X "list.append" rAppend := by
  intro pins s σ H x vs v us Q I rx rv h
  obtain ⟨l, xs, y, rfl, rfl, hH, hz, q⟩ := h
  cases rx
  obtain ⟨u, rfl, ru⟩ := rv.one
  obtain ⟨z, its, n, r, hl, e⟩ := I.lstM hH
  refine call_meets F.slot_list_append ⟨_, e, rfl⟩ F.entry_list_append (F.args_list_append_2 _ _) (PySem.list_append l its.toArray n u (by rw [List.size_toArray]; omega)) ⟨e, ?_⟩
  refine ⟨.non, _, I.lset (its' := its ++ [u]) hH e (by simp) (r.append (.cons ru .nil)) ?_, rfl, q⟩
  rw [List.length_append, List.length_singleton]
  omega

def rExtend : V → List V → Hp → VK → Prop := fun x vs H Q => ∃ l b xs zs, x = .ref l ∧ vs = [.ref b] ∧ H l = some (.lst xs) ∧ H b = some (.lst zs) ∧ xs.length + zs.length ≤ sizeLine ∧ Q .non (upd H l (.lst (xs ++ zs)))
theorem mt_extend : MtM X "list.extend" rExtend := by
  intro pins s σ H x vs v us Q I rx rv h
  obtain ⟨l, b, xs, zs, rfl, rfl, hH, hB, hz, q⟩ := h
  cases rx
  obtain ⟨u, rfl, ru⟩ := rv.one
  cases ru
  obtain ⟨z, its, n, r, hl, e⟩ := I.lstM hH
  obtain ⟨z2, its2, n2, r2, hl2, e2⟩ := I.lstM hB
  have hsz : its.toArray.size + its2.toArray.size ≤ sizeLine := by rw [List.size_toArray, List.size_toArray]; omega
  have hlong : ¬ (!its.toArray.isEmpty && Builtin.List.listTooLong (its.toArray.size + its2.toArray.size)) = true := by
    rw [notLongL hsz, Bool.and_false]
    exact Bool.false_ne_true
  refine call_meets F.slot_list_extend ⟨_, e, rfl⟩ F.entry_list_extend (F.args_list_extend_2 _ _)
    (AutoSeq1.list_extend_list_list_0 l its.toArray n b its2.toArray n2 hlong (by rw [List.size_toArray]; omega) (by omega)) ⟨e, e2, ?_⟩
  refine ⟨.non, _, I.lset (its' := its ++ its2) hH e (by simp) (r.append r2) ?_, rfl, q⟩
  rw [List.length_append]
  omega

def rPop : V → List V → Hp → VK → Prop := fun x vs H Q => ∃ l xs y, x = .ref l ∧ vs = [] ∧ H l = some (.lst xs) ∧ xs[xs.length - 1]? = some y ∧ Q y (upd H l (.lst xs.dropLast))
theorem mt_pop : MtM X "list.pop" rPop := by
  intro pins s σ H x vs v us Q I rx rv h
  obtain ⟨l, xs, y, rfl, rfl, hH, hy, q⟩ := h
  cases rx
  have hus := rv.zero
  subst hus
  obtain ⟨z, its, n, r, hl, e⟩ := I.lstM hH
  obtain ⟨u, hu, ru⟩ := r.get hy
  have hy' : its.toArray[its.toArray.size - 1]? = some u := by
    show its.toArray[its.length - 1]? = some u
    rw [← Array.getElem?_toList, ← hl]
    exact hu
  refine call_meets F.slot_list_pop ⟨_, e, rfl⟩ F.entry_list_pop (F.args_list_pop_1 _) (MeetsSeq.list_pop_last l its.toArray n u hy' (by rw [List.size_toArray]; omega)) ⟨e, ?_⟩
  refine ⟨y, _, I.lset (its' := its.dropLast) hH e ?_ r.dropLast ?_, ru, q⟩
  · show its.toArray.eraseIdxIfInBounds (its.toArray.size - 1) = its.dropLast.toArray
    rw [List.size_toArray, List.eraseIdxIfInBounds_toArray, erase_last]
  · rw [List.length_dropLast]
    omega

def rPopAt : V → List V → Hp → VK → Prop := fun x vs H Q => ∃ l xs i k y, x = .ref l ∧ vs = [.int i] ∧ H l = some (.lst xs) ∧ -(2 ^ 63) ≤ i ∧ i < 2 ^ 63 ∧ seqIndex? i xs.length = some k ∧ xs[k]? = some y ∧ Q y (upd H l (.lst (xs.eraseIdx k)))
theorem mt_popAt : MtM X "list.pop" rPopAt := by
  intro pins s σ H x vs v us Q I rx rv h
  obtain ⟨l, xs, i, k, y, rfl, rfl, hH, h1, h2, hk, hy, q⟩ := h
  cases rx
  obtain ⟨u, rfl, ru⟩ := rv.one
  obtain ⟨t, rfl⟩ := ru
  obtain ⟨z, its, n, r, hl, e⟩ := I.lstM hH
  obtain ⟨w, hw, rw'⟩ := r.get hy
  refine call_meets F.slot_list_pop ⟨_, e, rfl⟩ F.entry_list_pop (F.args_list_pop_2 _ _)
    (MeetsSeq.list_pop_at l its.toArray n i t k w (fitsIndex_both h1 h2) (by rw [List.size_toArray, ← hl]; exact hk) (by rw [← Array.getElem?_toList]; exact hw) (by rw [List.size_toArray]; omega)) ⟨e, ?_⟩
  refine ⟨y, _, I.lset (its' := its.eraseIdx k) hH e ?_ (r.eraseIdx k) ?_, rw', q⟩
  · show its.toArray.eraseIdxIfInBounds k = (its.eraseIdx k).toArray
    rw [List.eraseIdxIfInBounds_toArray]
  · have := len_erase xs k
    omega

def rReverse : V → List V → Hp → VK → Prop := fun x vs H Q => ∃ l xs, x = .ref l ∧ vs = [] ∧ H l = some (.lst xs) ∧ Q .non (upd H l (.lst xs.reverse))
theorem mt_reverse : MtM X "list.reverse" rReverse := by
  intro pins s σ H x vs v us Q I rx rv h
  obtain ⟨l, xs, rfl, rfl, hH, q⟩ := h
  cases rx
  have hus := rv.zero
  subst hus
  obtain ⟨z, its, n, r, hl, e⟩ := I.lstM hH
  refine call_meets F.slot_list_reverse ⟨_, e, rfl⟩ F.entry_list_reverse (F.args_list_reverse_1 _) (AutoSeq1.list_reverse_list_0 l its.toArray n (by rw [List.size_toArray]; omega)) ⟨e, ?_⟩
  refine ⟨.non, _, I.lset (its' := its.reverse) hH e (by simp) r.reverse ?_, rfl, q⟩
  rw [List.length_reverse]
  omega

def rClear : V → List V → Hp → VK → Prop := fun x vs H Q => ∃ l xs, x = .ref l ∧ vs = [] ∧ H l = some (.lst xs) ∧ Q .non (upd H l (.lst []))
theorem mt_clear : MtM X "list.clear" rClear := by
  intro pins s σ H x vs v us Q I rx rv h
  obtain ⟨l, xs, rfl, rfl, hH, q⟩ := h
  cases rx
  have hus := rv.zero
  subst hus
  obtain ⟨z, its, n, r, hl, e⟩ := I.lstM hH
  refine call_meets F.slot_list_clear ⟨_, e, rfl⟩ F.entry_list_clear (F.args_list_clear_1 _) (AutoSeq1.list_clear_list_0 l its.toArray n (by rw [List.size_toArray]; omega)) ⟨e, ?_⟩
  exact ⟨.non, _, I.lset (its' := []) (ys := []) hH e rfl .nil (Nat.zero_le _), rfl, q⟩

/-! ### list + list, list += list, list * int -/
def rCat : R2 := fun x y H Q => ∃ l b xs zs, x = .ref l ∧ y = .ref b ∧ H l = some (.lst xs) ∧ H b = some (.lst zs) ∧ xs.length + zs.length ≤ sizeLine ∧ ∀ p, H p = none → Q (.ref p) (upd H p (.lst (xs ++ zs)))
theorem op_cat : OpR X (binaryOp .Add) rCat := by
  intro pins s σ H x y v u Q I rx ry h
  obtain ⟨l, b, xs, zs, rfl, rfl, hH, hB, hz, q⟩ := h
  cases rx
  cases ry
  obtain ⟨z, its, n, r, hl, e⟩ := I.lstM hH
  obtain ⟨z2, its2, n2, r2, hl2, e2⟩ := I.lstM hB
  refine PySem.P.add_list e e2 ?_ (by rw [List.size_toArray, List.size_toArray]; omega)
  have ea : its.toArray ++ its2.toArray = (its ++ its2).toArray := by simp
  rw [ea]
  exact ⟨.ref _, _, I.lnew (t' := s.toks) (r.append r2) (by rw [List.length_append]; omega), rfl, q _ I.fresh⟩
/-- a list times an int (a negative one is nothing) -/
def rRep : R2 := fun x y H Q => ∃ l k xs, x = .ref l ∧ y = .int k ∧ H l = some (.lst xs) ∧ -(2 ^ 63) ≤ k ∧ k < 2 ^ 63 ∧ xs.length * k.toNat ≤ sizeLine ∧
  ∀ p, H p = none → Q (.ref p) (upd H p (.lst (List.replicate k.toNat xs).flatten))
theorem len_rep {α : Type} (xs : List α) (k : Nat) : (List.replicate k xs).flatten.length = k * xs.length := by
  induction k with
  | zero => simp
  | succ k ih => rw [List.replicate_succ, List.flatten_cons, List.length_append, ih, Nat.succ_mul, Nat.add_comm]
theorem op_rep : OpR X (binaryOp .Mult) rRep := by
  intro pins s σ H x y v u Q I rx ry h
  obtain ⟨l, k, xs, rfl, rfl, hH, h1, h2, hz, q⟩ := h
  cases rx
  obtain ⟨t, rfl⟩ := ry
  obtain ⟨z, its, n, r, hl, e⟩ := I.lstM hH
  have hlen : its.toArray.size * k.toNat ≤ sizeLine := by rw [List.size_toArray, ← hl]; exact hz
  have hcap : ¬ its.toArray.size * k.toNat > (2 ^ 63 - 1) / 8 := by
    have : (sizeLine : Nat) ≤ (2 ^ 63 - 1) / 8 := by decide
    omega
  have hfit : ¬ (!Builtin.List.listFitsIndex k) = true := by
    rw [fitsIndex_both h1 h2]
    exact Bool.false_ne_true
  have hlong : ¬ Builtin.List.listTooLong (its.toArray.size * k.toNat) = true := by
    rw [notLongL hlen]
    exact Bool.false_ne_true
  have hnew : List.foldl (fun x1 x2 => x1 ++ x2) #[] (List.replicate (if its.toArray.isEmpty = true then 0 else k.toNat) its.toArray) = (List.replicate k.toNat its).flatten.toArray := by
    have f0 : ∀ m : Nat, List.foldl (fun x1 x2 => x1 ++ x2) #[] (List.replicate m its.toArray) = (List.replicate m its).flatten.toArray := fun m => by
      have := foldl_rep its m []
      rw [List.nil_append] at this
      exact this
    rw [f0]
    cases its with
    | nil => simp
    | cons a r' => rw [if_neg (by simp)]
  refine wpAny_binaryOp_repeat_ref (T := "list") (U := "int") (by decide) ⟨_, e, rfl⟩ (fun s' => typeIs_int s' k t) noFill_list_mul F.fills_int_mul F.slot_int_rmul repeat_list F.slot_int_index.lookup
    (call_meets F.slot_int_rmul (typeIs_int s k t) F.entry_int_rmul (F.args_int_rmul_2 _ _) (int___rmul___int_list k t l its.toArray n)
      ⟨e, rfl, ⟨_, e, rfl⟩, call_meets F.slot_list_mul ⟨_, e, rfl⟩ F.entry_list_mul (F.args_list_mul_2 _ _) (AutoListH.list___mul___list_int_3 l its.toArray n k t hfit hcap hlong) ⟨e, ?_⟩⟩)
  rw [hnew]
  exact ⟨.ref _, _, I.lnew (t' := s.toks) (r.rep k.toNat) (by rw [len_rep, Nat.mul_comm]; exact hz), rfl, q _ I.fresh⟩

/-! ### del xs[i] -/
theorem del_list {pins : List (Addr × Obj)} {s : Shared} {σ : St} {H : Hp} {l : Addr} {xs : List V} {i : Int} {t : Tok} {k : Nat} {Q : Unit → Shared → Prop} (I : Inv X pins σ H s) (hH : H l = some (.lst xs))
    (h1 : -(2 ^ 63) ≤ i) (h2 : i < 2 ^ 63) (hk : seqIndex? i xs.length = some k) (h : ∀ s', Inv X pins σ (upd H l (.lst (xs.eraseIdx k))) s' → Q () s') :
    wpAny (model X.prog X.w) X.A (delItem (.ref l) (.int i t)) Q X.xe s := by
  obtain ⟨z, its, n, r, hl, e⟩ := I.lstM hH
  refine PySem.P.delItem_list (k := k) e (fitsIndex_both h1 h2) (by rw [List.size_toArray, ← hl]; exact hk) (h _ ?_) (by rw [List.size_toArray]; omega)
  refine I.lset (its' := its.eraseIdx k) (t' := s.toks) hH e ?_ (r.eraseIdx k) ?_
  · show its.toArray.eraseIdxIfInBounds k = (its.eraseIdx k).toArray
    rw [List.eraseIdxIfInBounds_toArray]
  · have := len_erase xs k
    omega
end

/-! ### xs[a:b] = ys -/
section
variable {prog : Program} {w : World} {A : Around} {E : Value → Shared → Prop} {s : Shared}
theorem splice_eq (its its2 : List Value) (a c : Nat) : its.toArray.extract 0 a ++ its2.toArray ++ its.toArray.extract c its.toArray.size = (its.take a ++ its2 ++ its.drop c).toArray := by
  apply Array.toList_inj.mp
  first
    | (simp
       exact List.take_of_length_le (by simp))
    | simp [List.take_of_length_le]
    | simp
theorem bounds_run {a c n : Nat} (hac : a ≤ c) (hc : c ≤ n) : sliceBounds (some (a : Int)) (some (c : Int)) none n = ((a : Int), (c : Int), 1) := by
  simp only [sliceBounds, Option.getD_none]
  have h1 : ¬ ((a : Int) < 0) := by omega
  have h2 : ¬ ((c : Int) < 0) := by omega
  simp only [h1, h2, if_false, show (1 : Int) > 0 by decide, if_true]
  congr 1
  · omega
  · congr 1; omega
set_option maxRecDepth 100000 in
/-- list.__setitem__ with a slice of step one and another list -/
theorem setItem_slice {l b sl : Addr} {items new : Array Value} {n n2 : Nat} {vl vu : Value} {a c : Nat} {Q : Unit → Shared → Prop}
    (e : s.heap.get? l = some { cls := .type "list", data := .seq items n }) (e2 : s.heap.get? b = some { cls := .type "list", data := .seq new n2 }) (hne : l ≠ b)
    (hs : s.heap.IsSliceOf sl vl vu .none) (pl : IsPart vl (some (a : Int))) (pu : IsPart vu (some (c : Int))) (hac : a ≤ c) (hc : c ≤ items.size)
    (hsz : items.size + new.size ≤ sizeLine) (h : Q () { s with heap := s.heap.update l (Obj.mapSeq fun xs => xs.extract 0 a ++ new ++ xs.extract c xs.size) }) :
    wpAny (model prog w) A (setItem (.ref l) (.ref sl) (.ref b)) Q E s := by
  have hl : s.heap.IsList l items := PySem.IsL.isList e
  have hb : s.heap.IsList b new := PySem.IsL.isList e2
  obtain ⟨os, hos, hcs, hds⟩ := id hs
  have hTs : s.TypeIs (.ref sl) "slice" := ⟨os, hos, hcs⟩
  have hstep : ¬ ((rawPart none == rawInt 0) = true) := Bool.false_ne_true
  have hsame : Builtin.List.listSameRef (.ref l) (.ref b) = false := by
    unfold Builtin.List.listSameRef
    exact beq_eq_false_iff_ne.mpr hne
  have hmax : (max (a : Int) (c : Int)).toNat = c := by omega
  have hz' : ((fun xs : Array Value => xs.extract 0 a ++ new ++ xs.extract c xs.size) items).size ≤ sizeLine + 1 := by
    simp only [Array.size_append, Array.size_extract]
    omega
  unfold setItem
  try with_reducible refine wpAny_holding ?_
  first | refine wpAny_bind (wpAny_pure ?_) | skip
  refine wpAny_bind (wpAny_sequenceKey hl.typeIs (by decide) ?_)
  refine wpAny_bind (wpAny_callSpecial?_slot (name := Str.ofString "__setitem__") hl.typeIs slot_list_setitem
    (wpAny_call_entry slot_list_setitem hl.typeIs entry_list_setitem ?_ (args_list_setitem _ _ _)))
  show wpAny _ _ (Builtin.List.listSubscript? (.ref sl) >>= _) _ _ s
  refine wpAny_bind ?_
  unfold Builtin.List.listSubscript?
  refine wpAny_bind (wpAny_specialOf hTs slice_no_index ?_)
  simp only [Option.isNone_none, if_true]
  refine wpAny_pure ?_
  show wpAny _ _ (typeOf (.ref sl) >>= _) _ _ s
  refine wpAny_bind (wpAny_typeOf hTs ?_)
  first
    | rw [if_neg (by decide)]
    | refine PySem.W.KFB.if_not (by decide) ?_
  rw [listSliceParts_eq]
  refine wpAny_bind (wpAny_bind (wpAny_field hos hds (x := .none) rfl (wpAny_bind (wpAny_listPart .none ?_))))
  rw [if_neg hstep]
  refine wpAny_bind (wpAny_field hos hds (x := vl) rfl (wpAny_bind (wpAny_listPart pl ?_)))
  refine wpAny_bind (wpAny_field hos hds (x := vu) rfl (wpAny_bind (wpAny_listPart pu (wpAny_pure ?_))))
  first
    | simp only [hsame, Bool.false_eq_true, if_false]
    | refine PySem.W.KFB.if_not hsame ?_
    | (dsimp only
       rw [if_neg (by rw [hsame]; exact Bool.false_ne_true)])
  refine wpAny_bind (m := Builtin.List.listAllItems (.ref b) "must assign iterable to extended slice") ?_
  unfold Builtin.List.listAllItems
  refine wpAny_bind (wpAny_typeOf hb.typeIs ?_)
  first
    | refine PySem.W.KFB.if_so (by decide) ?_
    | rw [if_pos (by decide)]
    | simp only [beq_self_eq_true, Bool.true_or, if_true]
  unfold Builtin.List.listItems
  refine wpAny_bind (wpAny_seqItems e2 rfl (wpAny_pure ?_))
  refine wpAny_bind (wpAny_bind (wpAny_seqItems e rfl (wpAny_pure ?_)))
  refine wpAny_bind (wpAny_of_eq ((sliceIndices_raw (some (a : Int)) (some (c : Int)) none items.size (by simp)).trans (congrArg (pure : Int × Int × Int → Sem (Int × Int × Int)) (bounds_run hac hc))) ?_)
  show wpAny _ _ (if ((1 : Int) == 1) = true then _ else _) _ _ s
  rw [if_pos (by decide)]
  refine wpAny_bind (wpAny_rule ?_)
  first
    | simp only [notLongL hsz, Bool.false_eq_true, if_false]
    | refine PySem.W.KFB.if_not (notLongL hsz) ?_
  first | refine wpAny_bind (wpAny_pure ?_) | skip
  show wpAny _ _ (updateSeq l (fun xs => xs.extract 0 ((a : Int)).toNat ++ new ++ xs.extract (max (a : Int) (c : Int)).toNat xs.size) >>= _) _ _ s
  rw [hmax, Int.toNat_natCast]
  refine wpAny_bind (wpAny_updateSeq (hz := Nat.le_trans (Nat.le_add_right _ _) hsz) (_hz' := hz') e rfl ?_)
  refine wpAny_bind (wpAny_letGo ?_)
  first
    | exact wpAny_bind (wpAny_pure (wpAny_pure ⟨.none, rfl, wpAny_pure h⟩))
    | exact wpAny_pure ⟨.none, rfl, wpAny_pure h⟩
end

section
variable {X : Cx}
/-- xs[a:c] = ys of another list, at the value level: sl is the slice object that was just made -/
theorem set_slice {pins : List (Addr × Obj)} {s : Shared} {σ : St} {H : Hp} {l b sl : Addr} {xs ys : List V} {a c : Int} {vl vu : Value} {Q : Unit → Shared → Prop} (I : Inv X pins σ H s)
    (hH : H l = some (.lst xs)) (hB : H b = some (.lst ys)) (hne : l ≠ b) (hs : s.heap.IsSliceOf sl vl vu .none) (ra : RelV (.int a) vl) (rc : RelV (.int c) vu) (h0 : 0 ≤ a) (hac : a ≤ c) (hc : c ≤ xs.length)
    (hz : xs.length + ys.length ≤ sizeLine) (h : ∀ s', Inv X pins σ (upd H l (.lst (xs.take a.toNat ++ ys ++ xs.drop c.toNat))) s' → Q () s') :
    wpAny (model X.prog X.w) X.A (setItem (.ref l) (.ref sl) (.ref b)) Q X.xe s := by
  obtain ⟨ta, rfl⟩ := ra
  obtain ⟨tc, rfl⟩ := rc
  obtain ⟨z, its, n, r, hl, e⟩ := I.lstM hH
  obtain ⟨z2, its2, n2, r2, hl2, e2⟩ := I.lstM hB
  obtain ⟨a', rfl⟩ := Int.eq_ofNat_of_zero_le h0
  obtain ⟨c', rfl⟩ := Int.eq_ofNat_of_zero_le (Int.le_trans h0 hac)
  simp only [Int.toNat_natCast] at h
  refine setItem_slice (a := a') (c := c') e e2 hne hs (.int _ _) (.int _ _) (by omega) (by rw [List.size_toArray]; omega) (by rw [List.size_toArray, List.size_toArray]; omega) (h _ ?_)
  refine I.lset (its' := its.take a' ++ its2 ++ its.drop c') (t' := s.toks) hH e ?_ (Vals.append (Vals.append (r.take _) r2) (r.drop _)) ?_
  · exact splice_eq its its2 a' c'
  · rw [List.length_append, List.length_append, List.length_take, List.length_drop]
    omega
end
end L2


namespace L2
open PySem PySem.Spec PyProof.Rows

/-! ### lists of pairs as tables -/
section
variable {κ : Type} [DecidableEq κ]
def valV (kvs : List (κ × V)) (k : κ) : Option V := (kvs.find? fun kv => decide (kv.1 = k)).map (·.2)
/-- in its place, or at the end -/
def putK (kvs : List (κ × V)) (k : κ) (v : V) : List (κ × V) :=
  if (kvs.any fun kv => decide (kv.1 = k)) = true then kvs.map (fun kv => if kv.1 = k then (kv.1, v) else kv) else kvs ++ [(k, v)]
def dropK (kvs : List (κ × V)) (k : κ) : List (κ × V) := kvs.filter fun kv => decide (kv.1 ≠ k)

theorem valV_nil {k : κ} : valV ([] : List (κ × V)) k = none := rfl
theorem valV_pos {p : κ × V} {r : List (κ × V)} {k : κ} (e : p.1 = k) : valV (p :: r) k = some p.2 := by simp [valV, List.find?_cons, e]
theorem valV_neg {p : κ × V} {r : List (κ × V)} {k : κ} (e : ¬ p.1 = k) : valV (p :: r) k = valV r k := by simp [valV, List.find?_cons, e]
theorem valV_any (k : κ) : ∀ kvs : List (κ × V), (kvs.any fun kv => decide (kv.1 = k)) = (valV kvs k).isSome
  | [] => rfl
  | p :: r => by
    rw [List.any_cons]
    by_cases e : p.1 = k
    · simp only [valV_pos e, decide_eq_true e, Bool.true_or, Option.isSome_some]
    · rw [valV_neg e, decide_eq_false e, Bool.false_or]; exact valV_any k r
theorem valV_map (k j : κ) (y : V) : ∀ kvs : List (κ × V), valV (kvs.map fun kv => if kv.1 = k then (kv.1, y) else kv) j = (valV kvs j).map fun x => if j = k then y else x
  | [] => rfl
  | p :: r => by
    have ih := valV_map k j y r
    rw [List.map_cons]
    by_cases h : p.1 = k
    · rw [if_pos h]
      by_cases e : p.1 = j
      · rw [valV_pos (p := (p.1, y)) e, valV_pos e, Option.map_some, if_pos (e.symm.trans h)]
      · rw [valV_neg (p := (p.1, y)) e, valV_neg e, ih]
    · rw [if_neg h]
      by_cases e : p.1 = j
      · rw [valV_pos (p := p) e, valV_pos e, Option.map_some, if_neg (fun z => h (e.trans z))]
      · rw [valV_neg (p := p) e, valV_neg e, ih]
theorem valV_snoc (k j : κ) (y : V) : ∀ kvs : List (κ × V), valV kvs k = none → valV (kvs ++ [(k, y)]) j = if j = k then some y else valV kvs j
  | [], _ => by
    by_cases e : k = j
    · rw [if_pos e.symm]; exact valV_pos (p := (k, y)) e
    · rw [if_neg (fun z => e z.symm)]; exact valV_neg (p := (k, y)) e
  | p :: r, hn => by
    rw [List.cons_append]
    have hk : ¬ p.1 = k := fun z => by rw [valV_pos z] at hn; cases hn
    rw [valV_neg hk] at hn
    have ih := valV_snoc k j y r hn
    by_cases e : p.1 = j
    · rw [valV_pos e, valV_pos e, if_neg (fun z => hk (e.trans z))]
    · rw [valV_neg e, valV_neg e, ih]
theorem valV_put (kvs : List (κ × V)) (k j : κ) (y : V) : valV (putK kvs k y) j = if j = k then some y else valV kvs j := by
  unfold putK
  by_cases a : (kvs.any fun kv => decide (kv.1 = k)) = true
  · rw [if_pos a, valV_map]
    rw [valV_any] at a
    by_cases e : j = k
    · obtain ⟨x, hx⟩ := Option.isSome_iff_exists.mp a
      rw [if_pos e, e, hx, Option.map_some, if_pos rfl]
    · rw [if_neg e]
      cases valV kvs j with
      | none => rfl
      | some x => rw [Option.map_some, if_neg e]
  · rw [if_neg a]
    refine valV_snoc k j y kvs ?_
    rw [valV_any] at a
    cases q : valV kvs k with
    | none => rfl
    | some x => rw [q] at a; exact (a rfl).elim
theorem length_putK (kvs : List (κ × V)) (k : κ) (v : V) : (putK kvs k v).length ≤ kvs.length + 1 := by
  unfold putK
  split
  · rw [List.length_map]; omega
  · rw [List.length_append, List.length_cons, List.length_nil]; omega
theorem putK_new {kvs : List (κ × V)} {k : κ} (v : V) (h : valV kvs k = none) : putK kvs k v = kvs ++ [(k, v)] := by
  unfold putK
  rw [valV_any, h]
  exact if_neg (by decide)

theorem RelO.isSome_eq {o : Option V} {u : Option Value} (r : RelO o u) : o.isSome = u.isSome := by
  cases o with
  | none => cases u with
    | none => rfl
    | some _ => exact (show False from r).elim
  | some _ => cases u with
    | none => exact (show False from r).elim
    | some _ => rfl
theorem RelO.getD {o : Option V} {u : Option Value} {d : V} {d' : Value} (r : RelO o u) (rd : RelV d d') : RelV (o.getD d) (u.getD d') := by
  cases o with
  | none => cases u with
    | none => exact rd
    | some _ => exact (show False from r).elim
  | some _ => cases u with
    | none => exact (show False from r).elim
    | some _ => exact r

/-- raw tables of the same keys -/
theorem KV.val {kvs : List (κ × V)} {vs : List (κ × Value)} (r : KV kvs vs) (k : κ) : RelO (valV kvs k) (valueAt vs k) := by
  unfold KV at r
  induction r with
  | nil => exact True.intro
  | @cons p q ps qs h t ih =>
    obtain ⟨h1, h2⟩ := h
    by_cases e : p.1 = k
    · have e' : q.1 = k := h1.symm.trans e
      have b : valueAt (q :: qs) k = some q.2 := by simp [valueAt, List.find?_cons, e']
      rw [valV_pos e, b]; exact h2
    · have e' : ¬ q.1 = k := fun z => e (h1.trans z)
      have b : valueAt (q :: qs) k = valueAt qs k := by simp [valueAt, List.find?_cons, e']
      rw [valV_neg e, b]; exact ih
theorem KV.any {kvs : List (κ × V)} {vs : List (κ × Value)} (r : KV kvs vs) (k : κ) : (kvs.any fun kv => decide (kv.1 = k)) = vs.any fun kv => decide (kv.1 = k) := by
  unfold KV at r
  induction r with
  | nil => rfl
  | cons h t ih => rw [List.any_cons, List.any_cons, ih, h.1]
theorem KV.repl {kvs : List (κ × V)} {vs : List (κ × Value)} (r : KV kvs vs) (k : κ) {y : V} {u : Value} (ry : RelV y u) :
    KV (kvs.map fun kv => if kv.1 = k then (kv.1, y) else kv) (vs.map fun kv => if kv.1 = k then (kv.1, u) else kv) := by
  unfold KV at r ⊢
  induction r with
  | nil => exact .nil
  | @cons p q ps qs h t ih =>
    rw [List.map_cons, List.map_cons]
    refine .cons ?_ ih
    obtain ⟨h1, h2⟩ := h
    by_cases e : p.1 = k
    · rw [if_pos e, if_pos (h1.symm.trans e)]; exact ⟨h1, ry⟩
    · rw [if_neg e, if_neg (fun z => e (h1.trans z))]; exact ⟨h1, h2⟩
theorem KV.put {kvs : List (κ × V)} {vs : List (κ × Value)} (r : KV kvs vs) (k : κ) {y : V} {u : Value} (ry : RelV y u) : KV (putK kvs k y) (stored vs k u) := by
  unfold putK stored
  rw [r.any k]
  by_cases e : (vs.any fun kv => decide (kv.1 = k)) = true
  · rw [if_pos e, if_pos e]; exact r.repl k ry
  · rw [if_neg e, if_neg e]; exact Paired.snoc r ⟨rfl, ry⟩
theorem KV.drop {kvs : List (κ × V)} {vs : List (κ × Value)} (r : KV kvs vs) (k : κ) : KV (dropK kvs k) (without vs k) := by
  unfold KV at r ⊢
  unfold dropK without
  induction r with
  | nil => exact .nil
  | @cons p q ps qs h t ih =>
    obtain ⟨h1, h2⟩ := h
    rw [List.filter_cons, List.filter_cons]
    by_cases e : p.1 = k
    · have a : ¬ decide (p.1 ≠ k) = true := by simp [e]
      have b : ¬ decide (q.1 ≠ k) = true := by simp [h1.symm.trans e]
      rw [if_neg a, if_neg b]; exact ih
    · have e' : ¬ q.1 = k := fun z => e (h1.trans z)
      have a : decide (p.1 ≠ k) = true := by simp [e]
      have b : decide (q.1 ≠ k) = true := by simp [e']
      rw [if_pos a, if_pos b]; exact .cons ⟨h1, h2⟩ ih
theorem KV.keys {kvs : List (κ × V)} {vs : List (κ × Value)} (r : KV kvs vs) : kvs.map (·.1) = vs.map (·.1) := by
  unfold KV at r
  induction r with
  | nil => rfl
  | cons h t ih => rw [List.map_cons, List.map_cons, ih, h.1]
theorem KV.length {kvs : List (κ × V)} {vs : List (κ × Value)} (r : KV kvs vs) : kvs.length = vs.length := Paired.length r
theorem dropK_le (kvs : List (κ × V)) (k : κ) : (dropK kvs k).length ≤ kvs.length := List.length_filter_le _ _
end


/-! ### a tracked dict, its keys ints and texts or tuples of these -/
theorem kV_is {P : Program} {w : World} {k : Key} {u : Value} (r : RelV (kV k) u) : (mixKind P w).is k u = true := by
  cases k with
  | inl i => obtain ⟨t, e⟩ := (show ∃ t, u = Value.int i t from r); subst e; exact mixKind_int P w i t
  | inr x => obtain ⟨t, e⟩ := (show ∃ t, u = Value.str x t from r); subst e; exact mixKind_str P w x t
theorem kV_inj {a b : Key} (e : kV a = kV b) : a = b := by
  cases a with
  | inl i => cases b with
    | inl j => have e' : V.int i = V.int j := e; injection e' with e'; rw [e']
    | inr y => exact nomatch (show V.int i = V.str y from e)
  | inr x => cases b with
    | inl j => exact nomatch (show V.str x = V.int j from e)
    | inr y => have e' : V.str x = V.str y := e; injection e' with e'; rw [e']
theorem kVs_inj : ∀ {a b : List Key}, a.map kV = b.map kV → a = b
  | [], [], _ => rfl
  | [], _ :: _, e => by simp at e
  | _ :: _, [], e => by simp at e
  | x :: xs, y :: ys, e => by
    rw [List.map_cons, List.map_cons] at e
    injection e with e1 e2
    rw [kV_inj e1, kVs_inj e2]
theorem items_are {P : Program} {w : World} : ∀ {ks : List Key} {us : List Value}, Vals (ks.map kV) us → ItemsAre (mixKind P w) ks us
  | [], _, r => by rw [List.map_nil] at r; cases r; exact .nil
  | k :: ks, _, r => by
    rw [List.map_cons] at r
    cases r with
    | cons h t => exact .cons (kV_is h) (items_are t)

/-- raw entries of a dict with tuple keys -/
abbrev KT (H : Hp) : List (List Key × V) → List (List Key × Addr × Value) → Prop := Paired fun p q => p.1 = q.1 ∧ H q.2.1 = some (.tup (p.1.map kV)) ∧ RelV p.2 q.2.2
theorem KT.val {H : Hp} {kvs : List (List Key × V)} {xs : List (List Key × Addr × Value)} (r : KT H kvs xs) (k : List Key) : RelO (valV kvs k) ((atKey xs k).map (·.2)) := by
  induction r with
  | nil => exact True.intro
  | @cons p q ps qs h t ih =>
    obtain ⟨h1, _, h2⟩ := h
    by_cases e : p.1 = k
    · have e' : q.1 = k := h1.symm.trans e
      have b : atKey (q :: qs) k = some q.2 := by simp [atKey, List.find?_cons, e']
      rw [valV_pos e, b]; exact h2
    · have e' : ¬ q.1 = k := fun z => e (h1.trans z)
      have b : atKey (q :: qs) k = atKey qs k := by simp [atKey, List.find?_cons, e']
      rw [valV_neg e, b]; exact ih
theorem KT.repl {H : Hp} {kvs : List (List Key × V)} {xs : List (List Key × Addr × Value)} (r : KT H kvs xs) (k : List Key) {y : V} {u : Value} (ry : RelV y u) :
    KT H (kvs.map fun kv => if kv.1 = k then (kv.1, y) else kv) (xs.map (putAt k u)) := by
  induction r with
  | nil => exact .nil
  | @cons p q ps qs h t ih =>
    rw [List.map_cons, List.map_cons]
    refine .cons ?_ ih
    obtain ⟨h1, h2, h3⟩ := h
    unfold putAt
    by_cases e : p.1 = k
    · rw [if_pos e, if_pos (h1.symm.trans e)]; exact ⟨h1, h2, ry⟩
    · rw [if_neg e, if_neg (fun z => e (h1.trans z))]; exact ⟨h1, h2, h3⟩
theorem KT.put {H : Hp} {kvs : List (List Key × V)} {xs : List (List Key × Addr × Value)} (r : KT H kvs xs) (k : List Key) {b : Addr} {y : V} {u : Value} (hb : H b = some (.tup (k.map kV))) (ry : RelV y u) :
    KT H (putK kvs k y) (storedH xs k b u) := by
  have e : (kvs.any fun kv => decide (kv.1 = k)) = (atKey xs k).isSome := by
    rw [valV_any, (r.val k).isSome_eq, Option.isSome_map]
  unfold putK storedH
  rw [e]
  by_cases q : (atKey xs k).isSome = true
  · rw [if_pos q, if_pos q]; exact r.repl k ry
  · rw [if_neg q, if_neg q]; exact Paired.snoc r ⟨rfl, hb, ry⟩
theorem KT.keeps {H H' : Hp} {kvs : List (List Key × V)} {xs : List (List Key × Addr × Value)} (r : KT H kvs xs) (ht : ∀ b ys, H b = some (.tup ys) → H' b = some (.tup ys)) : KT H' kvs xs :=
  Paired.mapP r fun _ _ z => ⟨z.1, ht _ _ z.2.1, z.2.2⟩

section
variable {P : Program} {w : World} {H : Hp} {h : Heap} {a : Addr}
theorem rd_of {u : HO} (ok : HOk P w H h) (e : Rd H a u) : ObjOk P w H h a u := e.ok ok
theorem dk_rd {kvs : List (Key × V)} (ok : HOk P w H h) (e : Rd H a (.dK kvs)) : kvs.length ≤ sizeLine ∧ (a == sysModules) = false ∧ ∃ vs, KV kvs vs ∧ h.DictOf (mixKind P w) a vs :=
  show ObjOk P w H h a (.dK kvs) from rd_of ok e
theorem dk_of {kvs : List (Key × V)} (ok : HOk P w H h) (e : H a = some (.dK kvs)) : kvs.length ≤ sizeLine ∧ (a == sysModules) = false ∧ ∃ vs, KV kvs vs ∧ h.DictOf (mixKind P w) a vs := dk_rd ok (.inl e)
/-- a tracked tuple of ints and texts is a key -/
theorem key_of {ks : List Key} (ok : HOk P w H h) (e : H a = some (.tup (ks.map kV))) : (tupleKind (mixKind P w)).is h ks a := by
  obtain ⟨_, its, r, o, h1, h2, n, h3⟩ := (show ObjOk P w H h a (.tup (ks.map kV)) from ok a _ e)
  exact ⟨o, its.toArray, n, h1, h2, h3, by simpa using items_are r⟩
theorem dt_rd {kvs : List (List Key × V)} (ok : HOk P w H h) (e : Rd H a (.dT kvs)) : kvs.length ≤ sizeLine ∧ (a == sysModules) = false ∧
    ∃ xs, KT H kvs xs ∧ h.DictOfH (tupleKind (mixKind P w)) a xs := by
  obtain ⟨z, y, xs, r, o, es, ep, h1, h2, h3, h4, h5⟩ := (show ObjOk P w H h a (.dT kvs) from rd_of ok e)
  refine ⟨z, y, xs, r, o, es, ep, h1, h2, h3, h4, fun x hx => ?_, h5⟩
  have all : ∀ {l : List (List Key × V)} {m : List (List Key × Addr × Value)}, KT H l m → ∀ x ∈ m, (tupleKind (mixKind P w)).is h x.1 x.2.1 := by
    intro l m q
    induction q with
    | nil => intro x hx; exact nomatch hx
    | @cons p q ps qs hq t ih =>
      intro x hx
      rcases List.mem_cons.mp hx with e | hx
      · subst e
        exact key_of ok (by rw [← hq.1]; exact hq.2.1)
      · exact ih x hx
  exact all r x hx
theorem dt_of {kvs : List (List Key × V)} (ok : HOk P w H h) (e : H a = some (.dT kvs)) : kvs.length ≤ sizeLine ∧ (a == sysModules) = false ∧
    ∃ xs, KT H kvs xs ∧ h.DictOfH (tupleKind (mixKind P w)) a xs := dt_rd ok (.inl e)
end

/-- what the dict at a holds at the key y -/
def DGet (H : Hp) (a : Addr) (y : V) (r : Option V) : Prop :=
  (∃ kvs k, Rd H a (.dK kvs) ∧ y = kV k ∧ r = valV kvs k) ∨ ∃ kvs k b, Rd H a (.dT kvs) ∧ y = .ref b ∧ H b = some (.tup (k.map kV)) ∧ r = valV kvs k
/-- the heap behind a[y] = v -/
def DPut (H : Hp) (a : Addr) (y v : V) (H' : Hp) : Prop :=
  (∃ kvs k, H a = some (.dK kvs) ∧ y = kV k ∧ kvs.length < sizeLine ∧ H' = upd H a (.dK (putK kvs k v))) ∨
  ∃ kvs k b, H a = some (.dT kvs) ∧ y = .ref b ∧ H b = some (.tup (k.map kV)) ∧ kvs.length < sizeLine ∧ H' = upd H a (.dT (putK kvs k v))
theorem DGet.k {H : Hp} {a : Addr} {kvs : List (Key × V)} {k : Key} (e : H a = some (.dK kvs)) : DGet H a (kV k) (valV kvs k) := .inl ⟨kvs, k, .inl e, rfl, rfl⟩
theorem DGet.t {H : Hp} {a b : Addr} {kvs : List (List Key × V)} {k : List Key} (e : H a = some (.dT kvs)) (eb : H b = some (.tup (k.map kV))) : DGet H a (.ref b) (valV kvs k) := .inr ⟨kvs, k, b, .inl e, rfl, eb, rfl⟩
theorem DPut.k {H : Hp} {a : Addr} {kvs : List (Key × V)} {k : Key} {v : V} (e : H a = some (.dK kvs)) (hl : kvs.length < sizeLine) : DPut H a (kV k) v (upd H a (.dK (putK kvs k v))) := .inl ⟨kvs, k, e, rfl, hl, rfl⟩
theorem DPut.t {H : Hp} {a b : Addr} {kvs : List (List Key × V)} {k : List Key} {v : V} (e : H a = some (.dT kvs)) (eb : H b = some (.tup (k.map kV))) (hl : kvs.length < sizeLine) :
    DPut H a (.ref b) v (upd H a (.dT (putK kvs k v))) := .inr ⟨kvs, k, b, e, rfl, eb, hl, rfl⟩


section
variable {X : Cx} {pins : List (Addr × Obj)} {σ : St} {H : Hp} {s : Shared} {a : Addr} {y v : V} {u r : Value} {o : Option V} {A : Around} {E : Value → Shared → Prop}

theorem Inv.big (I : Inv X pins σ H s) : sysModules < s.heap.objs.size := by
  have h : mainGlobals < s.heap.objs.size := (I.mod.glob.keeps I.bk).lt
  exact Nat.lt_trans (by decide) h

/-- d[y], there -/
theorem d_getItem {Q : Value → Shared → Prop} (hu : A.units + 1 < cLine) (I : Inv X pins σ H s) (g : DGet H a y (some v)) (ry : RelV y u) (h : ∀ w' s', Inv X pins σ H s' → RelV v w' → Q w' s') :
    wpAny (model X.prog X.w) A (getItem (.ref a) u) Q E s := by
  rcases g with ⟨kvs, k, e, ey, l⟩ | ⟨kvs, k, b, e, ey, eb, l⟩
  · subst ey
    obtain ⟨z, hd, vs, rel, dd⟩ := dk_rd I.hok e
    obtain ⟨w', hw, rw'⟩ := RelO.some_of (v := v) (o := valueAt vs k) (by rw [l]; exact rel.val k)
    exact wpAny_getItem_of (kV_is ry) dd.mapOf hw (h w' _ (I.tok _) rw')
  · subst ey
    cases (show u = Value.ref b from ry)
    obtain ⟨z, hd, xs, rel, dd⟩ := dt_rd I.hok e
    obtain ⟨w', hw, rw'⟩ := RelO.some_of (v := v) (o := (atKey xs k).map (·.2)) (by rw [l]; exact rel.val k)
    obtain ⟨p, hp, hp2⟩ := Option.map_eq_some_iff.mp hw
    refine wpAny_getItem_heap (tupleKind_room_in1 hu) (key_of I.hok eb) dd hp ?_
    rw [hp2]
    exact h w' _ (I.tok _) rw'
/-- y in d -/
theorem d_in {Q : Value → Shared → Prop} (hu : A.units + 1 < cLine) (I : Inv X pins σ H s) (g : DGet H a y o) (ry : RelV y u) (h : ∀ s', Inv X pins σ H s' → Q (.bool o.isSome) s') :
    wpAny (model X.prog X.w) A (compareOp .In u (.ref a)) Q E s := by
  rcases g with ⟨kvs, k, e, ey, l⟩ | ⟨kvs, k, b, e, ey, eb, l⟩
  · subst ey
    obtain ⟨z, hd, vs, rel, dd⟩ := dk_rd I.hok e
    refine wpAny_in_of (kV_is ry) hd dd.mapOf ?_
    rw [← (rel.val k).isSome_eq, ← l]
    exact h _ (I.tok _)
  · subst ey
    cases (show u = Value.ref b from ry)
    obtain ⟨z, hd, xs, rel, dd⟩ := dt_rd I.hok e
    refine wpAny_in_heap (tupleKind_room_in1 hu) (key_of I.hok eb) hd dd ?_
    have q := (rel.val k).isSome_eq
    rw [Option.isSome_map] at q
    rw [← q, ← l]
    exact h _ (I.tok _)
theorem d_notIn {Q : Value → Shared → Prop} (hu : A.units + 1 < cLine) (I : Inv X pins σ H s) (g : DGet H a y o) (ry : RelV y u) (h : ∀ s', Inv X pins σ H s' → Q (.bool (!o.isSome)) s') :
    wpAny (model X.prog X.w) A (compareOp .NotIn u (.ref a)) Q E s := by
  rcases g with ⟨kvs, k, e, ey, l⟩ | ⟨kvs, k, b, e, ey, eb, l⟩
  · subst ey
    obtain ⟨z, hd, vs, rel, dd⟩ := dk_rd I.hok e
    refine wpAny_notIn_of (kV_is ry) hd dd.mapOf ?_
    rw [← (rel.val k).isSome_eq, ← l]
    exact h _ (I.tok _)
  · subst ey
    cases (show u = Value.ref b from ry)
    obtain ⟨z, hd, xs, rel, dd⟩ := dt_rd I.hok e
    refine wpAny_notIn_heap (tupleKind_room_in1 hu) (key_of I.hok eb) hd dd ?_
    have q := (rel.val k).isSome_eq
    rw [Option.isSome_map] at q
    rw [← q, ← l]
    exact h _ (I.tok _)
/-- a dict's object is replaced -/
theorem d_write {h' : Heap} {t' : Nat} {ob : HO} (I : Inv X pins σ H s) (mu : Mut (H a)) (hs : Heap.SameBut a s.heap h') (he : ∃ q, h'.get? a = some q) (new : ObjOk X.prog X.w (upd H a ob) h' a ob) :
    Inv X pins σ (upd H a ob) { s with heap := h', toks := t' } :=
  I.write (x := a) (e := a) mu (.inl rfl) (fun b q hb z => (hs.2 b hb).trans z) he new
theorem dk_new {P : Program} {w : World} {H' : Hp} {h' : Heap} {kvs : List (Key × V)} {vs : List (Key × Value)} (z : kvs.length ≤ sizeLine) (hd : (a == sysModules) = false) (rel : KV kvs vs) (dd : h'.DictOf (mixKind P w) a vs) :
    ObjOk P w H' h' a (.dK kvs) := ⟨z, hd, vs, rel, dd⟩
/-- d[y] = v -/
theorem d_setItem {H' : Hp} {Q : Unit → Shared → Prop} (hu : A.units + 1 < cLine) (I : Inv X pins σ H s) (g : DPut H a y v H') (ry : RelV y u) (rv : RelV v r) (h : ∀ s', Inv X pins σ H' s' → Q () s') :
    wpAny (model X.prog X.w) A (setItem (.ref a) u r) Q E s := by
  rcases g with ⟨kvs, k, e, ey, l, eH⟩ | ⟨kvs, k, b, e, ey, eb, l, eH⟩
  · subst ey eH
    obtain ⟨z, hd, vs, rel, dd⟩ := dk_of I.hok e
    have hz : vs.length ≤ sizeLine := by rw [← rel.length]; exact z
    have hl : (putK kvs k v).length ≤ sizeLine := by have := length_putK kvs k v; omega
    refine wpAny_setItem_pairs (hsz := hz) (kV_is ry) dd fun h' dd' hs => h _ ?_
    have he : ∃ q, h'.get? a = some q := let ⟨q, _, _, hq, _⟩ := dd'; ⟨q, hq⟩
    exact d_write I (by rw [e]; exact True.intro) hs he (dk_new hl hd (rel.put k rv) dd')
  · subst ey eH
    cases (show u = Value.ref b from ry)
    obtain ⟨z, hd, xs, rel, dd⟩ := dt_of I.hok e
    have hz : xs.length ≤ sizeLine := by rw [← Paired.length rel]; exact z
    have hl : (putK kvs k v).length ≤ sizeLine := by have := length_putK kvs k v; omega
    refine wpAny_setItem_heap (hsz := hz) (tupleKind_room_in1 hu) (key_of I.hok eb) dd fun h' dd' hs => h _ ?_
    obtain ⟨q, es, ep, hq, h2, h3, h4, _, h5⟩ := dd'
    refine d_write I (by rw [e]; exact True.intro) hs ⟨q, hq⟩ ⟨hl, hd, _, (rel.put k eb rv).keeps fun c ys ec => ?_, q, es, ep, hq, h2, h3, h4, h5⟩
    rw [upd_ne (ne_of ec e (fun z => nomatch z))]
    exact ec
end

section
variable {X : Cx} {pins : List (Addr × Obj)} {σ : St} {H : Hp} {s : Shared} {a : Addr} {kvs : List (Key × V)} {k : Key} {u : Value} {A : Around} {E : Value → Shared → Prop}
/-- del d[k] -/
theorem d_delItem {Q : Unit → Shared → Prop} (I : Inv X pins σ H s) (e : H a = some (.dK kvs)) (ry : RelV (kV k) u) (l : (valV kvs k).isSome = true) (h : ∀ s', Inv X pins σ (upd H a (.dK (dropK kvs k))) s' → Q () s') :
    wpAny (model X.prog X.w) A (delItem (.ref a) u) Q E s := by
  obtain ⟨z, hd, vs, rel, dd⟩ := dk_of I.hok e
  refine wpAny_delItem_slot dd.typeIs (by decide) PySem.F.slot_dict_delitem
    (call_meetsIn PySem.F.slot_dict_delitem dd.typeIs PySem.F.entry_dict_delitem (PySem.F.args_dict_delitem_2 _ _) (meets_dict_delitem_pairs (mixKind X.prog X.w) a (kV_is ry)) ⟨vs, dd, by rw [← rel.length]; exact z, by rw [← (rel.val k).isSome_eq]; exact l, fun h' dd' hs => h _ ?_⟩)
  have he : ∃ q, h'.get? a = some q := let ⟨q, _, _, hq, _⟩ := dd'; ⟨q, hq⟩
  exact d_write I (by rw [e]; exact True.intro) hs he (dk_new (Nat.le_trans (dropK_le kvs k) z) hd (rel.drop k) dd')
/-- d.pop(k[, x]), there -/
theorem d_pop {v : V} {more : List Value} {Q : Value → Shared → Prop} (I : Inv X pins σ H s) (e : H a = some (.dK kvs)) (ry : RelV (kV k) u) (l : valV kvs k = some v) (hm : more = [] ∨ ∃ x, more = [x])
    (h : ∀ w' s', Inv X pins σ (upd H a (.dK (dropK kvs k))) s' → RelV v w' → Q w' s') : wpAny (model X.prog X.w) A (call (.builtin "dict.pop") (.ref a :: u :: more)) Q E s := by
  obtain ⟨z, hd, vs, rel, dd⟩ := dk_of I.hok e
  obtain ⟨w', hw, rw'⟩ := RelO.some_of (v := v) (o := valueAt vs k) (by rw [← l]; exact rel.val k)
  have hp : (keyPart u).isSome = true := by
    cases k with
    | inl i => obtain ⟨t, q⟩ := (show ∃ t, u = Value.int i t from ry); subst q; rfl
    | inr x => obtain ⟨t, q⟩ := (show ∃ t, u = Value.str x t from ry); subst q; rfl
  have ha : argsOk "dict.pop" ⟨.ref a :: u :: more, []⟩ := by
    rcases hm with q | ⟨x, q⟩
    · subst q; exact PySem.F.args_dict_pop_2 _ _
    · subst q; exact PySem.F.args_dict_pop_3 _ _ _
  refine call_meetsIn PySem.F.slot_dict_pop dd.typeIs PySem.F.entry_dict_pop ha (meets_dict_pop_there (mixKind X.prog X.w) a (kV_is ry) more hm hp)
    ⟨vs, w', dd, by rw [← rel.length]; exact z, hw, fun h' dd' hs => h w' _ ?_ rw'⟩
  have he : ∃ q, h'.get? a = some q := let ⟨q, _, _, hq, _⟩ := dd'; ⟨q, hq⟩
  exact d_write I (by rw [e]; exact True.intro) hs he (dk_new (Nat.le_trans (dropK_le kvs k) z) hd (rel.drop k) dd')
/-- d.pop(k, x), not there -/
theorem d_popD {r : Value} {Q : Value → Shared → Prop} (I : Inv X pins σ H s) (e : H a = some (.dK kvs)) (ry : RelV (kV k) u) (l : valV kvs k = none) (h : ∀ s', Inv X pins σ H s' → Q r s') :
    wpAny (model X.prog X.w) A (call (.builtin "dict.pop") [.ref a, u, r]) Q E s := by
  obtain ⟨z, hd, vs, rel, dd⟩ := dk_of I.hok e
  have hn : valueAt vs k = none := RelO.none_of (by rw [← l]; exact rel.val k)
  have hp : (keyPart u).isSome = true := by
    cases k with
    | inl i => obtain ⟨t, q⟩ := (show ∃ t, u = Value.int i t from ry); subst q; rfl
    | inr x => obtain ⟨t, q⟩ := (show ∃ t, u = Value.str x t from ry); subst q; rfl
  exact call_meetsIn PySem.F.slot_dict_pop dd.typeIs PySem.F.entry_dict_pop (PySem.F.args_dict_pop_3 _ _ _) (meets_dict_pop_default (mixKind X.prog X.w) a (kV_is ry) hd hp r) ⟨vs, dd, hn, h _ (I.tok _)⟩
/-- d.clear() -/
theorem d_clear {Q : Value → Shared → Prop} (I : Inv X pins σ H s) (e : H a = some (.dK kvs)) (h : ∀ s', Inv X pins σ (upd H a (.dK [])) s' → Q .none s') : wpAny (model X.prog X.w) A (call (.builtin "dict.clear") [.ref a]) Q E s := by
  obtain ⟨z, hd, vs, rel, dd⟩ := dk_of I.hok e
  refine call_meetsIn PySem.F.slot_dict_clear dd.typeIs PySem.F.entry_dict_clear (PySem.F.args_dict_clear_1 _) (meets_dict_clear (mixKind X.prog X.w) a) ⟨vs, dd, by rw [← rel.length]; exact z, fun h' dd' hs => h _ ?_⟩
  have he : ∃ q, h'.get? a = some q := let ⟨q, _, _, hq, _⟩ := dd'; ⟨q, hq⟩
  exact d_write (t' := s.toks) I (by rw [e]; exact True.intro) hs he (dk_new (Nat.zero_le _) hd .nil dd')
/-- len(d) -/
theorem d_len {Q : Value → Shared → Prop} (I : Inv X pins σ H s) (e : Rd H a (.dK kvs)) (h : ∀ t s', Inv X pins σ H s' → Q (.int kvs.length t) s') : wpAny (model X.prog X.w) A (call (.builtin "len") [.ref a]) Q E s := by
  obtain ⟨z, hd, vs, rel, dd⟩ := dk_rd I.hok e
  refine call_len_dict hd dd (by rw [← rel.length]; rw [sizeLine_eq] at z; omega) ?_
  rw [← rel.length]
  exact h _ _ (I.tok _)
/-- if d -/
theorem d_truth {Q : Bool → Shared → Prop} (I : Inv X pins σ H s) (e : Rd H a (.dK kvs)) (h : ∀ s', Inv X pins σ H s' → Q (!kvs.isEmpty) s') : wpAny (model X.prog X.w) A (truthy (.ref a)) Q E s := by
  obtain ⟨z, hd, vs, rel, dd⟩ := dk_rd I.hok e
  refine wpAny_truthy_dict hd dd (by rw [← rel.length]; rw [sizeLine_eq] at z; omega) ?_
  have q : kvs.isEmpty = vs.isEmpty := by cases rel <;> rfl
  rw [← q]
  exact h _ (I.tok _)
end


/-! ### readings and rules -/
/-- the element of a subscription, not a slice -/
def NoSl (i : Expr) : Prop := ∀ ov iv, subscripted i false ov iv = operate [ov, iv] (getItem ov iv)
theorem subD_of {prog : Program} {w : World} {A : Around} {E : Value → Shared → Prop} {s : Shared} {env : Env} {value slice : Expr} {pos : Pos} {T id : String} {Q : Value → Shared → Prop}
    (hl : typeLookup (.type T) "__getitem__" = pure (some (.builtin id))) (hs : NoSl slice)
    (h : wpAny (model prog w) A (eval value env) (fun o s₁ => wpAny (model prog w) A (eval slice env) (fun i s₂ => s₂.TypeIs o T ∧ wpAny (model prog w) A (getItem o i) Q E s₂) E s₁) E s) :
    wpAny (model prog w) A (eval (.Subscript value slice pos) env) Q E s := by
  refine Subscript_ (wpAny_mono h (fun o s₁ h₁ => wpAny_mono h₁ (fun i s₂ h₂ => ?_) fun _ _ x => x) fun _ _ x => x)
  obtain ⟨hT, h₂⟩ := h₂
  unfold subscriptTail
  refine wpAny_bind ?_
  rw [getitemInPython_of_ne hT.not_modules]
  refine wpAny_bind (wpAny_specialOf hT hl ?_)
  have fin : wpAny (model prog w) A (subscripted slice false o i) (fun r s₃ => wpAny (model prog w) A (letTemporaryGo value o r >>= fun _ => pure r) Q E s₃) E s₂ := by
    rw [hs o i]
    exact wpAny_operating (wpAny_mono h₂ (fun r s₃ h₃ => wpAny_bind (wpAny_letTemporaryGo (wpAny_pure h₃))) fun _ _ x => x)
  first
    | exact wpAny_pure (wpAny_bind fin)
    | exact wpAny_bind (wpAny_pure (wpAny_bind fin))
    | exact wpAny_bind fin

theorem dict_typeIs {X : Cx} {pins : List (Addr × Obj)} {σ : St} {H : Hp} {s : Shared} {a : Addr} {y : V} {o : Option V} (I : Inv X pins σ H s) (g : DGet H a y o) : s.TypeIs (.ref a) "dict" := by
  rcases g with ⟨kvs, k, e, _, _⟩ | ⟨kvs, k, b, e, _, _, _⟩
  · obtain ⟨_, _, vs, _, dd⟩ := dk_rd I.hok e
    exact dd.typeIs
  · obtain ⟨_, _, xs, _, dd⟩ := dt_rd I.hok e
    exact dd.typeIs
theorem dict_noDict {X : Cx} {pins : List (Addr × Obj)} {σ : St} {H : Hp} {s : Shared} {a : Addr} {y : V} {o : Option V} (I : Inv X pins σ H s) (g : DGet H a y o) :
    ∀ b, Value.ref a = .ref b → ∃ ob, s.heap.get? b = some ob ∧ ob.dict = none := fun b q => by
  cases q
  rcases g with ⟨kvs, k, e, _, _⟩ | ⟨kvs, k, b, e, _, _, _⟩
  · obtain ⟨_, _, vs, _, ob, _, _, h1, h2, _⟩ := dk_rd I.hok e
    exact ⟨ob, h1, h2.2.1⟩
  · obtain ⟨_, _, xs, _, ob, _, _, h1, h2, _⟩ := dt_rd I.hok e
    exact ⟨ob, h1, h2.2.1⟩

/-- d[y] -/
def tDGet (td ty : TE) : TE := fun σ H Q => td σ H fun x H1 => ty σ H1 fun y H2 => ∃ a v, x = .ref a ∧ DGet H2 a y (some v) ∧ Q v H2
/-- y in d, y not in d -/
def tDIn (ty td : TE) : TE := fun σ H Q => ty σ H fun y H1 => td σ H1 fun x H2 => ∃ a o, x = .ref a ∧ DGet H2 a y o ∧ Q (.bl o.isSome) H2
def tDNotIn (ty td : TE) : TE := fun σ H Q => ty σ H fun y H1 => td σ H1 fun x H2 => ∃ a o, x = .ref a ∧ DGet H2 a y o ∧ Q (.bl (!o.isSome)) H2
/-- d[y] = v -/
def sDPut (td ty tv : TE) : TS := fun D σ H => tv σ H fun v H1 => td σ H1 fun x H2 => ty σ H2 fun y H3 => ∃ a H4, x = .ref a ∧ DPut H3 a y v H4 ∧ D.nx σ H4
/-- d[y] op= v -/
def sDAug (td ty tv : TE) (rd : V → V → Hp → VK → Prop) : TS := fun D σ H => td σ H fun x H1 => ty σ H1 fun y H2 => ∃ a v, x = .ref a ∧ DGet H2 a y (some v) ∧
  tv σ H2 fun y2 H3 => rd v y2 H3 fun z H4 => ∃ H5, DPut H4 a y z H5 ∧ D.nx σ H5
/-- del d[y] -/
def sDDel (td ty : TE) : TS := fun D σ H => td σ H fun x H1 => ty σ H1 fun y H2 => ∃ a kvs k, x = .ref a ∧ H2 a = some (.dK kvs) ∧ y = kV k ∧ (valV kvs k).isSome = true ∧ D.nx σ (upd H2 a (.dK (dropK kvs k)))

section
variable {X : Cx} {o i e value : Expr} {pos pos' tpos : Pos} {td ty tv : TE}
theorem pe_dget (hu : X.A.units + 1 < cLine) (ho : PE X o td) (hi : PE X i ty) (hs : NoSl i) : PE X (.Subscript o i pos) (tDGet td ty) := by
  intro pins s σ H Q I h
  refine subD_of PySem.F.slot_dict_getitem.lookup hs (thn (ho pins s σ H _ I h) fun u s1 ⟨x, H1, I1, rx, q1⟩ => thn (hi pins s1 σ H1 _ I1 q1) fun iv s2 ⟨y, H2, I2, ry, a, v, ex, g, q2⟩ => ?_)
  subst ex
  obtain rfl : u = Value.ref a := rx
  exact ⟨dict_typeIs I2 g, d_getItem hu I2 g ry fun w' s3 I3 rw' => ⟨v, H2, I3, rw', q2⟩⟩
theorem pc_din (hu : X.A.units + 1 < cLine) (hi : PE X i ty) (ho : PE X o td) : PC X .In i o (tDIn ty td) := by
  intro pins s σ H Q I h
  refine thn (hi pins s σ H _ I h) fun iv s1 ⟨y, H1, I1, ry, q1⟩ => thn (ho pins s1 σ H1 _ I1 q1) fun u s2 ⟨x, H2, I2, rx, a, ov, ex, g, q2⟩ => ?_
  subst ex
  obtain rfl : u = Value.ref a := rx
  exact d_in hu I2 g ry fun s3 I3 => ⟨.bl ov.isSome, H2, I3, rfl, q2⟩
theorem pc_dnotin (hu : X.A.units + 1 < cLine) (hi : PE X i ty) (ho : PE X o td) : PC X .NotIn i o (tDNotIn ty td) := by
  intro pins s σ H Q I h
  refine thn (hi pins s σ H _ I h) fun iv s1 ⟨y, H1, I1, ry, q1⟩ => thn (ho pins s1 σ H1 _ I1 q1) fun u s2 ⟨x, H2, I2, rx, a, ov, ex, g, q2⟩ => ?_
  subst ex
  obtain rfl : u = Value.ref a := rx
  exact d_notIn hu I2 g ry fun s3 I3 => ⟨.bl (!ov.isSome), H2, I3, rfl, q2⟩
theorem ps_dput (hu : X.A.units + 1 < cLine) (ho : PE X o td) (hi : PE X i ty) (hv : PE X value tv) (hs : swapsWith value (some (.Subscript o i pos')) pos.line X.env = pure false) :
    PS X (.Assign [.Subscript o i pos'] value pos) (sDPut td ty tv) := by
  intro pins s σ H D I h
  refine wpAny_Assign_Subscript (thn (hv pins s σ H _ I h) fun r s1 ⟨v, H1, I1, rv, q1⟩ => thn (ho pins s1 σ H1 _ I1 q1) fun u s2 ⟨x, H2, I2, rx, q2⟩ => thn (hi pins s2 σ H2 _ I2 q2) fun iv s3 ⟨y, H3, I3, ry, a, H4, ex, g, q3⟩ => ?_) hs
  subst ex
  obtain rfl : u = Value.ref a := rx
  exact d_setItem hu I3 g ry rv fun s4 I4 => ⟨σ, H4, I4, q3⟩
theorem ps_daug {op : Operator} {rd : V → V → Hp → VK → Prop} (hu : X.A.units + 1 < cLine) (ho : PE X o td) (hi : PE X i ty) (hv : PE X value tv) (hop : InOp X op rd)
    (ha : ∀ ov iv new, augStore i ov iv new = (do holding [new, ov, iv] (setItem ov iv new); release [new, ov, iv] []; pure .next)) : PS X (.AugAssign (.Subscript o i tpos) op value pos) (sDAug td ty tv rd) := by
  intro pins s σ H D I h
  refine wpAny_AugAssign_SubscriptAny (thn (ho pins s σ H _ I h) fun u s1 ⟨x, H1, I1, rx, q1⟩ => thn (hi pins s1 σ H1 _ I1 q1) fun iv s2 ⟨y, H2, I2, ry, a, v, ex, g, q2⟩ => ?_) ha
  subst ex
  obtain rfl : u = Value.ref a := rx
  refine d_getItem hu I2 g ry fun w' s3 I3 rw' => thn (hv pins s3 σ H2 _ I3 q2) fun w2 s4 ⟨y2, H3, I4, ry2, q3⟩ => thn (hop pins s4 σ H3 v y2 w' w2 _ I4 rw' ry2 q3) fun w3 s5 ⟨z, H4, I5, rz, H5, g5, q4⟩ => ?_
  exact d_setItem hu I5 g5 ry rz fun s6 I6 => ⟨σ, H5, I6, q4⟩
theorem ps_ddel (ho : PE X o td) (hi : PE X i ty) : PS X (.Delete [.Subscript o i tpos] pos) (sDDel td ty) := by
  intro pins s σ H D I h
  refine wpAny_Delete (wpAny_deleteEach_cons (wpAny_delete_Subscript (thn (ho pins s σ H _ I h) fun u s1 ⟨x, H1, I1, rx, q1⟩ => thn (hi pins s1 σ H1 _ I1 q1) fun iv s2 ⟨y, H2, I2, ry, a, kvs, k, ex, e, ey, l, q2⟩ => ?_)))
  subst ex ey
  obtain rfl : u = Value.ref a := rx
  exact d_delItem I2 e ry l fun s3 I3 => wpAny_deleteEach_nil ⟨σ, _, I3, q2⟩
end


/-! ### displays -/
theorem dk_empty {P : Program} {w : World} {H : Hp} (h : Heap) (hb : sysModules < h.objs.size) : ObjOk P w H (h.push { cls := .type "dict", data := .dict #[] }) h.objs.size (.dK []) :=
  ⟨Nat.zero_le _, beq_eq_false_iff_ne.mpr (Ne.symm (Nat.ne_of_lt hb)), [], .nil, Heap.DictOf.new h⟩
theorem dt_empty {P : Program} {w : World} {H : Hp} (h : Heap) (hb : sysModules < h.objs.size) : ObjOk P w H (h.push { cls := .type "dict", data := .dict #[] }) h.objs.size (.dT []) :=
  ⟨Nat.zero_le _, beq_eq_false_iff_ne.mpr (Ne.symm (Nat.ne_of_lt hb)), [], .nil, _, #[], 0, Heap.get?_push_size _ rfl, ⟨rfl, rfl, rfl⟩, rfl, rfl, List.nodup_nil⟩
/-- {}, to be a dict of the kind that is wanted -/
def tDNewK : TE := fun _ H Q => ∀ p, H p = none → Q (.ref p) (upd H p (.dK []))
def tDNewT : TE := fun _ H Q => ∀ p, H p = none → Q (.ref p) (upd H p (.dT []))
section
variable {X : Cx} {pos : Pos}
theorem pe_dnewK : PE X (.Dict [] [] pos) tDNewK := fun pins s σ H Q I h =>
  wpAny_Dict_empty ⟨.ref s.heap.objs.size, _, I.laid (a := s.heap.objs.size) (o := .dK []) (t' := s.toks) (fun _ _ q => Heap.get?_push_of_some _ q) (Nat.le_refl _) (dk_empty s.heap I.big), rfl, h _ (I.hok.fresh (Nat.le_refl _))⟩
theorem pe_dnewT : PE X (.Dict [] [] pos) tDNewT := fun pins s σ H Q I h =>
  wpAny_Dict_empty ⟨.ref s.heap.objs.size, _, I.laid (a := s.heap.objs.size) (o := .dT []) (t' := s.toks) (fun _ _ q => Heap.get?_push_of_some _ q) (Nat.le_refl _) (dt_empty s.heap I.big), rfl, h _ (I.hok.fresh (Nat.le_refl _))⟩
end

/-- the pairs of a display, from the left -/
def tPairs : List (TE × TE) → St → Hp → (List (V × V) → Hp → Prop) → Prop
  | [], _, H, Q => Q [] H
  | (tk, tv) :: r, σ, H, Q => tk σ H fun x H1 => tv σ H1 fun y H2 => tPairs r σ H2 fun ps H3 => Q ((x, y) :: ps) H3
abbrev VV : List (V × V) → List (Value × Value) → Prop := Paired fun p q => RelV p.1 q.1 ∧ RelV p.2 q.2
def PPs (X : Cx) (pos : Pos) (keys : List (Option Expr)) (values : List Expr) (trs : List (TE × TE)) : Prop :=
  ∀ (pins : List (Addr × Obj)) (s : Shared) (σ : St) (H : Hp) (Q : List (V × V) → Hp → Prop), Inv X pins σ H s → tPairs trs σ H Q →
    wpAny (model X.prog X.w) X.A (evalPairs (pairTrees keys values X.env pos)) (fun vs s' => ∃ ps H', Inv X pins σ H' s' ∧ VV ps vs ∧ Q ps H') X.xe s
theorem pps_nil {X : Cx} {pos : Pos} : PPs X pos [] [] [] := fun pins s σ H Q I h => pairTrees_nil_walk ⟨[], H, I, .nil, h⟩
theorem pps_cons {X : Cx} {pos : Pos} {k v : Expr} {ks : List (Option Expr)} {vs : List Expr} {tk tv : TE} {trs : List (TE × TE)} (hk : PE X k tk) (hv : PE X v tv) (hr : PPs X pos ks vs trs) :
    PPs X pos (some k :: ks) (v :: vs) ((tk, tv) :: trs) := fun pins s σ H Q I h =>
  pairTrees_cons_walk (thn (hk pins s σ H _ I h) fun u s1 ⟨x, H1, I1, rx, q1⟩ => thn (hv pins s1 σ H1 _ I1 q1) fun w2 s2 ⟨y, H2, I2, ry, q2⟩ =>
    thn (hr pins s2 σ H2 _ I2 q2) fun ws s3 ⟨ps, H3, I3, rel, q3⟩ => ⟨(x, y) :: ps, H3, I3, .cons ⟨rx, ry⟩ rel, q3⟩)

def mergeK (kvs more : List (Key × V)) : List (Key × V) := more.foldl (fun acc kv => putK acc kv.1 kv.2) kvs
theorem KV.merge : ∀ {more : List (Key × V)} {rs : List (Key × Value)} {kvs : List (Key × V)} {vs : List (Key × Value)}, KV more rs → KV kvs vs → KV (mergeK kvs more) (merged vs rs) := by
  intro more rs kvs vs r
  unfold KV at r
  induction r generalizing kvs vs with
  | nil => intro q; exact q
  | @cons p q ps qs h t ih =>
    intro r0
    have e : KV (putK kvs p.1 p.2) (stored vs q.1 q.2) := by
      have := r0.put p.1 h.2
      rw [← h.1]; exact this
    exact ih e
theorem length_mergeK : ∀ (more kvs : List (Key × V)), (mergeK kvs more).length ≤ kvs.length + more.length
  | [], kvs => by show kvs.length ≤ kvs.length + 0; omega
  | p :: r, kvs => by
    have h1 := length_mergeK r (putK kvs p.1 p.2)
    have h2 := length_putK kvs p.1 p.2
    show (mergeK (putK kvs p.1 p.2) r).length ≤ _
    rw [List.length_cons]; omega
theorem carries_of {P : Program} {w : World} : ∀ {kvs : List (Key × V)} {ws : List (Value × Value)}, VV (kvs.map fun kv => (kV kv.1, kv.2)) ws → ∃ rs, Carries (mixKind P w) ws rs ∧ KV kvs rs
  | [], _, r => by rw [List.map_nil] at r; cases r; exact ⟨[], True.intro, .nil⟩
  | p :: kvs, _, r => by
    rw [List.map_cons] at r
    cases r with
    | @cons a b as bs h t =>
      obtain ⟨rs, c, q⟩ := carries_of (P := P) (w := w) t
      obtain ⟨b1, b2⟩ := b
      exact ⟨(p.1, b2) :: rs, ⟨kV_is h.1, rfl, c⟩, .cons ⟨rfl, h.2⟩ q⟩
/-- {k: v, ..} with keys ints and texts; the new dict stands empty while the pairs are made -/
def tDisp (trs : List (TE × TE)) : TE := fun σ H Q => ∀ p, H p = none → tPairs trs σ (upd H p (.dK [])) fun ps H2 => H2 p = some (.dK []) ∧ ∃ kvs : List (Key × V), ps = kvs.map (fun kv => (kV kv.1, kv.2)) ∧ kvs.length ≤ 15 ∧ Q (.ref p) (upd H2 p (.dK (mergeK [] kvs)))
theorem pe_disp {X : Cx} {pos : Pos} {keys : List (Option Expr)} {values : List Expr} {trs : List (TE × TE)} (h : PPs X pos keys values trs) (hall : keys.all (·.isSome) = true) (hl : keys.length = values.length) (h0 : keys ≠ [])
    (h15 : keys.length ≤ 15) : PE X (.Dict keys values pos) (tDisp trs) := by
  intro pins s σ H Q I q
  have hn := I.hok.fresh (Nat.le_refl s.heap.objs.size)
  have I1 := I.laid (a := s.heap.objs.size) (o := .dK []) (h' := s.heap.push { cls := .type "dict", data := .dict #[] }) (t' := s.toks) (fun _ _ q => Heap.get?_push_of_some _ q) (Nat.le_refl _) (dk_empty s.heap I.big)
  refine wpAny_Dict_walk (knd := mixKind X.prog X.w) hall hl h0 h15 (thn (h pins _ σ _ _ I1 (q _ hn)) fun ws s2 ⟨ps, H2, I2, rel, e, kvs, ep, lk, q2⟩ => ?_)
  subst ep
  obtain ⟨rs, c, rk⟩ := carries_of (P := X.prog) (w := X.w) rel
  obtain ⟨z, hd, vs0, r0, dd⟩ := dk_of I2.hok e
  cases r0
  refine ⟨rs, c, dd, fun h' dd' hs => ⟨.ref s.heap.objs.size, _, ?_, rfl, q2⟩⟩
  have hz : (mergeK [] kvs).length ≤ sizeLine := by
    have h1 := length_mergeK kvs []
    rw [List.length_nil] at h1
    rw [sizeLine_eq]; omega
  have he : ∃ q, h'.get? s.heap.objs.size = some q := let ⟨q, _, _, hq, _⟩ := dd'; ⟨q, hq⟩
  exact d_write I2 (by rw [e]; exact True.intro) hs he (dk_new hz hd (rk.merge .nil) dd')


/-! ### methods -/
/-- a method call o.m(e) of a built-in, with one argument: what must be seen of the text -/
structure M1 (X : Cx) (o : Expr) (m : Str) (apos : Pos) (e : Expr) (cpos : Pos) : Prop where
  base : attributeBase o m X.env (eval o X.env) = eval o X.env
  few : ((backTo cpos (starEach [e] X.env)).all (fun x => !x.1) && (backToKw cpos (keywordEach [] X.env)).all (fun x => x.1.isSome)
    && decide (([e] : List Expr).length + ([] : List Keyword).length + (if ([] : List Keyword).isEmpty then 0 else 1) < 30)) = true
  line : (apos.endLine == cpos.line) = true
  trees : backTo cpos (starEach [e] X.env) = [(false, eval e X.env)]
structure M2 (X : Cx) (o : Expr) (m : Str) (apos : Pos) (e f : Expr) (cpos : Pos) : Prop where
  base : attributeBase o m X.env (eval o X.env) = eval o X.env
  few : ((backTo cpos (starEach [e, f] X.env)).all (fun x => !x.1) && (backToKw cpos (keywordEach [] X.env)).all (fun x => x.1.isSome)
    && decide (([e, f] : List Expr).length + ([] : List Keyword).length + (if ([] : List Keyword).isEmpty then 0 else 1) < 30)) = true
  line : (apos.endLine == cpos.line) = true
  trees : backTo cpos (starEach [e, f] X.env) = [(false, eval e X.env), (false, eval f X.env)]

/-- a is a dict, whatever its keys -/
def IsD (H : Hp) (a : Addr) : Prop := (∃ kvs, Rd H a (.dK kvs)) ∨ ∃ kvs, Rd H a (.dT kvs)
theorem isD_at {X : Cx} {pins : List (Addr × Obj)} {σ : St} {H : Hp} {s : Shared} {a : Addr} (I : Inv X pins σ H s) (d : IsD H a) :
    s.TypeIs (.ref a) "dict" ∧ (∀ b, Value.ref a = .ref b → ∃ ob, s.heap.get? b = some ob ∧ ob.dict = none) ∧ (a == sysModules) = false := by
  rcases d with ⟨kvs, e⟩ | ⟨kvs, e⟩
  · obtain ⟨_, hd, vs, _, dd⟩ := dk_rd I.hok e
    refine ⟨dd.typeIs, fun b q => ?_, hd⟩
    cases q
    obtain ⟨ob, _, _, h1, h2, _⟩ := dd
    exact ⟨ob, h1, h2.2.1⟩
  · obtain ⟨_, hd, xs, _, dd⟩ := dt_rd I.hok e
    refine ⟨dd.typeIs, fun b q => ?_, hd⟩
    cases q
    obtain ⟨ob, _, _, h1, h2, _⟩ := dd
    exact ⟨ob, h1, h2.2.1⟩

section
variable {X : Cx} {pins : List (Addr × Obj)} {σ : St} {H : Hp} {s : Shared} {a : Addr} {y d : V} {u r : Value} {o : Option V} {A : Around} {E : Value → Shared → Prop}
/-- d.get(y) -/
theorem d_get1 {Q : Value → Shared → Prop} (hu : A.units + 1 < cLine) (I : Inv X pins σ H s) (g : DGet H a y o) (ry : RelV y u) (h : ∀ w' s', Inv X pins σ H s' → RelV (o.getD .non) w' → Q w' s') :
    wpAny (model X.prog X.w) A (call (.builtin "dict.get") [.ref a, u]) Q E s := by
  rcases g with ⟨kvs, k, e, ey, l⟩ | ⟨kvs, k, b, e, ey, eb, l⟩
  · subst ey
    obtain ⟨z, hd, vs, rel, dd⟩ := dk_rd I.hok e
    refine call_meetsIn PySem.F.slot_dict_get dd.typeIs PySem.F.entry_dict_get (PySem.F.args_dict_get_2 _ _) (meets_dict_get (mixKind X.prog X.w) a (kV_is ry) hd) ⟨_, dd.mapOf, h _ _ (I.tok _) ?_⟩
    rw [l]
    exact (rel.val k).getD rfl
  · subst ey
    cases (show u = Value.ref b from ry)
    obtain ⟨z, hd, xs, rel, dd⟩ := dt_rd I.hok e
    refine call_meetsIn PySem.F.slot_dict_get dd.typeIs PySem.F.entry_dict_get (PySem.F.args_dict_get_2 _ _) (meetsH_dict_get (tupleKind (mixKind X.prog X.w)) a b hd) ⟨tupleKind_room_in1 hu, k, xs, key_of I.hok eb, dd, h _ _ (I.tok _) ?_⟩
    rw [l]
    exact (rel.val k).getD rfl
/-- d.get(y, x) -/
theorem d_get2 {Q : Value → Shared → Prop} (hu : A.units + 1 < cLine) (I : Inv X pins σ H s) (g : DGet H a y o) (ry : RelV y u) (rd : RelV d r) (h : ∀ w' s', Inv X pins σ H s' → RelV (o.getD d) w' → Q w' s') :
    wpAny (model X.prog X.w) A (call (.builtin "dict.get") [.ref a, u, r]) Q E s := by
  rcases g with ⟨kvs, k, e, ey, l⟩ | ⟨kvs, k, b, e, ey, eb, l⟩
  · subst ey
    obtain ⟨z, hd, vs, rel, dd⟩ := dk_rd I.hok e
    refine call_meetsIn PySem.F.slot_dict_get dd.typeIs PySem.F.entry_dict_get (PySem.F.args_dict_get_3 _ _ _) (meets_dict_get_default (mixKind X.prog X.w) a (kV_is ry) hd r) ⟨_, dd.mapOf, h _ _ (I.tok _) ?_⟩
    rw [l]
    exact (rel.val k).getD rd
  · subst ey
    cases (show u = Value.ref b from ry)
    obtain ⟨z, hd, xs, rel, dd⟩ := dt_rd I.hok e
    refine call_meetsIn PySem.F.slot_dict_get dd.typeIs PySem.F.entry_dict_get (PySem.F.args_dict_get_3 _ _ _) (meetsH_dict_get_default (tupleKind (mixKind X.prog X.w)) a b hd r) ⟨tupleKind_room_in1 hu, k, xs, key_of I.hok eb, dd, h _ _ (I.tok _) ?_⟩
    rw [l]
    exact (rel.val k).getD rd
end

def tDGet1 (td ty : TE) : TE := fun σ H Q => td σ H fun x H1 => ∃ a, x = .ref a ∧ IsD H1 a ∧ ty σ H1 fun y H2 => ∃ o, DGet H2 a y o ∧ Q (o.getD .non) H2
def tDGet2 (td ty tx : TE) : TE := fun σ H Q => td σ H fun x H1 => ∃ a, x = .ref a ∧ IsD H1 a ∧ ty σ H1 fun y H2 => tx σ H2 fun z H3 => ∃ o, DGet H3 a y o ∧ Q (o.getD z) H3
/-- d.pop(k): there; d.pop(k, x): there or not -/
def tDPop1 (td ty : TE) : TE := fun σ H Q => td σ H fun x H1 => ∃ a, x = .ref a ∧ IsD H1 a ∧ ty σ H1 fun y H2 => ∃ kvs k v, H2 a = some (.dK kvs) ∧ y = kV k ∧ valV kvs k = some v ∧ Q v (upd H2 a (.dK (dropK kvs k)))
def tDPop2 (td ty tx : TE) : TE := fun σ H Q => td σ H fun x H1 => ∃ a, x = .ref a ∧ IsD H1 a ∧ ty σ H1 fun y H2 => tx σ H2 fun z H3 => ∃ kvs k, H3 a = some (.dK kvs) ∧ y = kV k ∧
  (∀ v, valV kvs k = some v → Q v (upd H3 a (.dK (dropK kvs k)))) ∧ (valV kvs k = none → Q z H3)
section
variable {X : Cx} {o e f : Expr} {apos cpos : Pos} {td ty tx : TE}
theorem pe_dget1 (hu : X.A.units + 1 < cLine) (ho : PE X o td) (he : PE X e ty) (m : M1 X o "get" apos e cpos) : PE X (.Call (.Attribute o "get" apos) [e] [] cpos) (tDGet1 td ty) := by
  intro pins s σ H Q I h
  refine wpAny_Call_method m.base m.few m.line PySem.F.plainAttrs_dict PySem.F.slot_dict_get PySem.F.type_dict_get (thn (ho pins s σ H _ I h) fun u s1 ⟨x, H1, I1, rx, a, ex, d, q1⟩ => ?_)
  subst ex
  obtain rfl : u = Value.ref a := rx
  obtain ⟨t1, t2, _⟩ := isD_at I1 d
  refine ⟨t1, t2, ?_⟩
  rw [m.trees]
  refine Calls.callWith_builtin rfl (Calls.evalArgs_plain (Calls.spliced_cons (thn (he pins s1 σ H1 _ I1 q1) fun iv s2 ⟨y, H2, I2, ry, ov, g, q2⟩ => Calls.spliced_nil ?_)))
  exact d_get1 hu I2 g ry fun w' s3 I3 rw' => ⟨_, H2, I3, rw', q2⟩
theorem pe_dget2 (hu : X.A.units + 1 < cLine) (ho : PE X o td) (he : PE X e ty) (hf : PE X f tx) (m : M2 X o "get" apos e f cpos) : PE X (.Call (.Attribute o "get" apos) [e, f] [] cpos) (tDGet2 td ty tx) := by
  intro pins s σ H Q I h
  refine wpAny_Call_method m.base m.few m.line PySem.F.plainAttrs_dict PySem.F.slot_dict_get PySem.F.type_dict_get (thn (ho pins s σ H _ I h) fun u s1 ⟨x, H1, I1, rx, a, ex, d, q1⟩ => ?_)
  subst ex
  obtain rfl : u = Value.ref a := rx
  obtain ⟨t1, t2, _⟩ := isD_at I1 d
  refine ⟨t1, t2, ?_⟩
  rw [m.trees]
  refine Calls.callWith_builtin rfl (Calls.evalArgs_plain (Calls.spliced_cons (thn (he pins s1 σ H1 _ I1 q1) fun iv s2 ⟨y, H2, I2, ry, q2⟩ =>
    Calls.spliced_cons (thn (hf pins s2 σ H2 _ I2 q2) fun fv s3 ⟨z, H3, I3, rz, ov, g, q3⟩ => Calls.spliced_nil ?_))))
  exact d_get2 hu I3 g ry rz fun w' s4 I4 rw' => ⟨_, H3, I4, rw', q3⟩
theorem pe_dpop1 (ho : PE X o td) (he : PE X e ty) (m : M1 X o "pop" apos e cpos) : PE X (.Call (.Attribute o "pop" apos) [e] [] cpos) (tDPop1 td ty) := by
  intro pins s σ H Q I h
  refine wpAny_Call_method m.base m.few m.line PySem.F.plainAttrs_dict PySem.F.slot_dict_pop PySem.F.type_dict_pop (thn (ho pins s σ H _ I h) fun u s1 ⟨x, H1, I1, rx, a, ex, d, q1⟩ => ?_)
  subst ex
  obtain rfl : u = Value.ref a := rx
  obtain ⟨t1, t2, _⟩ := isD_at I1 d
  refine ⟨t1, t2, ?_⟩
  rw [m.trees]
  refine Calls.callWith_builtin rfl (Calls.evalArgs_plain (Calls.spliced_cons (thn (he pins s1 σ H1 _ I1 q1) fun iv s2 ⟨y, H2, I2, ry, kvs, k, v, ea, ey, l, q2⟩ => Calls.spliced_nil ?_)))
  subst ey
  exact d_pop I2 ea ry l (.inl rfl) fun w' s3 I3 rw' => ⟨v, _, I3, rw', q2⟩
theorem pe_dpop2 (ho : PE X o td) (he : PE X e ty) (hf : PE X f tx) (m : M2 X o "pop" apos e f cpos) : PE X (.Call (.Attribute o "pop" apos) [e, f] [] cpos) (tDPop2 td ty tx) := by
  intro pins s σ H Q I h
  refine wpAny_Call_method m.base m.few m.line PySem.F.plainAttrs_dict PySem.F.slot_dict_pop PySem.F.type_dict_pop (thn (ho pins s σ H _ I h) fun u s1 ⟨x, H1, I1, rx, a, ex, d, q1⟩ => ?_)
  subst ex
  obtain rfl : u = Value.ref a := rx
  obtain ⟨t1, t2, _⟩ := isD_at I1 d
  refine ⟨t1, t2, ?_⟩
  rw [m.trees]
  refine Calls.callWith_builtin rfl (Calls.evalArgs_plain (Calls.spliced_cons (thn (he pins s1 σ H1 _ I1 q1) fun iv s2 ⟨y, H2, I2, ry, q2⟩ =>
    Calls.spliced_cons (thn (hf pins s2 σ H2 _ I2 q2) fun fv s3 ⟨z, H3, I3, rz, kvs, k, ea, ey, q3, q4⟩ => Calls.spliced_nil ?_))))
  subst ey
  cases l : valV kvs k with
  | some v => exact d_pop I3 ea ry l (.inr ⟨fv, rfl⟩) fun w' s4 I4 rw' => ⟨v, _, I4, rw', q3 v l⟩
  | none => exact d_popD I3 ea ry l fun s4 I4 => ⟨z, H3, I4, rz, q4 l⟩
end

/-! ### dict(d): a copy -/
section
variable {X : Cx} {pins : List (Addr × Obj)} {σ : St} {H : Hp} {s : Shared} {a : Addr} {kvs : List (Key × V)} {A : Around} {E : Value → Shared → Prop}
theorem d_copyOf {Q : Value → Shared → Prop} (I : Inv X pins σ H s) (e : Rd H a (.dK kvs)) (h : ∀ p s', H p = none → Inv X pins σ (upd H p (.dK kvs)) s' → Q (.ref p) s') : wpAny (model X.prog X.w) A (call (.type "dict") [.ref a]) Q E s := by
  obtain ⟨z, hd, vs, rel, dd⟩ := dk_rd I.hok e
  refine kt_call_dict hd dd (by rw [← rel.length]; exact z) fun h' dd' hs => ?_
  refine h _ _ (I.hok.fresh (Nat.le_refl _)) (I.laid (a := s.heap.objs.size) (o := .dK kvs) (t' := s.toks) (fun b q hq => ?_) (Nat.le_refl _) (dk_new z (beq_eq_false_iff_ne.mpr (Ne.symm (Nat.ne_of_lt I.big))) rel dd'))
  exact (hs.2 b (Nat.ne_of_lt (Heap.lt_size hq))).trans (Heap.get?_push_of_some _ hq)
end


section
variable {X : Cx} {pins : List (Addr × Obj)} {σ : St} {H : Hp} {s : Shared} {a : Addr} {y : V} {u : Value} {A : Around} {E : Value → Shared → Prop}
/-- d[y], not there: a KeyError -/
theorem d_missing {Q : Value → Shared → Prop} (hu : A.units + 1 < cLine) (hh : A.handled = none) (I : Inv X pins σ H s) (g : DGet H a y none) (ry : RelV y u)
    (h : ∀ h' e t', Heap.NewExc s.heap h' e "KeyError" → E (.ref e) { s with heap := h', toks := t' }) : wpAny (model X.prog X.w) A (getItem (.ref a) u) Q E s := by
  rcases g with ⟨kvs, k, e, ey, l⟩ | ⟨kvs, k, b, e, ey, eb, l⟩
  · subst ey
    obtain ⟨z, hd, vs, rel, dd⟩ := dk_rd I.hok e
    have hn : valueAt vs k = none := RelO.none_of (by rw [l]; exact rel.val k)
    exact wpAny_getItem_missing_of (kV_is ry) hd hh dd.mapOf hn fun h' ex ne => h h' ex _ ne
  · subst ey
    cases (show u = Value.ref b from ry)
    obtain ⟨z, hd, xs, rel, dd⟩ := dt_rd I.hok e
    have hn : (atKey xs k).map (·.2) = none := RelO.none_of (by rw [l]; exact rel.val k)
    exact wpAny_getItem_missing_heap (tupleKind_room_in1 hu) (key_of I.hok eb) hd hh dd (Option.map_eq_none_iff.mp hn) fun h' ex ne => h h' ex _ ne
end
end L2

namespace Att
open PySem PySem.W PySem.Calls PyProof.Rows

/-! ### the script -/
theorem ints_of_wellAll {P : Params} {h : Heap} : ∀ (ns : List Int) (vs : List Value), WellAll P h vs (ns.map WData.int) → IntsAre vs ns := by
  intro ns
  induction ns with
  | nil =>
    intro vs w
    rw [List.map_nil] at w
    cases w
    exact .nil
  | cons n ns ih =>
    intro vs w
    rw [List.map_cons] at w
    cases w with
    | cons a b =>
      cases a
      exact .cons _ _ (ih _ b)

theorem script_of {l : OpenLaw} {n : Nat} (hn : l.most = some n) {P : Params} {h : Heap} {args : List WData} {vals : List Value}
    (hpre : l.row.toRowW.claim.pre args = true) (hwl : WellAll P h vals args) :
    ∃ a vs ns, vals = [Value.ref a] ∧ args = [WData.list (ns.map WData.int)] ∧ h.get? a = some { cls := .type "list", data := .seq vs.toArray } ∧ IntsAre vs ns ∧ ns.length ≤ n := by
  have hsh : WShape.hasAll [] args [.list .int] = true := (pre_splitW hpre).1
  have hc : l.pre.holds [] { args := args } = true := (pre_splitW hpre).2
  obtain ⟨d, r, rfl, h1, h2⟩ := hasAllW_cons hsh
  obtain rfl := hasAllW_nil h2
  obtain ⟨xs, rfl, h3⟩ := hasW_list h1
  obtain ⟨ns, rfl⟩ := items_int h3
  have hlen : ns.length ≤ n := by
    unfold OpenLaw.pre at hc
    have h4 : (WTm.not (.lt (.lit (.int (n : Int))) (.len (.arg 0)))).holds [] { args := [.list (ns.map .int)] } = true := by
      have h4 := (holds_andW hc).1
      rw [hn] at h4
      exact h4
    have h5 := condW_of h4 (w_not (w_lt w_lit (w_len_list (w_arg rfl))))
    rw [List.length_map] at h5
    refine Nat.le_of_not_lt fun q => ?_
    have q' : (n : Int) < ((ns.length : Nat) : Int) := by omega
    first
      | (rw [decide_eq_true q'] at h5; exact absurd h5 (by decide))
      | (simp at h5; omega)
  cases hwl with
  | cons w1 w2 =>
    cases w2
    cases w1 with
    | list ho hall => exact ⟨_, _, ns, rfl, rfl, ho, ints_of_wellAll ns _ hall, hlen⟩

theorem post_true (l : OpenLaw) (args : List WData) : l.row.toRowW.claim.post args (.bool true) args = true :=
  postW_of (r := l.row.toRowW) (X := (true == true))
    (show WShape.has [] (.bool true) .bool = true by first | rfl | decide | simp [WShape.has, WShape.arms, WShape.armsAll])
    (show (WTm.eq .res (.lit (.bool true))).value [] { args := args, res := some (.bool true), after := args } = some (.bool (true == true)) from w_eq_bool (w_res rfl) w_lit) rfl

/-! ### the attachment: holds_open's last premise (the goal 'hc' behind k_head) from a wpAny of the law's body -/
theorem attach {l : OpenLaw} {n : Nat} {q : Program} {loose : List Str} {XP : (Str → Option Value) → Heap → Prop} {YP : World → Heap → Prop} {d : DefRec} {x : Str}
    (hn : l.most = some n) (hdf : d.params.defaults = [])
    (hbind : ∀ pm cd doc v : Value, bindArgs (docDef d.name d.params d.body d.scope pm cd doc) ⟨[v], []⟩ = pure [(x, v)])
    (hx : d.scope.names.lookup x = some .local ∨ d.scope.names.lookup x = some .cell)
    (hk : d.scope.kind = .function) (hco : d.scope.isCoroutine = false) (hgen : d.scope.isGenerator = false)
    (body : ∀ (w : World) (s₀ s₁ s : Shared) (mg mb : Str → Option Value) (fa : Addr) (o : Obj) (pm cd doc : Value) (a : Addr) (vs : List Value) (ns : List Int),
      Ground q loose [] XP w s₀ mg mb s₁.heap → YP w s₁.heap →
      s₁.heap.get? fa = some o → o.data = .func (docDef d.name d.params d.body d.scope pm cd doc) → s₁.heap.CodeRec cd d.name → mg d.name = some (.ref fa) →
      s₁.heap.get? a = some { cls := .type "list", data := .seq vs.toArray } → IntsAre vs ns → ns.length ≤ n →
      s.gens = #[] → s.os = s₁.os →
      Fr s₁.heap s₁.heap.objs.size s.heap (bindL (envOfC d.name d.scope s₁.heap.objs.size fa cd).kindOf [(x, .ref a)] fun _ => none) →
      Cl s₁.heap.objs.size (cellsFrom (s₁.heap.objs.size + 1) d.scope.names []) s.heap (bindC (envOfC d.name d.scope s₁.heap.objs.size fa cd).kindOf [(x, .ref a)] fun _ => none) →
      wpAny (model l.prog w) (callerA.deeper (envOfC d.name d.scope s₁.heap.objs.size fa cd)) (execs d.body (envOfC d.name d.scope s₁.heap.objs.size fa cd))
        (fun f s' => f = .ret (.bool true) ∧ OldK s₁.heap s'.heap ∧ s'.os = s₁.os ∧ AllBare s'.gens) (fun _ _ => False) s) :
    WalkO q loose XP YP l.row.toRowW d [] (fun f vs => PySem.call f vs) := by
  intro w s₀ s₁ mg mb G Y fa o pm cd doc dV kV ho hd hcd hD hmg hg args vals as hpre hlay hrd hwl hlo
  obtain rfl : dV = .none := Dflts.none hD hdf
  obtain rfl : kV = .none := Dflts.noKw hD
  obtain ⟨a, vs, ns, rfl, rfl, hobj, hints, hlen⟩ := script_of hn hpre hwl
  refine enter_call ?_
  refine call_cells_ret (o := o) (by rw [depth_caller]; decide) ho (fd_plain hd) G.T.nolimit hcd (hbind pm cd doc (.ref a)) (fun y hy => ?_) (fun h₁ tk F X => ?_) hco hgen hk
  · obtain rfl : y = (x, Value.ref a) := List.mem_singleton.mp hy
    rcases hx with e | e
    · exact .inl e
    · exact .inr ⟨e, cellsFrom_some _ _ _ (.inl e)⟩
  · refine wpAny_mono (body w s₀ s₁ { s₁ with heap := h₁, toks := tk } mg mb fa o pm cd doc a vs ns G Y ho (fd_plain hd) hcd hmg hobj hints hlen hg rfl F X) (fun f s' hq => ?_) (fun _ _ hq => hq)
    obtain ⟨rfl, h2, h3, h4⟩ := hq
    exact ⟨.inl ⟨.bool true, .bool true, [], rfl, fun _ => rfl, .bool true, post_true l _, fun _ => ⟨List.Pairwise.nil, fun _ hm => (nomatch hm)⟩⟩, h2, h3, h4⟩

/-- the same from a codeAny of the CALL (for a layer whose function contracts speak of calls) -/
theorem attach_call {l : OpenLaw} {n : Nat} {q : Program} {loose : List Str} {XP : (Str → Option Value) → Heap → Prop} {YP : World → Heap → Prop} {d : DefRec}
    (hn : l.most = some n) (hdf : d.params.defaults = [])
    (call : ∀ (w : World) (s₀ s₁ : Shared) (mg mb : Str → Option Value) (fa : Addr) (o : Obj) (pm cd doc : Value) (a : Addr) (vs : List Value) (ns : List Int),
      Ground q loose [] XP w s₀ mg mb s₁.heap → YP w s₁.heap →
      s₁.heap.get? fa = some o → o.data = .func (docDef d.name d.params d.body d.scope pm cd doc) → s₁.heap.CodeRec cd d.name → mg d.name = some (.ref fa) →
      s₁.heap.get? a = some { cls := .type "list", data := .seq vs.toArray } → IntsAre vs ns → ns.length ≤ n → s₁.gens = #[] →
      codeAny (model l.prog w) callerA (.call (.ref fa) ⟨[.ref a], []⟩) (fun r s' => r = .ok (.ret (.bool true)) ∧ OldK s₁.heap s'.heap ∧ s'.os = s₁.os ∧ AllBare s'.gens) s₁) :
    WalkO q loose XP YP l.row.toRowW d [] (fun f vs => PySem.call f vs) := by
  intro w s₀ s₁ mg mb G Y fa o pm cd doc dV kV ho hd hcd hD hmg hg args vals as hpre hlay hrd hwl hlo
  obtain rfl : dV = .none := Dflts.none hD hdf
  obtain rfl : kV = .none := Dflts.noKw hD
  obtain ⟨a, vs, ns, rfl, rfl, hobj, hints, hlen⟩ := script_of hn hpre hwl
  refine enter_call (codeAny_mono (call w s₀ s₁ mg mb fa o pm cd doc a vs ns G Y ho (fd_plain hd) hcd hmg hobj hints hlen hg) fun r s' hq => ?_)
  obtain ⟨rfl, h2, h3, h4⟩ := hq
  exact ⟨.inl ⟨.bool true, .bool true, [], rfl, fun _ => rfl, .bool true, post_true l _, fun _ => ⟨List.Pairwise.nil, fun _ hm => (nomatch hm)⟩⟩, h2, h3, h4⟩

/-- the same where the top left finished generators (o_head chose holds_openN): nothing may have changed at all and no generator may be left -/
theorem attachN {l : OpenLaw} {n : Nat} {q : Program} {loose : List Str} {XP : (Str → Option Value) → Heap → Prop} {YP : World → Heap → Prop} {d : DefRec} {x : Str}
    (hn : l.most = some n) (hdf : d.params.defaults = [])
    (hbind : ∀ pm cd doc v : Value, bindArgs (docDef d.name d.params d.body d.scope pm cd doc) ⟨[v], []⟩ = pure [(x, v)])
    (hx : d.scope.names.lookup x = some .local ∨ d.scope.names.lookup x = some .cell)
    (hk : d.scope.kind = .function) (hco : d.scope.isCoroutine = false) (hgen : d.scope.isGenerator = false)
    (body : ∀ (w : World) (s₀ s₁ s : Shared) (mg mb : Str → Option Value) (fa : Addr) (o : Obj) (pm cd doc : Value) (a : Addr) (vs : List Value) (ns : List Int),
      Ground q loose [] XP w s₀ mg mb s₁.heap → YP w s₁.heap →
      s₁.heap.get? fa = some o → o.data = .func (docDef d.name d.params d.body d.scope pm cd doc) → s₁.heap.CodeRec cd d.name → mg d.name = some (.ref fa) →
      s₁.heap.get? a = some { cls := .type "list", data := .seq vs.toArray } → IntsAre vs ns → ns.length ≤ n →
      s.gens = #[] → s.os = s₁.os →
      Fr s₁.heap s₁.heap.objs.size s.heap (bindL (envOfC d.name d.scope s₁.heap.objs.size fa cd).kindOf [(x, .ref a)] fun _ => none) →
      Cl s₁.heap.objs.size (cellsFrom (s₁.heap.objs.size + 1) d.scope.names []) s.heap (bindC (envOfC d.name d.scope s₁.heap.objs.size fa cd).kindOf [(x, .ref a)] fun _ => none) →
      wpAny (model l.prog w) (callerA.deeper (envOfC d.name d.scope s₁.heap.objs.size fa cd)) (execs d.body (envOfC d.name d.scope s₁.heap.objs.size fa cd))
        (fun f s' => f = .ret (.bool true) ∧ (∀ b o, s₁.heap.get? b = some o → s'.heap.get? b = some o) ∧ s'.os = s₁.os ∧ s'.gens = #[]) (fun _ _ => False) s) :
    WalkN q loose XP YP l.row.toRowW d [] (fun f vs => PySem.call f vs) := by
  intro w s₀ s₁ mg mb G Y fa o pm cd doc dV kV ho hd hcd hD hmg hg args vals as hpre hlay hrd hwl hlo
  obtain rfl : dV = .none := Dflts.none hD hdf
  obtain rfl : kV = .none := Dflts.noKw hD
  obtain ⟨a, vs, ns, rfl, rfl, hobj, hints, hlen⟩ := script_of hn hpre hwl
  refine enter_callW ?_
  refine call_cells_ret (o := o) (by rw [depth_caller]; decide) ho (fd_plain hd) G.T.nolimit hcd (hbind pm cd doc (.ref a)) (fun y hy => ?_) (fun h₁ tk F X => ?_) hco hgen hk
  · obtain rfl : y = (x, Value.ref a) := List.mem_singleton.mp hy
    rcases hx with e | e
    · exact .inl e
    · exact .inr ⟨e, cellsFrom_some _ _ _ (.inl e)⟩
  · refine wpAny_mono (body w s₀ s₁ { s₁ with heap := h₁, toks := tk } mg mb fa o pm cd doc a vs ns G Y ho (fd_plain hd) hcd hmg hobj hints hlen hg rfl F X) (fun f s' hq => ?_) (fun _ _ hq => hq)
    obtain ⟨rfl, h2, h3, h4⟩ := hq
    exact ⟨.inl ⟨.bool true, .bool true, [], rfl, fun _ => rfl, .bool true, post_true l _, fun _ => ⟨List.Pairwise.nil, fun _ hm => (nomatch hm)⟩⟩, h2, h3, h4⟩

/-! ### rules over ANY heap (no ledger) from facts about the written part K: the library's own take a ledger (News) for what they write -/
section
variable {prog : Program} {w : World} {A : Around} {E : Value → Shared → Prop} {s : Shared} {K : Frag}

/-- a def of the module, or a method (qual 'C.m'), entered: the frame is the next address; cells behind it -/
theorem call_fn {R : Result → Shared → Prop} {name qual : Str} {params : Arguments} {body : List Stmt} {scope : Scope} {dV kV doc pm cdv ct oc : Value} {an od : Option Addr} {osl : Array (Option Value)} {f : Addr} {args : Args} {binds : List (Str × Value)}
    (X : K.In s.heap) (hlim : s.heap.NoLimit) (ho : K.lookup f = some ⟨oc, od, .func (fnOf name qual params body scope dV kV doc pm an cdv ct), osl⟩) (hcd : codeIn K cdv qual = true) (hroom : A.depth < recursionLimit)
    (hbind : BindsTo s (fnOf name qual params body scope dV kV doc pm an cdv ct) args binds)
    (hkind : (binds.all fun y => scope.names.lookup y.1 == some .local || scope.names.lookup y.1 == some .cell) = true)
    (h : ∀ s₁, InCallC s s.heap.objs.size (bindL (envOfC qual scope s.heap.objs.size f cdv).kindOf binds fun _ => none) (cellsFrom (s.heap.objs.size + 1) scope.names [])
        (bindC (envOfC qual scope s.heap.objs.size f cdv).kindOf binds fun _ => none) s₁ →
      wpAny (model prog w) (A.deeper (envOfC qual scope s.heap.objs.size f cdv)) (execs body (envOfC qual scope s.heap.objs.size f cdv))
        (fun fl s' => R (.ok (.ret (match fl with | .ret v => v | _ => .none))) s')
        (fun e s' => wpAny (model prog w) (A.deeper (envOfC qual scope s.heap.objs.size f cdv)) (leaving (envOfC qual scope s.heap.objs.size f cdv) e) (fun _ s'' => R (.error e) s'') (fun e' s'' => R (.error e') s'') s') s₁)
    (hco : scope.isCoroutine = false) (hgen : scope.isGenerator = false) (hk : scope.kind = .function) : codeAny (model prog w) A (.call (.ref f) args) R s := by
  refine codeAny_call_function hroom (X _ _ ho) rfl hco hgen rfl (codeRec_of X hcd) (hbind _ _ _ _ ?_)
  refine wpAny_newFunctionEnv_cells hk (kindsX hkind _) fun env he s₁ x => ?_
  subst he
  exact ⟨hlim.keeps x.toInCall.keep, codeAny_func (h s₁ x)⟩

/-- C(..): dict at size, instance at size + 1, then __init__ -/
theorem make_obj {R : Result → Shared → Prop} {C fI : Addr} {rest : List Value} {kw : List (Str × Value)}
    (X : K.In s.heap) (hm : makesIn K C = true) (hi : findIn K (.ref C) "__init__" = some (some (.ref fI))) (hf : isFn K (.ref fI) = true)
    (h : codeAny (model prog w) (A.under (.builtin "type.__call__" ⟨.ref C :: rest, kw⟩)) (.call (.ref fI) ⟨.ref (s.heap.objs.size + 1) :: rest, kw⟩) (InitBack (s.heap.objs.size + 1) R)
      { s with heap := (s.heap.push emptyDict).push (instObj C s.heap.objs.size) }) : codeAny (model prog w) A (.call (.ref C) ⟨rest, kw⟩) R s := by
  obtain ⟨hh, g, d, t, os⟩ := s
  exact make_core (makes_of X hm) (looks_findIn X hi) (fun self => bind_fn X self (beq_iff_eq.mp hf)) (.inl rfl) h

/-- x.name where the instance's dict holds the name and the class does not -/
theorem get_field {x C : Addr} {ox : Obj} {es : List DictEntry} {n : Nat} {name : Str} {expr : Bool} {v : Value} {Q : Value → Shared → Prop}
    (X : K.In s.heap) (I : PySem.W.InstAt s.heap x ox C (some (dictOf es n))) (hg : plainGet K C name = true) (hh : hasDictIn K C = true) (ha : findIn K (.ref C) name = some none)
    (hl : getL name es = some (some v)) (hv : handedIn v = true) (h : Q v { s with toks := s.toks + 1 }) : wpAny (model prog w) A (getAttr (.ref x) name expr) Q E s :=
  get_value X I (plainGet_of hg).1 (findObj_own hh ha rfl hl) hv h

/-- x.m(..): the method found in the class -/
theorem get_method {x C f : Addr} {ox : Obj} {es : List DictEntry} {n : Nat} {name : Str} {pl : Sem Bool} {Q : Value × List Value → Shared → Prop}
    (X : K.In s.heap) (I : PySem.W.InstAt s.heap x ox C (some (dictOf es n))) (hg : plainGet K C name = true) (hf : findIn K (.ref C) name = some (some (.ref f))) (ht : isFn K (.ref f) = true)
    (hl : getL name es = some none) (h : Q (.ref f, [.ref x]) s) : wpAny (model prog w) A (getMethod (.ref x) name pl) Q E s :=
  method_fn X I (plainGet_of hg).1 (plainGet_of hg).2 hf (beq_iff_eq.mp ht) (by show (lookIn name (dictOf es n)).map _ = _; rw [lookIn_dict, hl]; rfl) h

/-! the whole heap as the ledger: makes every rule that writes through a ledger a rule over any heap -/
def noObjs (h : Heap) : Heap := { h with objs := #[] }
theorem noObjs_get (h : Heap) (b : Addr) : (noObjs h).get? b = none := by
  cases e : (noObjs h).get? b with
  | none => rfl
  | some o => exact absurd (Heap.lt_size e) (Nat.not_lt_zero _)
def ledger (h : Heap) (L d : Addr) : List (Addr × Obj) := (List.range h.objs.size).filterMap fun a => if a = L ∨ a = d then none else (h.get? a).map fun o => (a, o)
theorem mem_ledger {h : Heap} {L d a : Addr} {o : Obj} : (a, o) ∈ ledger h L d ↔ a ≠ L ∧ a ≠ d ∧ h.get? a = some o := by
  unfold ledger
  rw [List.mem_filterMap]
  constructor
  · rintro ⟨b, _, e⟩
    split at e
    · cases e
    · rename_i hb
      obtain ⟨o', ho, e'⟩ := Option.map_eq_some_iff.mp e
      cases e'
      exact ⟨fun q => hb (.inl q), fun q => hb (.inr q), ho⟩
  · rintro ⟨n1, n2, ho⟩
    refine ⟨a, List.mem_range.mpr (Heap.lt_size ho), ?_⟩
    rw [if_neg (show ¬ (a = L ∨ a = d) from fun q => q.elim n1 n2), ho] <;> rfl
theorem news_ledger {h : Heap} {L d : Addr} {od : Obj} (hne : d ≠ L) (ho : h.get? d = some od) : News (noObjs h) L h ([] ++ (d, od) :: ledger h L d) := by
  rintro ⟨a, o⟩ hp
  rcases List.mem_cons.mp hp with e | hp
  · cases e
    exact ⟨ho, hne, noObjs_get _ _⟩
  · obtain ⟨n1, n2, e⟩ := mem_ledger.mp hp
    exact ⟨e, n1, noObjs_get _ _⟩
theorem fr_all {h : Heap} {L : Addr} {m : Str → Option Value} (n : h.Ns L m) : Fr (noObjs h) L h m :=
  ⟨n, fun b o e => (by rw [noObjs_get] at e; cases e), Nat.zero_le _⟩
/-- Upd of the head entry (for append_K, setItem_K ..) -/
theorem upd_ledger {h : Heap} {L d : Addr} {o o' : Obj} : Upd d o o' ((d, o) :: ledger h L d) ((d, o') :: ledger h L d) :=
  .head fun ⟨_, _⟩ hp => (mem_ledger.mp hp).2.1

/-- x.name = v over any heap: L is any namespace of the heap (the frame's, say): its map stays, its object is not told; all else but the dict stays -/
theorem set_field {x C dx L : Addr} {ox : Obj} {m : Str → Option Value} {es es' : List DictEntry} {n n' : Nat} {name : Str} {v : Value} {Q : Unit → Shared → Prop}
    (X : K.In s.heap) (I : PySem.W.InstAt s.heap x ox C (some (dictOf es n))) (hd : ox.dict = some dx) (hL : s.heap.Ns L m) (hne : dx ≠ L)
    (hs : findIn K (.ref C) "__setattr__" = some (some (.builtin "object.__setattr__"))) (hp : plainOver K C = true) (ht : takerIn K C name = some none) (hh : hasDictIn K C = true) (hl : (getL name es).isSome = true)
    (e : (putL name (PyData.keyHash w.params name) (.str name (s.toks + 1)) v es, putN name es n) = (es', n')) (hz : es'.length ≤ 1000)
    (h : ∀ h' : Heap, h'.Ns L m → h'.get? dx = some (dictOf es' n') → (∀ b o, b ≠ dx → b ≠ L → s.heap.get? b = some o → h'.get? b = some o) → Q () { s with heap := h', toks := s.toks + 2 }) :
    wpAny (model prog w) A (setAttr (.ref x) name v) Q E s := by
  obtain ⟨e1, e2⟩ := Prod.mk.inj e
  have hdx : s.heap.get? dx = some (dictOf es n) := by
    have := I.dict
    rw [hd] at this
    exact this
  refine set_plain X I hs (osa_dict (s := { s with toks := s.toks + 1 }) (h₀ := noObjs s.heap) (L := L) (m := m) (od := dictOf es n) (od' := dictOf es' n') (es := es') (n := n') (pre := []) (post := ledger s.heap L dx)
    (fr_all hL) (news_ledger hne hdx) X I hd hp ht hh hl (fun _ q => nomatch q) (fun ⟨_, _⟩ q => (mem_ledger.mp q).2.1) (by rw [putName_dict, e1, e2]) rfl hz fun h' F' N' => ?_)
  exact h h' F'.ns (N'.get (List.Mem.head _)) fun b o n1 n2 ho => N'.get (List.Mem.tail _ (mem_ledger.mpr ⟨n2, n1, ho⟩))
end
end Att

namespace L2
open PySem PySem.Spec PyProof.Rows

theorem vals_ints : ∀ {vs : List Value} {ns : List Int}, IntsAre vs ns → Vals (ns.map V.int) vs
  | _, _, .nil => .nil
  | _, _, .cons n t h => .cons ⟨t, rfl⟩ (vals_ints h)

/-- nothing is tracked but the script, known to the object (or it is an object of the module) -/
def Only (H : Hp) : Prop := ∀ b, H b = none ∨ ∃ o xs, H b = some (.frz o (.lst xs))

/-- THE HEAD: the law's promise, at the heap behind the top. F, the promise of the law's def, may use that base is part of the heap (so K.In base, base.Ns mainGlobals mg stand in Mod) -/
theorem law_call {P : Program} {w : World} {K : PySem.W.Frag} {mg mb : Str → Option Value} {CX : CXT} {k : Nat} {fa a : Addr} {fd : FuncData} {x : Str} {sp : Sp} {s₁ : Shared} {vs : List Value} {ns : List Int}
    (KX : K.In s₁.heap) (hns : s₁.heap.Ns mainGlobals mg) (hb : s₁.heap.Ns builtinsNs mb) (hbb : ∀ x : Str, x ≠ "__name__" → mb x = bootBuiltins x) (hlim : s₁.heap.NoLimit) (hg : s₁.gens = #[])
    (ha : s₁.heap.get? a = some { cls := .type "list", data := .seq vs.toArray }) (hi : IntsAre vs ns) (hl : ns.length ≤ sizeLine) (hr : Room k callerA)
    (F : ∀ base : Heap, K.In base → base.Ns mainGlobals mg → FnOk P w K mg base CX k fa fd [x] sp) (hbind : ∀ (s : Shared) (u : Value), BindsTo s fd ⟨[u], []⟩ [(x, u)])
    (hsp : ∀ H : Hp, Only H → SqL K H a (ns.map V.int) → sp [.ref a] H (fun v _ => v = .bl true) fun _ _ _ => False)
    (hCX : ∀ H e s', CX [] H s₁ (fun _ _ _ => False) e s' → False) :
    codeAny (model P w) callerA (.call (.ref fa) ⟨[.ref a], []⟩) (fun r s' => r = .ok (.ret (.bool true)) ∧ OldK s₁.heap s'.heap ∧ s'.os = s₁.os ∧ AllBare s'.gens) s₁ := by
  have rv := vals_ints hi
  have lenV := hi.length
  -- from an abstract heap in which nothing but the script may be tracked
  have core : ∀ H : Hp, Only H → SqL K H a (ns.map V.int) → HOk P w H s₁.heap → (∀ b, H b ≠ none → b = a) → (H a ≠ none → K.lookup a = none) →
      codeAny (model P w) callerA (.call (.ref fa) ⟨[.ref a], []⟩) (fun r s' => r = .ok (.ret (.bool true)) ∧ OldK s₁.heap s'.heap ∧ s'.os = s₁.os ∧ AllBare s'.gens) s₁ := by
    intro H hO hS hok hA hK
    have base_of : ∀ {b : Addr} {o : Obj}, s₁.heap.get? b = some o → H b = none → (hidT s₁.heap H).get? b = some o := fun e n => hidT_get e n
    have noA : ∀ {b : Addr} {o : Obj} {es : Array DictEntry} {ep : Nat}, s₁.heap.get? b = some o → o.data = .dict es ep → H b = none := fun {b o es ep} e d => by
      cases q : H b with
      | none => rfl
      | some u =>
        have e' : b = a := hA b (by rw [q]; simp)
        subst e'
        rw [ha] at e; cases e
        have d' : Data.seq vs.toArray _ = Data.dict es ep := d
        cases d'
    have nsK : ∀ {b : Addr} {m : Str → Option Value}, s₁.heap.Ns b m → (hidT s₁.heap H).Ns b m := fun {b m} ⟨o, es, ep, e, d, r⟩ => ⟨o, es, ep, base_of e (noA e d), d, r⟩
    have hKb : K.In (hidT s₁.heap H) := fun b o e => base_of (KX b o e) (by
      cases q : H b with
      | none => rfl
      | some u =>
        have e' : b = a := hA b (by rw [q]; simp)
        subst e'
        rw [hK (by rw [q]; simp)] at e; cases e)
    have hM : Mod K mg (hidT s₁.heap H) := ⟨hKb, nsK hns, ⟨mb, nsK hb, hbb⟩, let ⟨mc, h1, h2⟩ := hlim; ⟨mc, nsK h1, h2⟩⟩
    have e0 : Env0 P w K mg (hidT s₁.heap H) callerA [] s₁ H := ⟨rfl, hM, fun b o e => of_hidT e, Nat.le_of_eq (hidT_size _ _), trivial, fun b hb => absurd (show b ∈ ([] : List Addr) from hb) (by simp), hok, .of_eq hg⟩
    refine codeAny_mono ((F _ hKb (nsK hns)).run callerA [] s₁ H ⟨[.ref a], []⟩ [.ref a] [.ref a] _ _ hr e0 (hbind s₁ (.ref a)) (.cons rfl .nil) (hsp H hO hS)) fun r s' h => ?_
    cases r with
    | error e => exact (hCX H e s' h).elim
    | ok fl =>
      cases fl with
      | next => exact False.elim h
      | brk => exact False.elim h
      | cont => exact False.elim h
      | ret u =>
        obtain ⟨v, H', os, bare, un, hok', r', q⟩ := h
        have q' : v = .bl true := q
        subst q'
        obtain rfl : u = Value.bool true := r'
        refine ⟨rfl, OldK.of_keep fun b o e => ?_, os, bare⟩
        cases q : H b with
        | none => exact un.keep b o e q (by intro z; exact absurd (show b ∈ ([] : List Addr) from z) (by simp)) (by simp)
        | some u =>
          rcases hO b with z | ⟨ob, xs, z⟩
          · rw [q] at z; cases z
          · have z2 := un.frzs b ob _ z
            obtain ⟨e1, _⟩ := hok b _ z
            obtain ⟨e2, _⟩ := hok' b _ z2
            rw [e] at e1; cases e1
            exact e2
  cases hk : K.lookup a with
  | some o =>
    -- the script is one of the module's own objects
    have e := KX a o hk
    rw [ha] at e
    cases e
    refine core (fun _ => none) (fun _ => .inl rfl) (.inr ⟨_, vs.toArray, _, hk, rfl, rfl, rfl, by rw [List.size_toArray, lenV]; exact hl, by simpa using rv⟩) (fun b u z => by have z' : (none : Option HO) = some u := z; cases z') (fun b z => absurd rfl z) fun z => absurd rfl z
  | none =>
    refine core (fun b => if b = a then some (.frz { cls := .type "list", data := .seq vs.toArray } (.lst (ns.map V.int))) else none) (fun b => ?_) (.inl (.inr ⟨{ cls := .type "list", data := .seq vs.toArray }, if_pos rfl⟩)) (fun b u z => ?_) (fun b z => ?_) fun _ => hk
    · by_cases hb : b = a
      · exact .inr ⟨_, _, if_pos hb⟩
      · exact .inl (if_neg hb)
    · by_cases hb : b = a
      · have z' := (if_pos hb).symm.trans z
        cases z'
        subst hb
        exact ⟨ha, by rw [List.length_map]; exact hl, vs, _, rv, ha⟩
      · have z' := (if_neg hb).symm.trans z
        cases z'
    · by_cases hb : b = a
      · exact hb
      · exact absurd (if_neg hb) z
end L2

namespace L2
open PySem PySem.Spec PyProof.Rows

abbrev KOf {K : PySem.W.Frag} {h : Heap} (_ : K.In h) : PySem.W.Frag := K

/-- the goal that k_head leaves (case hc), from the law's promise. F gives the function object fd (K's own) once, then the promise over every base -/
theorem walk_of {l : PySem.W.OpenLaw} {n k : Nat} {q : Program} {loose : List Str} {XP : (Str → Option Value) → Heap → Prop} {YP : World → Heap → Prop} {d : DefRec} {K : Params → PySem.W.Frag} {CX : World → CXT} {sp : World → Sp} {x : Str}
    (hn : l.most = some n) (hn2 : n ≤ sizeLine) (hdf : d.params.defaults = []) (hr : Room k callerA)
    (hY : ∀ (w : World) (h : Heap), YP w h → (K w.params).In h)
    (F : ∀ (w : World) (mg : Str → Option Value) (fa : Addr) (h : Heap), (K w.params).In h → h.Ns mainGlobals mg → mg d.name = some (.ref fa) →
      ∃ fd : FuncData, (∀ (s : Shared) (u : Value), BindsTo s fd ⟨[u], []⟩ [(x, u)]) ∧
        ∀ base : Heap, (K w.params).In base → base.Ns mainGlobals mg → FnOk l.prog w (K w.params) mg base (CX w) k fa fd [x] (sp w))
    (hsp : ∀ (w : World) (H : Hp) (a : Addr) (ns : List Int), ns.length ≤ n → Only H → SqL (K w.params) H a (ns.map V.int) → sp w [.ref a] H (fun v _ => v = .bl true) fun _ _ _ => False)
    (hCX : ∀ (w : World) (H : Hp) (s : Shared) (e : Value) (s' : Shared), CX w [] H s (fun _ _ _ => False) e s' → False) :
    PySem.W.WalkO q loose XP YP l.row.toRowW d [] (fun f vs => PySem.call f vs) := by
  refine Att.attach_call hn hdf fun w s₀ s₁ mg mb fa o pm cd doc a vs ns G Y ho hd hcd hmg hobj hints hlen hg => ?_
  have KX := hY w _ Y
  obtain ⟨fd, hb, hF⟩ := F w mg fa _ KX G.T.g hmg
  exact law_call KX G.T.g G.T.b G.T.builtins G.T.nolimit hg hobj hints (Nat.le_trans hlen hn2) hr hF hb (fun H hO hS => hsp w H a ns hlen hO hS) fun H e s' => hCX w H s₁ e s'
/-- the same where the promise hangs on the written part alone: (sp := My.sp_law), no hole under a binder -/
theorem walk_ofK {l : PySem.W.OpenLaw} {n k : Nat} {q : Program} {loose : List Str} {XP : (Str → Option Value) → Heap → Prop} {YP : World → Heap → Prop} {d : DefRec} {K : Params → PySem.W.Frag} {CX : CXT} {sp : PySem.W.Frag → Sp} {x : Str}
    (hn : l.most = some n) (hn2 : n ≤ sizeLine) (hdf : d.params.defaults = []) (hr : Room k callerA)
    (hY : ∀ (w : World) (h : Heap), YP w h → (K w.params).In h)
    (F : ∀ (w : World) (mg : Str → Option Value) (fa : Addr) (h : Heap), (K w.params).In h → h.Ns mainGlobals mg → mg d.name = some (.ref fa) →
      ∃ fd : FuncData, (∀ (s : Shared) (u : Value), BindsTo s fd ⟨[u], []⟩ [(x, u)]) ∧
        ∀ base : Heap, (K w.params).In base → base.Ns mainGlobals mg → FnOk l.prog w (K w.params) mg base CX k fa fd [x] (sp (K w.params)))
    (hsp : ∀ (K : PySem.W.Frag) (H : Hp) (a : Addr) (ns : List Int), ns.length ≤ n → Only H → SqL K H a (ns.map V.int) → sp K [.ref a] H (fun v _ => v = .bl true) fun _ _ _ => False)
    (hCX : ∀ (H : Hp) (s : Shared) (e : Value) (s' : Shared), CX [] H s (fun _ _ _ => False) e s' → False) :
    PySem.W.WalkO q loose XP YP l.row.toRowW d [] (fun f vs => PySem.call f vs) :=
  walk_of (K := K) (CX := fun _ => CX) (sp := fun w => sp (K w.params)) hn hn2 hdf hr hY F (fun w H a ns h1 h2 h3 => hsp (K w.params) H a ns h1 h2 h3) fun _ H s e s' => hCX H s e s'
end L2



/-! SHORT WORDS over the layer: a def of the text, its body, what a loop and a test want. -/
namespace L2
open PySem PySem.Spec PyProof.Rows

/-! ### the text by places -/
/-- the j-th statement of a class's body -/
def inClass (s : Stmt) (j : Nat) : Stmt := match s with
  | .ClassDef _ _ _ body _ _ _ _ _ _ _ => body.getD j (.Pass ⟨0, 0, 0, 0⟩)
  | _ => .Pass ⟨0, 0, 0, 0⟩
def defArgs (s : Stmt) : Arguments := match s with
  | .FunctionDef _ a _ _ _ _ _ _ _ _ => a
  | _ => { posonlyargs := [], args := [], vararg := none, kwonlyargs := [], kw_defaults := [], kwarg := none, defaults := [] }
def defBody (s : Stmt) : List Stmt := match s with
  | .FunctionDef _ _ b _ _ _ _ _ _ _ => b
  | _ => []
def defScope (s : Stmt) : Scope := match s with
  | .FunctionDef _ _ _ _ _ _ sc _ _ _ => sc
  | _ => { kind := .function, names := [], isGenerator := false, isCoroutine := false }

/-! ### no exception leaves a def -/
abbrev CX0 : CXT := fun _ _ _ _ _ _ => False
abbrev E0 : XK := fun _ _ _ => False
theorem pass0 {X : Cx} : Passes CX0 X E0 := fun _ _ _ _ _ _ _ h => h.elim

/-! ### a def (or method) of the text as it stands behind the top -/
structure Fun (K : PySem.W.Frag) (x qual : Str) (st : Stmt) (f : Addr) (fd : FuncData) : Prop where
  ex : ∃ (oc : Value) (od : Option Addr) (kV doc pm : Value) (an : Option Addr) (cdv ct : Value) (osl : Array (Option Value)),
    fd = PySem.W.fnOf x qual (defArgs st) (defBody st) (defScope st) .none kV doc pm an cdv ct ∧ K.lookup f = some ⟨oc, od, .func fd, osl⟩ ∧ PySem.W.codeIn K cdv qual = true
  kp : PySem.W.keepIn K (.ref f) = true
section
variable {P : Program} {w : World} {K : PySem.W.Frag} {mg : Str → Option Value} {base : Heap}
/-- THE RULE for a def: its body as a term of rules, and the reading of that term -/
theorem Fun.ok {x qual : Str} {st : Stmt} {f : Addr} {fd : FuncData} {N ps : List Str} {k : Nat} {sp : Sp} (F : Fun K x qual st f fd) (S : FnScope N ps (defScope st)) (len : ∀ vs H Q E, sp vs H Q E → vs.length = ps.length)
    (hbody : ∀ (cdv : Value) (A : Around) (outer : List Env) (s : Shared) (H : Hp) (vs : List V) (Q : VK) (E : XK), Room k (A.deeper (envOfC qual (defScope st) s.heap.objs.size f cdv)) → sp vs H Q E →
      ∃ t, PSs (cxOf CX0 P w K mg base N qual (defScope st) f cdv A outer s H E).nox (defBody st) t ∧ t { nx := fun _ H' => Q .non H', rt := Q } (start N vs) H) : FnOk P w K mg base CX0 (k + 1) f fd ps sp := by
  obtain ⟨oc, od, kV, doc, pm, an, cdv, ct, osl, rfl, lk, hcd⟩ := F.ex
  refine fn_of lk hcd S len fun A outer s H vs Q E hr hsp => ?_
  obtain ⟨t, h, q⟩ := hbody cdv A outer s H vs Q E hr hsp
  exact ⟨t, h.nox, q⟩
/-- how its arguments bind (no defaults): h is «fun _ _ _ _ _ _ us hl => match us, hl with | [_, _], _ => rfl», one _ a parameter -/
theorem Fun.binds {x qual : Str} {st : Stmt} {f : Addr} {fd : FuncData} {ps : List Str} (F : Fun K x qual st f fd)
    (h : ∀ (kV doc pm : Value) (an : Option Addr) (cdv ct : Value) (us : List Value), us.length = ps.length → bindArgs (PySem.W.fnOf x qual (defArgs st) (defBody st) (defScope st) .none kV doc pm an cdv ct) ⟨us, []⟩ = pure (ps.zip us)) : Binds K fd ps [] := by
  obtain ⟨oc, od, kV, doc, pm, an, cdv, ct, osl, rfl, lk, hcd⟩ := F.ex
  exact .all (h kV doc pm an cdv ct)
theorem fun_mk {x qual : Str} {st : Stmt} {f : Addr} {oc : Value} {od an : Option Addr} {osl : Array (Option Value)} {kV doc pm cdv ct : Value} (l : K.lookup f = some ⟨oc, od, .func (PySem.W.fnOf x qual (defArgs st) (defBody st) (defScope st) .none kV doc pm an cdv ct), osl⟩)
    (c : PySem.W.codeIn K cdv qual = true) (k : PySem.W.keepIn K (.ref f) = true) : Fun K x qual st f (PySem.W.fnOf x qual (defArgs st) (defBody st) (defScope st) .none kV doc pm an cdv ct) := ⟨⟨oc, od, kV, doc, pm, an, cdv, ct, osl, rfl, l, c⟩, k⟩
end
theorem hu_of {A : Around} {k : Nat} (hr : Room k A) : A.units + 1 < cLine := Nat.lt_of_le_of_lt (Nat.add_le_add_left (by decide : 1 ≤ 64) _) hr.units
theorem small1000 {n : Nat} (h : n ≤ 1000) : n < sizeLine := Nat.lt_of_le_of_lt h (by decide)

/-! ### expressions in short: the name that stands in the i-th slot -/
section
variable {X : Cx}
theorem pv (i : Nat) {x : Str} {pos : Pos} (hN : X.N[i]? = some x := by rfl) (hv : Vis X.env.scope x := by first | exact Or.inl rfl | exact Or.inr (Or.inl rfl) | exact Or.inr (Or.inr rfl)) (hd : (x == ("__debug__" : Str)) = false := by decide)
    (hcd : (x == ("__classdict__" : Str)) = false := by decide) : PE X (.Name x pos) (tVar i) := pe_var hN hv hd hcd
/-- len of a dict -/
theorem call_lenD : CallR X (.builtin "len") (fun xs H Q => ∃ a kvs, xs = [V.ref a] ∧ H a = some (.dK kvs) ∧ Q (.int kvs.length) H) := by
  intro pins s σ H xs us Q I r h
  obtain ⟨a, kvs, rfl, ha, q⟩ := h
  obtain ⟨u, rfl, ru⟩ := vals1 r
  cases ru
  exact d_len I (.inl ha) fun t s' I' => ⟨.int kvs.length, H, I', ⟨t, rfl⟩, q⟩
end

/-! ### tests -/
theorem iteF {A B : Prop} (h : B) : if false = true then A else B := by
  rw [if_neg Bool.false_ne_true]
  exact h
theorem iteT {A B : Prop} (h : A) : if true = true then A else B := by
  rw [if_pos rfl]
  exact h
theorem ite2 {c A B : Prop} [Decidable c] (h1 : c → A) (h2 : ¬ c → B) : if c then A else B := by
  by_cases h : c
  · rw [if_pos h]
    exact h1 h
  · rw [if_neg h]
    exact h2 h
theorem iteNS {c A B : Prop} [Decidable c] (hc : c) (h : B) : if (!decide c) = true then A else B := by
  rw [decide_eq_true hc]
  exact iteF h

/-! ### heaps -/
/-- all that was tracked is as it was -/
def Same (H H' : Hp) : Prop := ∀ b o, H b = some o → H' b = some o
theorem Same.refl (H : Hp) : Same H H := fun _ _ h => h
theorem Same.trans {H H1 H2 : Hp} (a : Same H H1) (b : Same H1 H2) : Same H H2 := fun c o h => b c o (a c o h)
theorem Same.free {H H' : Hp} (e : Same H H') {l : Addr} (h : H' l = Option.none) : H l = Option.none := by
  cases q : H l with
  | none => rfl
  | some o =>
    rw [e l o q] at h
    cases h
theorem Same.seq {K : PySem.W.Frag} {H H' : Hp} {a : Addr} {xs : List V} (e : Same H H') (h : SqL K H a xs) : SqL K H' a xs := by
  rcases h with (h | ⟨o, h⟩) | h
  · exact .inl (.inl (e _ _ h))
  · exact .inl (.inr ⟨o, e _ _ h⟩)
  · exact .inr h

/-! ### a dict's pairs: keys that differ -/
section
variable {κ : Type} [DecidableEq κ]
theorem valV_not {kvs : List (κ × V)} {k : κ} (h : valV kvs k = none) : ¬ k ∈ kvs.map (·.1) := by
  intro m
  obtain ⟨p, hp, e⟩ := List.mem_map.mp m
  have q : (kvs.any fun kv => decide (kv.1 = k)) = true := List.any_eq_true.mpr ⟨p, hp, decide_eq_true e⟩
  rw [valV_any, h] at q
  exact absurd q (by simp)
theorem valV_in {kvs : List (κ × V)} {k : κ} {v : V} (h : valV kvs k = some v) : k ∈ kvs.map (·.1) := by
  have q : (kvs.any fun kv => decide (kv.1 = k)) = true := by
    rw [valV_any, h]
    all_goals rfl
  obtain ⟨p, hp, e⟩ := List.any_eq_true.mp q
  exact List.mem_map.mpr ⟨p, hp, of_decide_eq_true e⟩
theorem nd_snoc : ∀ {l : List κ} {k : κ}, l.Nodup → ¬ k ∈ l → (l ++ [k]).Nodup
  | [], k, _, _ => by simp
  | a :: r, k, h, hk => by
    obtain ⟨h1, h2⟩ := List.nodup_cons.mp h
    show (a :: (r ++ [k])).Nodup
    refine List.nodup_cons.mpr ⟨fun m => ?_, nd_snoc h2 fun m => hk (List.mem_cons.mpr (Or.inr m))⟩
    rcases List.mem_append.mp m with q | q
    · exact h1 q
    · exact hk (List.mem_cons.mpr (Or.inl (List.mem_singleton.mp q).symm))
theorem nd_putK {kvs : List (κ × V)} {k : κ} (v : V) (hn : (kvs.map (·.1)).Nodup) (h : valV kvs k = none) : ((putK kvs k v).map (·.1)).Nodup := by
  rw [putK_new v h, List.map_append]
  exact nd_snoc hn (valV_not h)
theorem dropK_pos {p : κ × V} {r : List (κ × V)} {k : κ} (e : p.1 = k) : dropK (p :: r) k = dropK r k := by
  unfold dropK
  rw [List.filter_cons, if_neg (by simp [e])]
theorem dropK_neg {p : κ × V} {r : List (κ × V)} {k : κ} (e : ¬ p.1 = k) : dropK (p :: r) k = p :: dropK r k := by
  unfold dropK
  rw [List.filter_cons, if_pos (by simp [e])]
theorem dropK_no : ∀ {kvs : List (κ × V)} {k : κ}, ¬ k ∈ kvs.map (·.1) → dropK kvs k = kvs
  | [], _, _ => rfl
  | p :: r, k, h => by
    have h' : ¬ k ∈ r.map (·.1) := fun m => by
      obtain ⟨q, hq, e⟩ := List.mem_map.mp m
      exact h (List.mem_map.mpr ⟨q, List.mem_cons.mpr (Or.inr hq), e⟩)
    rw [dropK_neg fun e => h (List.mem_map.mpr ⟨p, List.mem_cons.mpr (Or.inl rfl), e⟩), dropK_no h']
theorem dropK_mem {kvs : List (κ × V)} {k : κ} {p : κ × V} (h : p ∈ dropK kvs k) : p ∈ kvs := (List.mem_filter.mp h).1
theorem nd_dropK : ∀ {kvs : List (κ × V)} {k : κ}, (kvs.map (·.1)).Nodup → ((dropK kvs k).map (·.1)).Nodup
  | [], _, _ => List.nodup_nil
  | p :: r, k, h => by
    have h : (p.1 :: r.map (·.1)).Nodup := h
    obtain ⟨h1, h2⟩ := List.nodup_cons.mp h
    by_cases e : p.1 = k
    · rw [dropK_pos e]
      exact nd_dropK h2
    · rw [dropK_neg e]
      show (p.1 :: (dropK r k).map (·.1)).Nodup
      refine List.nodup_cons.mpr ⟨fun m => h1 ?_, nd_dropK h2⟩
      obtain ⟨q, hq, eq⟩ := List.mem_map.mp m
      exact List.mem_map.mpr ⟨q, dropK_mem hq, eq⟩
theorem dropK_len : ∀ {kvs : List (κ × V)} {k : κ}, (kvs.map (·.1)).Nodup → k ∈ kvs.map (·.1) → (dropK kvs k).length + 1 = kvs.length
  | [], _, _, m => by simp at m
  | p :: r, k, h, m => by
    have h : (p.1 :: r.map (·.1)).Nodup := h
    have m : k = p.1 ∨ k ∈ r.map (·.1) := List.mem_cons.mp m
    obtain ⟨h1, h2⟩ := List.nodup_cons.mp h
    by_cases e : p.1 = k
    · subst e
      rw [dropK_pos rfl, dropK_no h1]
      all_goals rfl
    · have m' : k ∈ r.map (·.1) := m.resolve_left fun z => e z.symm
      have q := dropK_len h2 m'
      rw [dropK_neg e, List.length_cons, List.length_cons]
      omega
end
end L2

set_option maxHeartbeats 4000000
/-! terms, their size, the paths of their steps: plain mathematics -/
namespace NC

/-- a term, over any kind of words -/
inductive T (W : Type) where
  | name (w : W)
  | place (n : Nat)
  | form (b : T W)
  | call (a b : T W)

variable {W : Type}

/-- how many parts -/
def T.size : T W → Nat
  | .name _ => 1
  | .place _ => 1
  | .form b => b.size + 1
  | .call a b => a.size + b.size + 1
/-- how deep -/
def T.deep : T W → Nat
  | .name _ => 1
  | .place _ => 1
  | .form b => b.deep + 1
  | .call a b => max a.deep b.deep + 1
theorem T.deep_le : ∀ t : T W, t.deep ≤ t.size
  | .name _ => Nat.le_refl _
  | .place _ => Nat.le_refl _
  | .form b => Nat.succ_le_succ b.deep_le
  | .call a b => by
    have h1 := a.deep_le
    have h2 := b.deep_le
    simp only [T.deep, T.size]
    omega
theorem T.size_pos : ∀ t : T W, 1 ≤ t.size
  | .name _ => Nat.le_refl _
  | .place _ => Nat.le_refl _
  | .form b => by simp only [T.size]; omega
  | .call a b => by simp only [T.size]; omega

def T.isForm : T W → Bool
  | .form _ => true
  | _ => false
/-- a call of a form -/
def T.isSpot : T W → Bool
  | .call a _ => a.isForm
  | _ => false
/-- the paths of the calls of forms, a call ahead of those in it -/
def T.spots : T W → List (List Int)
  | .name _ => []
  | .place _ => []
  | .form b => b.spots.map (0 :: ·)
  | .call a b => (if a.isForm then [[]] else []) ++ (a.spots.map (0 :: ·) ++ b.spots.map (1 :: ·))

/-- behind a path -/
def under (p : List Int) (t : T W) : List (List Int) := t.spots.map (p ++ ·)
theorem under_nil (t : T W) : under [] t = t.spots := by
  unfold under
  rw [show (fun x : List Int => [] ++ x) = id from funext fun x => List.nil_append x, List.map_id]
theorem under_cons (p : List Int) (k : Int) (t : T W) : (t.spots.map (k :: ·)).map (p ++ ·) = under (p ++ [k]) t := by
  unfold under
  rw [List.map_map]
  refine List.map_congr_left fun x _ => ?_
  show p ++ k :: x = p ++ [k] ++ x
  simp
theorem under_name (p : List Int) (w : W) : under p (.name w) = [] := rfl
theorem under_place (p : List Int) (n : Nat) : under p (.place n : T W) = [] := rfl
theorem under_form (p : List Int) (b : T W) : under p (.form b) = under (p ++ [0]) b := under_cons p 0 b
theorem under_call (p : List Int) (a b : T W) : under p (.call a b) = (if a.isForm then [p] else []) ++ (under (p ++ [0]) a ++ under (p ++ [1]) b) := by
  show List.map (p ++ ·) (T.spots (.call a b)) = _
  rw [T.spots, List.map_append, List.map_append, under_cons, under_cons]
  congr 1
  split <;> simp

theorem spots_len : ∀ t : T W, 3 * t.spots.length + 1 ≤ t.size
  | .name _ => by simp [T.spots, T.size]
  | .place _ => by simp [T.spots, T.size]
  | .form b => by
    have := spots_len b
    simp only [T.spots, T.size, List.length_map]
    omega
  | .call a b => by
    have h1 := spots_len a
    have h2 := spots_len b
    simp only [T.spots, T.size, List.length_append, List.length_map]
    cases a with
    | form c =>
      have h3 := spots_len c
      simp only [T.isForm, T.spots, T.size, List.length_map, if_true, List.length_cons, List.length_nil] at *
      omega
    | _ => simp only [T.isForm, Bool.false_eq_true, if_false, List.length_nil] <;> omega

/-! ### the order of paths -/
/-- Python's order of two lists of whole numbers -/
def lex : List Int → List Int → Bool
  | [], [] => false
  | [], _ :: _ => true
  | _ :: _, [] => false
  | x :: xs, y :: ys => if x = y then lex xs ys else decide (x < y)
theorem lex_irrefl : ∀ a, lex a a = false
  | [] => rfl
  | x :: xs => by
    unfold lex
    rw [if_pos rfl]
    exact lex_irrefl xs
theorem lex_trans : ∀ {a b c : List Int}, lex a b = true → lex b c = true → lex a c = true
  | [], [], _, h, _ => by simp [lex] at h
  | [], _ :: _, [], _, h => by simp [lex] at h
  | [], _ :: _, _ :: _, _, _ => rfl
  | _ :: _, [], _, h, _ => by simp [lex] at h
  | _ :: _, _ :: _, [], _, h => by simp [lex] at h
  | x :: xs, y :: ys, z :: zs, h1, h2 => by
    unfold lex at h1 h2 ⊢
    by_cases e1 : x = y
    · subst e1
      rw [if_pos rfl] at h1
      by_cases e2 : x = z
      · subst e2
        rw [if_pos rfl] at h2 ⊢
        exact lex_trans h1 h2
      · rw [if_neg e2] at h2 ⊢
        exact h2
    · rw [if_neg e1] at h1
      by_cases e2 : y = z
      · subst e2
        rw [if_neg e1]
        exact h1
      · rw [if_neg e2] at h2
        have q1 := of_decide_eq_true h1
        have q2 := of_decide_eq_true h2
        rw [if_neg (by omega)]
        exact decide_eq_true (by omega)
theorem lex_total : ∀ {a b : List Int}, lex a b = false → lex b a = false → a = b
  | [], [], _, _ => rfl
  | [], _ :: _, h, _ => by simp [lex] at h
  | _ :: _, [], _, h => by simp [lex] at h
  | x :: xs, y :: ys, h1, h2 => by
    unfold lex at h1 h2
    by_cases e : x = y
    · subst e
      rw [if_pos rfl] at h1 h2
      rw [lex_total h1 h2]
    · rw [if_neg e] at h1
      rw [if_neg (Ne.symm e)] at h2
      have q1 := of_decide_eq_false h1
      have q2 := of_decide_eq_false h2
      omega
theorem lex_cons (k : Int) (a b : List Int) : lex (k :: a) (k :: b) = lex a b := by
  show (if k = k then lex a b else _) = _
  rw [if_pos rfl]

/-- the paths of the steps stand in order, no two alike -/
theorem spots_sorted : ∀ t : T W, t.spots.Pairwise (fun a b => lex a b = true)
  | .name _ => List.Pairwise.nil
  | .place _ => List.Pairwise.nil
  | .form b => by
    show (b.spots.map (0 :: ·)).Pairwise _
    rw [List.pairwise_map]
    exact (spots_sorted b).imp fun h => by rw [lex_cons]; exact h
  | .call a b => by
    show ((if a.isForm then [[]] else []) ++ (a.spots.map (0 :: ·) ++ b.spots.map (1 :: ·))).Pairwise _
    have hab : (a.spots.map (0 :: ·) ++ b.spots.map (1 :: ·)).Pairwise (fun a b => lex a b = true) := by
      rw [List.pairwise_append]
      refine ⟨?_, ?_, ?_⟩
      · rw [List.pairwise_map]
        exact (spots_sorted a).imp fun h => by rw [lex_cons]; exact h
      · rw [List.pairwise_map]
        exact (spots_sorted b).imp fun h => by rw [lex_cons]; exact h
      · intro x hx y hy
        obtain ⟨x', _, rfl⟩ := List.mem_map.mp hx
        obtain ⟨y', _, rfl⟩ := List.mem_map.mp hy
        rfl
    split
    · rw [List.singleton_append, List.pairwise_cons]
      refine ⟨fun y hy => ?_, hab⟩
      rcases List.mem_append.mp hy with h | h <;> (obtain ⟨y', _, rfl⟩ := List.mem_map.mp h; rfl)
    · exact hab

/-- two lists in order that hold the same -/
theorem same_of_sorted : ∀ {l₁ l₂ : List (List Int)}, l₁.Perm l₂ → l₁.Pairwise (fun a b => lex a b = true) → l₂.Pairwise (fun a b => lex b a = false) → l₁ = l₂
  | [], l₂, p, _, _ => (List.nil_perm.mp p).symm
  | x :: xs, [], p, _, _ => absurd p.length_eq (by simp)
  | x :: xs, y :: ys, p, h1, h2 => by
    have h1' := List.pairwise_cons.mp h1
    have h2' := List.pairwise_cons.mp h2
    have e : x = y := by
      have hy : y ∈ x :: xs := p.mem_iff.mpr List.mem_cons_self
      have hx : x ∈ y :: ys := p.mem_iff.mp List.mem_cons_self
      rcases List.mem_cons.mp hy with q | q
      · exact q.symm
      · rcases List.mem_cons.mp hx with r | r
        · exact r
        · have a1 := h1'.1 y q
          have a2 := h2'.1 x r
          rw [a1] at a2
          cases a2
    subst e
    rw [same_of_sorted (List.Perm.cons_inv p) h1'.2 h2'.2]

theorem lex_negTrans {a b c : List Int} (h : lex a c = true) : lex a b = true ∨ lex b c = true := by
  cases e1 : lex a b with
  | true => exact .inl rfl
  | false =>
    cases e2 : lex b c with
    | true => exact .inr rfl
    | false =>
      exfalso
      cases e3 : lex b a with
      | true => rw [lex_trans e3 h] at e2; cases e2
      | false =>
        have e := lex_total e1 e3
        subst e
        rw [h] at e2; cases e2

end NC
/-! raising, filling: over the parts of a term, and as the program does it with a pile -/
namespace NC
variable {W : Type}
/-- each part with the forms round it -/
def T.parts : Nat → T W → List (T W × Nat)
  | k, .name w => [(.name w, k)]
  | k, .place n => [(.place n, k)]
  | k, .form b => (.form b, k) :: b.parts (k + 1)
  | k, .call a b => (.call a b, k) :: (a.parts k ++ b.parts k)
/-- the same, the other one first -/
def T.lparts : Nat → T W → List (T W × Nat)
  | k, .name w => [(.name w, k)]
  | k, .place n => [(.place n, k)]
  | k, .form b => (.form b, k) :: b.lparts (k + 1)
  | k, .call a b => (.call a b, k) :: (b.lparts k ++ a.lparts k)
theorem parts_len : ∀ (t : T W) (k : Nat), (t.parts k).length = t.size
  | .name _, _ => rfl
  | .place _, _ => rfl
  | .form b, k => by show (b.parts (k + 1)).length + 1 = _; rw [parts_len b]; rfl
  | .call a b, k => by show (a.parts k ++ b.parts k).length + 1 = _; rw [List.length_append, parts_len a, parts_len b]; rfl
theorem lparts_len : ∀ (t : T W) (k : Nat), (t.lparts k).length = t.size
  | .name _, _ => rfl
  | .place _, _ => rfl
  | .form b, k => by show (b.lparts (k + 1)).length + 1 = _; rw [lparts_len b]; rfl
  | .call a b, k => by show (b.lparts k ++ a.lparts k).length + 1 = _; rw [List.length_append, lparts_len a, lparts_len b, Nat.add_comm b.size]; rfl
theorem parts_le : ∀ (t : T W) (k : Nat), ∀ q ∈ t.parts k, q.2 ≤ k + t.size
  | .name _, k, q, h => by rw [List.mem_singleton.mp h]; exact Nat.le_add_right _ _
  | .place _, k, q, h => by rw [List.mem_singleton.mp h]; exact Nat.le_add_right _ _
  | .form b, k, q, h => by
    rcases List.mem_cons.mp h with e | h
    · rw [e]; exact Nat.le_add_right _ _
    · have := parts_le b (k + 1) q h
      show q.2 ≤ k + (b.size + 1)
      omega
  | .call a b, k, q, h => by
    show q.2 ≤ k + (a.size + b.size + 1)
    rcases List.mem_cons.mp h with e | h
    · rw [e]; exact Nat.le_add_right _ _
    · rcases List.mem_append.mp h with h | h
      · have := parts_le a k q h
        omega
      · have := parts_le b k q h
        omega
def T.rebuild (g : T W → Nat → T W) : Nat → T W → T W
  | k, .name w => g (.name w) k
  | k, .place n => g (.place n) k
  | k, .form b => .form (b.rebuild g (k + 1))
  | k, .call a b => .call (a.rebuild g k) (b.rebuild g k)
/-- with a pile, its top ahead -/
def run1 (g : T W → Nat → T W) : List (T W × Nat) → List (T W) → Option (List (T W))
  | [], S => some S
  | (.name w, k) :: ys, S => run1 g ys (g (.name w) k :: S)
  | (.place n, k) :: ys, S => run1 g ys (g (.place n) k :: S)
  | (.form _, _) :: ys, x :: S => run1 g ys (.form x :: S)
  | (.call _ _, _) :: ys, x :: y :: S => run1 g ys (.call x y :: S)
  | _, _ => none
def run2 (g : T W → Nat → T W) : List (T W × Nat) → List (T W) → Option (List (T W))
  | [], S => some S
  | (.name w, k) :: ys, S => run2 g ys (g (.name w) k :: S)
  | (.place n, k) :: ys, S => run2 g ys (g (.place n) k :: S)
  | (.form _, _) :: ys, x :: S => run2 g ys (.form x :: S)
  | (.call _ _, _) :: ys, x :: y :: S => run2 g ys (.call y x :: S)
  | _, _ => none
section
variable {g : T W → Nat → T W}
theorem run1_parts : ∀ (t : T W) (k : Nat) (ys : List (T W × Nat)) (S : List (T W)), run1 g ((t.parts k).reverse ++ ys) S = run1 g ys (t.rebuild g k :: S)
  | .name _, _, _, _ => rfl
  | .place _, _, _, _ => rfl
  | .form b, k, ys, S => by
    show run1 g (((.form b, k) :: b.parts (k + 1)).reverse ++ ys) S = _
    rw [List.reverse_cons, List.append_assoc, run1_parts b]
    rfl
  | .call a b, k, ys, S => by
    show run1 g (((.call a b, k) :: (a.parts k ++ b.parts k)).reverse ++ ys) S = _
    rw [List.reverse_cons, List.reverse_append, List.append_assoc, List.append_assoc, run1_parts b, run1_parts a]
    rfl
theorem run2_parts : ∀ (t : T W) (k : Nat) (ys : List (T W × Nat)) (S : List (T W)), run2 g ((t.lparts k).reverse ++ ys) S = run2 g ys (t.rebuild g k :: S)
  | .name _, _, _, _ => rfl
  | .place _, _, _, _ => rfl
  | .form b, k, ys, S => by
    show run2 g (((.form b, k) :: b.lparts (k + 1)).reverse ++ ys) S = _
    rw [List.reverse_cons, List.append_assoc, run2_parts b]
    rfl
  | .call a b, k, ys, S => by
    show run2 g (((.call a b, k) :: (b.lparts k ++ a.lparts k)).reverse ++ ys) S = _
    rw [List.reverse_cons, List.reverse_append, List.append_assoc, List.append_assoc, run2_parts a, run2_parts b]
    rfl
theorem run1_all (t : T W) : run1 g (t.parts 0).reverse [] = some [t.rebuild g 0] := by
  have := run1_parts (g := g) t 0 [] []
  rw [List.append_nil] at this
  rw [this]
  rfl
theorem run2_all (t : T W) : run2 g (t.lparts 0).reverse [] = some [t.rebuild g 0] := by
  have := run2_parts (g := g) t 0 [] []
  rw [List.append_nil] at this
  rw [this]
  rfl
theorem run1_form {b : T W} {k : Nat} {ys : List (T W × Nat)} {S r : List (T W)} (h : run1 g ((.form b, k) :: ys) S = some r) : ∃ x S', S = x :: S' ∧ run1 g ys (.form x :: S') = some r := by
  cases S with
  | nil => cases h
  | cons x S => exact ⟨x, S, rfl, h⟩
theorem run1_call {a b : T W} {k : Nat} {ys : List (T W × Nat)} {S r : List (T W)} (h : run1 g ((.call a b, k) :: ys) S = some r) : ∃ x y S', S = x :: y :: S' ∧ run1 g ys (.call x y :: S') = some r := by
  cases S with
  | nil => cases h
  | cons x S =>
    cases S with
    | nil => cases h
    | cons y S => exact ⟨x, y, S, rfl, h⟩
theorem run2_form {b : T W} {k : Nat} {ys : List (T W × Nat)} {S r : List (T W)} (h : run2 g ((.form b, k) :: ys) S = some r) : ∃ x S', S = x :: S' ∧ run2 g ys (.form x :: S') = some r := by
  cases S with
  | nil => cases h
  | cons x S => exact ⟨x, S, rfl, h⟩
theorem run2_call {a b : T W} {k : Nat} {ys : List (T W × Nat)} {S r : List (T W)} (h : run2 g ((.call a b, k) :: ys) S = some r) : ∃ x y S', S = x :: y :: S' ∧ run2 g ys (.call y x :: S') = some r := by
  cases S with
  | nil => cases h
  | cons x S =>
    cases S with
    | nil => cases h
    | cons y S => exact ⟨x, y, S, rfl, h⟩
end
/-- a leaf raised; a leaf filled -/
def liftG (by_ : Nat) : T W → Nat → T W
  | .place n, k => if k ≤ n then .place (n + by_) else .place n
  | t, _ => t
def T.lift (by_ : Nat) (t : T W) : T W := t.rebuild (liftG by_) 0
def fillG (u : T W) : T W → Nat → T W
  | .place n, k => if n < k then .place n else if n = k then u.lift k else .place (n - 1)
  | t, _ => t
def T.fill (t u : T W) : T W := t.rebuild (fillG u) 0
theorem liftG_zero : ∀ (t : T W) (k : Nat), liftG 0 t k = t
  | .name _, _ => rfl
  | .place n, k => by show (if k ≤ n then T.place (n + 0) else T.place n : T W) = _; split <;> rfl
  | .form _, _ => rfl
  | .call _ _, _ => rfl
theorem rebuild_id {g : T W → Nat → T W} (h : ∀ t k, g t k = t) : ∀ (t : T W) (k : Nat), t.rebuild g k = t
  | .name _, _ => h _ _
  | .place _, _ => h _ _
  | .form b, k => by show T.form _ = _; rw [rebuild_id h b]
  | .call a b, k => by show T.call _ _ = _; rw [rebuild_id h a, rebuild_id h b]
theorem lift_zero (t : T W) : t.lift 0 = t := rebuild_id liftG_zero t 0
theorem lift_deep (m : Nat) : ∀ (t : T W) (k : Nat), (t.rebuild (liftG m) k).deep = t.deep
  | .name _, _ => rfl
  | .place n, k => by show (if k ≤ n then T.place (n + m) else T.place n : T W).deep = _; split <;> rfl
  | .form b, k => by show (b.rebuild (liftG m) (k + 1)).deep + 1 = _; rw [lift_deep m b]; rfl
  | .call a b, k => by show max (a.rebuild (liftG m) k).deep (b.rebuild (liftG m) k).deep + 1 = _; rw [lift_deep m a, lift_deep m b]; rfl
theorem fill_deep (u : T W) : ∀ (t : T W) (k : Nat), (t.rebuild (fillG u) k).deep ≤ t.deep + u.deep
  | .name _, _ => Nat.le_add_right 1 _
  | .place n, k => by
    show (if n < k then T.place n else if n = k then u.lift k else T.place (n - 1) : T W).deep ≤ 1 + _
    split
    · exact Nat.le_add_right 1 _
    · split
      · rw [show (u.lift k).deep = u.deep from lift_deep k u 0]; omega
      · exact Nat.le_add_right 1 _
  | .form b, k => by
    show (b.rebuild (fillG u) (k + 1)).deep + 1 ≤ b.deep + 1 + _
    have := fill_deep u b (k + 1)
    omega
  | .call a b, k => by
    show max (a.rebuild (fillG u) k).deep (b.rebuild (fillG u) k).deep + 1 ≤ max a.deep b.deep + 1 + _
    have h1 := fill_deep u a k
    have h2 := fill_deep u b k
    omega
theorem lift_size (m : Nat) : ∀ (t : T W) (k : Nat), (t.rebuild (liftG m) k).size = t.size
  | .name _, _ => rfl
  | .place n, k => by show (if k ≤ n then T.place (n + m) else T.place n : T W).size = _; split <;> rfl
  | .form b, k => by show (b.rebuild (liftG m) (k + 1)).size + 1 = _; rw [lift_size m b]; rfl
  | .call a b, k => by show (a.rebuild (liftG m) k).size + (b.rebuild (liftG m) k).size + 1 = _; rw [lift_size m a, lift_size m b]; rfl
theorem fill_size (u : T W) : ∀ (t : T W) (k : Nat), (t.rebuild (fillG u) k).size ≤ t.size * u.size
  | .name _, _ => by show 1 ≤ 1 * u.size; have := u.size_pos; omega
  | .place n, k => by
    have := u.size_pos
    show (if n < k then T.place n else if n = k then u.lift k else T.place (n - 1) : T W).size ≤ 1 * u.size
    split
    · show 1 ≤ _; omega
    · split
      · rw [show (u.lift k).size = u.size from lift_size k u 0]; omega
      · show 1 ≤ _; omega
  | .form b, k => by
    show (b.rebuild (fillG u) (k + 1)).size + 1 ≤ (b.size + 1) * u.size
    have h1 := fill_size u b (k + 1)
    have := u.size_pos
    rw [Nat.add_mul]
    omega
  | .call a b, k => by
    show (a.rebuild (fillG u) k).size + (b.rebuild (fillG u) k).size + 1 ≤ (a.size + b.size + 1) * u.size
    have h1 := fill_size u a k
    have h2 := fill_size u b k
    have := u.size_pos
    rw [Nat.add_mul, Nat.add_mul]
    omega
end NC
/-! ### list < list, of whole numbers -/
namespace NC
open PySem PyProof.Rows PySem.SeqAt
open PySem.AutoSeq1 (wpAny_loadPart')
open PySem.MeetsSeq PySem.MeetsSeq2 PySem.MeetsSeq3
theorem ints_get : ∀ {vs : List Value} {ns : List Int} {i : Nat}, IntsAre vs ns → i < vs.length → ∃ n t, vs[i]? = some (.int n t) ∧ ns[i]? = some n
  | _, _, _, .nil, h => by simp at h
  | _, _, 0, .cons n t _, _ => ⟨n, t, rfl, rfl⟩
  | _, _, i + 1, .cons n t r, h => by
    obtain ⟨n', t', h1, h2⟩ := ints_get (i := i) r (by simpa using h)
    exact ⟨n', t', by simpa using h1, by simpa using h2⟩
theorem lex_end {ns ms : List Int} {i : Nat} (h : ns.length ≤ i ∨ ms.length ≤ i) (hi : i ≤ ns.length) (hj : i ≤ ms.length) : lex (ns.drop i) (ms.drop i) = decide (ns.length < ms.length) := by
  rcases Nat.lt_or_ge i ns.length with h1 | h1
  · have e2 : ms.drop i = [] := List.drop_of_length_le (by omega)
    rw [e2, List.drop_eq_getElem_cons h1]
    exact (decide_eq_false (by omega)).symm
  · have e1 : ns.drop i = [] := List.drop_of_length_le h1
    rw [e1]
    rcases Nat.lt_or_ge i ms.length with h2 | h2
    · rw [List.drop_eq_getElem_cons h2]
      exact (decide_eq_true (by omega)).symm
    · rw [List.drop_of_length_le h2]
      exact (decide_eq_false (by omega)).symm
theorem lt_loop (l b : Addr) (xs ys : Array Value) (n n2 : Nat) (dd dd2 : Option Addr) (sl sl2 : Array (Option Value)) (ns ms : List Int) (hx : IntsAre xs.toList ns) (hy : IntsAre ys.toList ms) (k : Nat) :
    ∀ i : Nat, xs.size - i = k → i ≤ xs.size → i ≤ ys.size → Meets (Builtin.«list.__eq__.loop» ⟨[.ref l, .ref b, rawInt i, rawInt 0], []⟩)
      (fun _ R s => s.heap.get? l = some { cls := .type "list", dict := dd, data := .seq xs n, slots := sl } ∧ s.heap.get? b = some { cls := .type "list", dict := dd2, data := .seq ys n2, slots := sl2 } ∧
        R (.ok (.ret (.bool (lex (ns.drop i) (ms.drop i))))) s) := by
  have zx : xs.size = ns.length := by rw [← hx.length]; simp
  have zy : ys.size = ms.length := by rw [← hy.length]; simp
  have stop : ∀ i : Nat, (xs.size ≤ i ∨ ys.size ≤ i) → i ≤ xs.size → i ≤ ys.size → Meets (Builtin.«list.__eq__.loop» ⟨[.ref l, .ref b, rawInt i, rawInt 0], []⟩)
      (fun _ R s => s.heap.get? l = some { cls := .type "list", dict := dd, data := .seq xs n, slots := sl } ∧ s.heap.get? b = some { cls := .type "list", dict := dd2, data := .seq ys n2, slots := sl2 } ∧
        R (.ok (.ret (.bool (lex (ns.drop i) (ms.drop i))))) s) := by
    intro i ho h1 h2 prog w A R s h
    obtain ⟨hp, g, d, tk, os⟩ := s
    obtain ⟨hl, hb, h⟩ := h
    rw [lex_end (by omega) (by omega) (by omega)] at h
    wp_walk using wpAny_loadPart' hl, wpAny_loadPart' hb
    by_cases q : xs.size ≤ i
    · have e1 : xs[((i : Nat) : Int).toNat]? = none := by simp; omega
      rw [e1]
      wp_walk using wpAny_loadPart' hl, wpAny_loadPart' hb
      show R (.ok (.ret (.bool (decide (xs.size < ys.size))))) _
      rw [zx, zy]
      exact h
    · have hlt : i < xs.size := by omega
      have e1 : xs[((i : Nat) : Int).toNat]? = some xs[i] := by simp [hlt]
      have e2 : ys[((i : Nat) : Int).toNat]? = none := by simp; omega
      rw [e1, e2]
      wp_walk using wpAny_loadPart' hl, wpAny_loadPart' hb
      show R (.ok (.ret (.bool (decide (xs.size < ys.size))))) _
      rw [zx, zy]
      exact h
  induction k with
  | zero =>
    intro i hk h1 h2
    exact stop i (by omega) h1 h2
  | succ k ih =>
    intro i hk h1 h2
    by_cases q : ys.size ≤ i
    · exact stop i (.inr q) h1 h2
    · intro prog w A R s h
      obtain ⟨hp, g, d, tk, os⟩ := s
      obtain ⟨hl, hb, h⟩ := h
      have hlt : i < xs.size := by omega
      have hlt2 : i < ys.size := by omega
      obtain ⟨c, t, ec, en⟩ := ints_get (i := i) hx (by simpa using hlt)
      obtain ⟨c2, t2, ec2, en2⟩ := ints_get (i := i) hy (by simpa using hlt2)
      have e1 : xs[((i : Nat) : Int).toNat]? = some (.int c t) := by rw [← ec]; simp
      have e2 : ys[((i : Nat) : Int).toNat]? = some (.int c2 t2) := by rw [← ec2]; simp
      have dn : ns.drop i = c :: ns.drop (i + 1) := by
        rw [List.drop_eq_getElem_cons (by omega)]
        congr 1
        exact (List.getElem?_eq_some_iff.mp en).2
      have dm : ms.drop i = c2 :: ms.drop (i + 1) := by
        rw [List.drop_eq_getElem_cons (by omega)]
        congr 1
        exact (List.getElem?_eq_some_iff.mp en2).2
      rw [dn, dm, show lex (c :: ns.drop (i + 1)) (c2 :: ms.drop (i + 1)) = if c = c2 then lex (ns.drop (i + 1)) (ms.drop (i + 1)) else decide (c < c2) from rfl] at h
      have hc : ((i : Int) + 1) = ((i + 1 : Nat) : Int) := by push_cast; rfl
      wp_walk using wpAny_loadPart' hl, wpAny_loadPart' hb
      rw [e1, e2]
      refine wpAny_bind (EqAt.int_int (A := A.in1) (s := ⟨hp, g, d, tk, os⟩) c t c2 t2 prog w _ _ ?_)
      by_cases hcc : c = c2
      · rw [if_pos hcc] at h
        rw [show (c == c2) = true by simp [hcc]]
        wp_walk
        rw [hc]
        exact ⟨plainId_quiet plain_eq_loop _, codeAny_builtin entry_eq_loop (by
          rw [Around.under_plainId plain_eq_loop _]
          exact ih (i + 1) (by omega) (by omega) (by omega) prog w A R _ ⟨hl, hb, h⟩)⟩
      · rw [if_neg hcc] at h
        rw [show (c == c2) = false by simp [hcc]]
        have hri : ∀ (E : Value → Shared → Prop) (Q : Value → Shared → Prop), Q (.bool (decide (c < c2))) ⟨hp, g, d, tk, os⟩ → wpAny (model prog w) A.in1 (richCompare .Lt (.int c t) (.int c2 t2)) Q E ⟨hp, g, d, tk, os⟩ :=
          fun E Q hq => (PyProof.Rows.lt_int hq : wpAny (model prog w) A.in1 (compareOp .Lt (.int c t) (.int c2 t2)) Q E ⟨hp, g, d, tk, os⟩)
        wp_walk using wpAny_loadPart' hl, wpAny_loadPart' hb
        rw [e1, e2]
        wp_walk using hri
        exact h
theorem list_lt (l b : Addr) (xs ys : Array Value) (n n2 : Nat) (dd dd2 : Option Addr) (sl sl2 : Array (Option Value)) (ns ms : List Int) (hx : IntsAre xs.toList ns) (hy : IntsAre ys.toList ms) :
    Meets (Builtin.«list.__lt__» ⟨[.ref l, .ref b], []⟩)
      (fun _ R s => s.heap.get? l = some { cls := .type "list", dict := dd, data := .seq xs n, slots := sl } ∧ s.heap.get? b = some { cls := .type "list", dict := dd2, data := .seq ys n2, slots := sl2 } ∧
        R (.ok (.ret (.bool (lex ns ms)))) s) := by
  intro prog w A R s h
  obtain ⟨hp, g, d, tk, os⟩ := s
  obtain ⟨hl, hb, h⟩ := h
  have f3 := AutoSeq1.sub_list_list
  wp_walk using wpAny_loadPart' hl, wpAny_loadPart' hb
  exact ⟨plainId_quiet plain_eq_loop _, codeAny_builtin entry_eq_loop (by
    rw [Around.under_plainId plain_eq_loop _]
    exact lt_loop l b xs ys n n2 dd dd2 sl sl2 ns ms hx hy _ 0 rfl (Nat.zero_le _) (Nat.zero_le _) prog w A R _ ⟨hl, hb, by simpa using h⟩)⟩
end NC
/-! ### the library's sort, by questions: it puts in order (paths, by lex) -/
namespace NC
open PySem PySem.W PyProof.Rows
section
variable {α β : Type} {n : Nat} {lt : Nat → Nat → Bool}
/-- the tree asks places below n alone, and with these answers comes to R -/
def KOk (n : Nat) (lt : Nat → Nat → Bool) {α : Type} : KasT α → (α → Prop) → Prop
  | .ret a, R => R a
  | .ask i j k, R => i < n ∧ j < n ∧ KOk n lt (k (lt i j)) R
theorem KOk.mono {R R' : α → Prop} (m : ∀ a, R a → R' a) : ∀ {t : KasT α}, KOk n lt t R → KOk n lt t R'
  | .ret a, h => m a h
  | .ask _ _ k, h => ⟨h.1, h.2.1, KOk.mono m (t := k _) h.2.2⟩
theorem KOk.bind {f : α → KasT β} {R : β → Prop} : ∀ {t : KasT α}, KOk n lt t (fun a => KOk n lt (f a) R) → KOk n lt (t.bind f) R
  | .ret _, h => h
  | .ask _ _ k, h => ⟨h.1, h.2.1, KOk.bind (t := k _) h.2.2⟩
end
section
variable (key : Nat → List Int)
/-- the path at the i-th place -/
def Kp (p : Array Nat) (i : Nat) : List Int := key (p.getD i 0)
def le' (a b : List Int) : Prop := lex b a = false
theorem le'_refl (a : List Int) : le' a a := lex_irrefl a
theorem le'_of_lt {a b : List Int} (h : lex a b = true) : le' a b := by
  unfold le'
  cases e : lex b a with
  | false => rfl
  | true =>
    have := lex_trans h e
    rw [lex_irrefl] at this
    cases this
theorem le'_trans {a b c : List Int} (h1 : le' a b) (h2 : le' b c) : le' a c := by
  unfold le' at *
  cases e : lex c a with
  | false => rfl
  | true =>
    rcases lex_negTrans (b := b) e with q | q
    · rw [h2] at q; cases q
    · rw [h1] at q; cases q
theorem le'_anti {a b : List Int} (h1 : le' a b) (h2 : le' b a) : a = b := lex_total h2 h1
theorem lt_le' {a b c : List Int} (h1 : lex a b = true) (h2 : le' b c) : lex a c = true := by
  rcases lex_negTrans (b := c) h1 with q | q
  · exact q
  · have h2' : lex c b = false := h2
    rw [h2'] at q; cases q
variable {key}
def Up (key : Nat → List Int) (p : Array Nat) (m : Nat) : Prop := ∀ i j, i ≤ j → j < m → le' (Kp key p i) (Kp key p j)
def Dn (key : Nat → List Int) (p : Array Nat) (m : Nat) : Prop := ∀ i j, i ≤ j → j < m → le' (Kp key p j) (Kp key p i)
variable {n : Nat} {p : Array Nat}
/-- a turning about of 0 .. n - 1 -/
structure Pm (n : Nat) (p : Array Nat) : Prop where
  perm : p.Perm (List.toArray (List.range n))
theorem Pm.size (h : Pm n p) : p.size = n := by rw [h.perm.size_eq]; simp
theorem Pm.lt (h : Pm n p) {i : Nat} (hi : i < n) : p.getD i 0 < n := by
  have hi' : i < p.size := by rw [h.size]; exact hi
  have e : p.getD i 0 = p[i] := by simp [Array.getD, hi']
  rw [e]
  have m : p[i] ∈ (List.range n) := (Array.perm_iff_toList_perm.mp h.perm).mem_iff.mp (by simp)
  exact List.mem_range.mp m
theorem Pm.rev (h : Pm n p) (i j : Nat) : Pm n (kas_rev p i j) := ⟨(mirror_perm _ _ _ _).trans h.perm⟩
theorem Pm.bub (h : Pm n p) (i j : Nat) : Pm n (bubble p i j) := ⟨(bubble_perm _ _ _).trans h.perm⟩
theorem getD_of {x y : Array Nat} {i j : Nat} (h : x[i]? = y[j]?) : x.getD i 0 = y.getD j 0 := by
  rw [Array.getD_eq_getD_getElem?, Array.getD_eq_getD_getElem?, h]
theorem Kp_rev {i j : Nat} (hj : j ≤ p.size) (k : Nat) : Kp key (kas_rev p i j) k = if i ≤ k ∧ k < j then Kp key p (i + j - 1 - k) else Kp key p k := by
  have e := getElem?_mirror_all (xs := p) (i := i) hj k
  unfold Kp kas_rev
  split
  · rename_i c; rw [if_pos c] at e; exact congrArg key (getD_of e)
  · rename_i c; rw [if_neg c] at e; exact congrArg key (getD_of e)
theorem Kp_rev_eq {i j : Nat} (hj : j ≤ p.size) (he : ∀ k, i ≤ k → k < j → Kp key p k = Kp key p (j - 1)) (k : Nat) : Kp key (kas_rev p i j) k = Kp key p k := by
  rw [Kp_rev hj]
  split
  · rw [he _ (by omega) (by omega), he k (by omega) (by omega)]
  · rfl
theorem Kp_bub {src d : Nat} (hs : src < p.size) (hd : d ≤ src) (k : Nat) :
    Kp key (bubble p src d) k = if k = src - d then Kp key p src else if src - d < k ∧ k ≤ src then Kp key p (k - 1) else Kp key p k := by
  have e := getElem?_bubble hs d hd k
  by_cases c : k = src - d
  · rw [if_pos c] at e ⊢; exact congrArg key (getD_of e)
  · rw [if_neg c] at e ⊢
    by_cases c2 : src - d < k ∧ k ≤ src
    · rw [if_pos c2] at e ⊢; exact congrArg key (getD_of e)
    · rw [if_neg c2] at e ⊢; exact congrArg key (getD_of e)
/-- the answers are by the paths -/
def ltK (key : Nat → List Int) (i j : Nat) : Bool := lex (key i) (key j)
theorem up_one : Up key p 1 := fun i j h1 h2 => by
  have e : i = j := by omega
  rw [e]; exact le'_refl _
theorem up_next {x : Nat} (h : Up key p x) (h1 : le' (Kp key p (x - 1)) (Kp key p x)) : Up key p (x + 1) := fun i j hij hj => by
  by_cases hjx : j < x
  · exact h i j hij hjx
  · have e : j = x := by omega
    subst e
    by_cases hi : i = j
    · rw [hi]; exact le'_refl _
    · exact le'_trans (h i (j - 1) (by omega) (by omega)) h1
theorem dn_next {x : Nat} (h : Dn key p x) (h1 : le' (Kp key p x) (Kp key p (x - 1))) : Dn key p (x + 1) := fun i j hij hj => by
  by_cases hjx : j < x
  · exact h i j hij hjx
  · have e : j = x := by omega
    subst e
    by_cases hi : i = j
    · rw [hi]; exact le'_refl _
    · exact le'_trans h1 (h i (j - 1) (by omega) (by omega))
theorem dn_eq {p' : Array Nat} {x : Nat} (h : Dn key p x) (e : ∀ k, Kp key p' k = Kp key p k) : Dn key p' x := fun i j hij hj => by rw [e, e]; exact h i j hij hj

theorem k_asc (hp : Pm n p) : ∀ (f m : Nat), 1 ≤ m → m + f ≤ n → Up key p m →
    KOk n (ltK key) (kas_asc p f m) (fun x => m ≤ x ∧ x ≤ m + f ∧ Up key p x ∧ (x = m + f ∨ lex (Kp key p x) (Kp key p (x - 1)) = true))
  | 0, m, h1, h2, h3 => ⟨Nat.le_refl _, Nat.le_refl _, h3, .inl rfl⟩
  | f + 1, m, h1, h2, h3 => by
    refine ⟨hp.lt (by omega), hp.lt (by omega), ?_⟩
    show KOk n (ltK key) (if lex (Kp key p m) (Kp key p (m - 1)) = true then _ else _) _
    cases e : lex (Kp key p m) (Kp key p (m - 1)) with
    | true => exact ⟨Nat.le_refl _, by omega, h3, .inr e⟩
    | false =>
      refine KOk.mono (fun x hx => ?_) (k_asc hp f (m + 1) (by omega) (by omega) (up_next h3 e))
      exact ⟨by omega, by omega, hx.2.2.1, hx.2.2.2.imp (fun q => by omega) fun q => q⟩
theorem k_tail3 {m nrem : Nat} (hp : Pm n p) (hn : nrem ≤ n) (h1 : 1 ≤ m) (h2 : m ≤ nrem) (hs : Dn key p m) :
    KOk n (ltK key) (kas_tail3 m nrem p) (fun r => Pm n r.2 ∧ 1 ≤ r.1 ∧ r.1 ≤ nrem ∧ Up key r.2 r.1) := by
  refine KOk.bind (KOk.mono (fun x hx => ?_) (k_asc (hp.rev 0 m) (nrem - m) m h1 (by omega) fun i j hij hj => ?_))
  · exact ⟨hp.rev 0 m, by omega, by omega, hx.2.2.1⟩
  · have hsz : m ≤ p.size := by rw [hp.size]; omega
    rw [Kp_rev hsz, Kp_rev hsz, if_pos (by omega), if_pos (by omega)]
    exact hs _ _ (by omega) (by omega)
theorem k_desc : ∀ (f : Nat) (p : Array Nat) (m q : Nat), Pm n p → 1 ≤ m → m + f ≤ n → Dn key p m → q + 1 ≤ m → (∀ i, m - (q + 1) ≤ i → i < m → Kp key p i = Kp key p (m - 1)) →
    KOk n (ltK key) (kas_desc f p m q) (fun r => Pm n r.1 ∧ m ≤ r.2.1 ∧ r.2.1 ≤ m + f ∧ Dn key r.1 r.2.1 ∧ r.2.2 + 1 ≤ r.2.1 ∧ ∀ i, r.2.1 - (r.2.2 + 1) ≤ i → i < r.2.1 → Kp key r.1 i = Kp key r.1 (r.2.1 - 1))
  | 0, p, m, q, hp, h1, h2, h3, h4, h5 => ⟨hp, Nat.le_refl _, Nat.le_refl _, h3, h4, h5⟩
  | f + 1, p, m, q, hp, h1, h2, h3, h4, h5 => by
    refine ⟨hp.lt (by omega), hp.lt (by omega), ?_⟩
    have hsz : m ≤ p.size := by rw [hp.size]; omega
    show KOk n (ltK key) (if lex (Kp key p m) (Kp key p (m - 1)) = true then _ else _) _
    cases e : lex (Kp key p m) (Kp key p (m - 1)) with
    | true =>
      rw [if_pos rfl]
      have hd : Dn key p (m + 1) := dn_next h3 (le'_of_lt e)
      by_cases hq : q > 0
      · rw [if_pos hq]
        refine KOk.mono (fun r hr => ⟨hr.1, by omega, by omega, hr.2.2.2⟩) (k_desc f _ (m + 1) 0 (hp.rev _ _) (by omega) (by omega) (dn_eq hd (Kp_rev_eq hsz h5)) (by omega) fun i a b => ?_)
        rw [show i = m + 1 - 1 by omega]
      · rw [if_neg hq]
        refine KOk.mono (fun r hr => ⟨hr.1, by omega, by omega, hr.2.2.2⟩) (k_desc f p (m + 1) 0 hp (by omega) (by omega) hd (by omega) fun i a b => ?_)
        rw [show i = m + 1 - 1 by omega]
    | false =>
      rw [if_neg Bool.false_ne_true]
      refine ⟨hp.lt (by omega), hp.lt (by omega), ?_⟩
      show KOk n (ltK key) (if lex (Kp key p (m - 1)) (Kp key p m) = true then _ else _) _
      cases e2 : lex (Kp key p (m - 1)) (Kp key p m) with
      | true => exact ⟨hp, Nat.le_refl _, Nat.le_add_right _ _, h3, h4, h5⟩
      | false =>
        rw [if_neg Bool.false_ne_true]
        have heq : Kp key p m = Kp key p (m - 1) := lex_total e e2
        refine KOk.mono (fun r hr => ⟨hr.1, by omega, by omega, hr.2.2.2⟩) (k_desc f p (m + 1) (q + 1) hp (by omega) (by omega) (dn_next h3 (by rw [heq]; exact le'_refl _)) (by omega) fun i a b => ?_)
        rw [show m + 1 - 1 = m by omega]
        by_cases hi : i = m
        · rw [hi]
        · rw [heq]; exact h5 i (by omega) (by omega)
theorem k_descPart {m nrem : Nat} (hp : Pm n p) (hn : nrem ≤ n) (h2 : m + 1 ≤ nrem) (hs : Dn key p (m + 1)) :
    KOk n (ltK key) (kas_descPart m nrem p) (fun r => Pm n r.2 ∧ 1 ≤ r.1 ∧ r.1 ≤ nrem ∧ Up key r.2 r.1) := by
  refine KOk.bind (KOk.mono (fun r hr => ?_) (k_desc (nrem - (m + 1)) p (m + 1) 0 hp (by omega) (by omega) hs (by omega) fun i a b => by rw [show i = m + 1 - 1 by omega]))
  obtain ⟨q1, q2, q3, q4, q5, q6⟩ := hr
  have hsz : r.2.1 ≤ r.1.size := by rw [q1.size]; omega
  by_cases hq : r.2.2 > 0
  · rw [if_pos hq]
    exact k_tail3 (q1.rev _ _) hn (by omega) (by omega) (dn_eq q4 (Kp_rev_eq hsz q6))
  · rw [if_neg hq]
    exact k_tail3 q1 hn (by omega) (by omega) q4
theorem k_count {nrem : Nat} (hp : Pm n p) (hn : nrem ≤ n) (h1 : 1 ≤ nrem) :
    KOk n (ltK key) (kas_count nrem p) (fun r => Pm n r.2 ∧ 1 ≤ r.1 ∧ r.1 ≤ nrem ∧ Up key r.2 r.1) := by
  refine KOk.bind (KOk.mono (fun x hx => ?_) (k_asc hp (nrem - 1) 1 (Nat.le_refl _) (by omega) up_one))
  obtain ⟨a1, a2, a3, a4⟩ := hx
  by_cases hnn : x = nrem
  · rw [if_pos (by simpa using hnn)]
    exact ⟨hp, a1, by omega, a3⟩
  · rw [if_neg (by simpa using hnn)]
    have hlt : lex (Kp key p x) (Kp key p (x - 1)) = true := a4.resolve_left (by omega)
    have hsz : x ≤ p.size := by rw [hp.size]; omega
    by_cases hgt : x > 1
    · rw [if_pos hgt]
      refine ⟨hp.lt (by omega), hp.lt (by omega), ?_⟩
      show KOk n (ltK key) (if lex (Kp key p 0) (Kp key p (x - 1)) = true then _ else _) _
      cases e : lex (Kp key p 0) (Kp key p (x - 1)) with
      | true => exact ⟨hp, a1, by omega, a3⟩
      | false =>
        rw [if_neg Bool.false_ne_true]
        have hall : ∀ k, 0 ≤ k → k < x → Kp key p k = Kp key p (x - 1) := fun k _ hk =>
          le'_anti (a3 k (x - 1) (by omega) (by omega)) (le'_trans (show le' (Kp key p (x - 1)) (Kp key p 0) from e) (a3 0 k (by omega) hk))
        refine k_descPart (hp.rev _ _) hn (by omega) (dn_eq (p := p) (fun i j hij hj => ?_) (Kp_rev_eq hsz hall))
        by_cases hjx : j < x
        · rw [hall i (by omega) (by omega), hall j (by omega) hjx]; exact le'_refl _
        · have ej : j = x := by omega
          subst ej
          by_cases hi : i = j
          · rw [hi]; exact le'_refl _
          · rw [hall i (by omega) (by omega)]; exact le'_of_lt hlt
    · rw [if_neg hgt]
      have ex : x = 1 := by omega
      subst ex
      refine k_descPart hp hn (by omega) fun i j hij hj => ?_
      by_cases hi : i = j
      · rw [hi]; exact le'_refl _
      · have hi0 : i = 0 := by omega
        have hj1 : j = 1 := by omega
        rw [hi0, hj1]
        exact le'_of_lt hlt
theorem k_place {k : Nat} (hp : Pm n p) (hk : k < n) (hu : Up key p k) : ∀ (f l r : Nat), l ≤ r → r ≤ k → r - l ≤ f → (∀ i, i < l → le' (Kp key p i) (Kp key p k)) → (∀ i, r ≤ i → i < k → lex (Kp key p k) (Kp key p i) = true) →
    KOk n (ltK key) (kas_place p k f l r) (fun x => x ≤ k ∧ (∀ i, i < x → le' (Kp key p i) (Kp key p k)) ∧ ∀ i, x ≤ i → i < k → lex (Kp key p k) (Kp key p i) = true)
  | 0, l, r, h1, h2, h3, h4, h5 => by
    have e : l = r := by omega
    subst e
    exact ⟨h2, h4, h5⟩
  | f + 1, l, r, h1, h2, h3, h4, h5 => by
    unfold kas_place
    by_cases hge : l ≥ r
    · rw [if_pos hge]
      have e : l = r := by omega
      subst e
      exact ⟨h2, h4, h5⟩
    · rw [if_neg hge]
      refine ⟨hp.lt hk, hp.lt (by omega), ?_⟩
      show KOk n (ltK key) (if lex (Kp key p k) (Kp key p ((l + r) / 2)) = true then _ else _) _
      cases e : lex (Kp key p k) (Kp key p ((l + r) / 2)) with
      | true => exact k_place hp hk hu f l ((l + r) / 2) (by omega) (by omega) (by omega) h4 fun i a b => lt_le' e (hu _ _ a b)
      | false => exact k_place hp hk hu f ((l + r) / 2 + 1) r (by omega) (by omega) (by omega) (fun i a => le'_trans (hu i ((l + r) / 2) (by omega) (by omega)) e) h5
theorem k_bin : ∀ (f : Nat) (p : Array Nat) (k : Nat), Pm n p → k + f = n → Up key p k → KOk n (ltK key) (kas_bin f p k) (fun p' => Pm n p' ∧ Up key p' n)
  | 0, p, k, hp, hk, hu => by
    have e : k = n := by omega
    subst e
    exact ⟨hp, hu⟩
  | f + 1, p, k, hp, hk, hu => by
    refine KOk.bind (KOk.mono (fun l hl => ?_) (k_place hp (by omega) hu k 0 k (by omega) (Nat.le_refl _) (by omega) (fun i hi => by omega) fun i a b => by omega))
    obtain ⟨a1, a2, a3⟩ := hl
    refine k_bin f _ (k + 1) (hp.bub _ _) (by omega) fun i j hij hj => ?_
    have hks : k < p.size := by rw [hp.size]; omega
    rw [Kp_bub hks (by omega), Kp_bub hks (by omega), show k - (k - l) = l by omega]
    repeat' split
    all_goals first
      | (exfalso; omega)
      | exact le'_refl _
      | exact a2 _ (by omega)
      | exact le'_of_lt (a3 _ (by omega) (by omega))
      | exact hu _ _ (by omega) (by omega)
/-- the whole -/
theorem k_sort (h : 1 ≤ n) : KOk n (ltK key) (kas_sort n) (fun p => Pm n p ∧ Up key p n) := by
  refine KOk.bind (KOk.mono (fun r hr => ?_) (k_count ⟨Array.Perm.refl _⟩ (Nat.le_refl n) h))
  obtain ⟨a1, a2, a3, a4⟩ := hr
  by_cases hlt : r.1 < n
  · rw [if_pos hlt]
    have e : max r.1 1 = r.1 := by omega
    rw [e]
    exact k_bin _ _ _ a1 (by omega) a4
  · rw [if_neg hlt]
    have e : r.1 = n := by omega
    rw [e] at a4
    exact ⟨a1, a4⟩
end
end NC
/-! ### rules of our own over the hand layer: heaps that keep, deep ==, sorted lists of paths, isinstance -/
namespace NC
open PySem PySem.Spec PyProof.Rows L2

/-! #### what a step keeps -/
/-- all that is tracked stays, but at L -/
def Keep (L : List Addr) (H H' : Hp) : Prop := ∀ b o, b ∉ L → H b = some o → H' b = some o
def Tups (H H' : Hp) : Prop := ∀ b xs, H b = some (.tup xs) → H' b = some (.tup xs)
section
variable {L L' : List Addr} {H H1 H2 H' : Hp} {p l : Addr} {o : HO} {xs ys : List V}
theorem Keep.refl (L : List Addr) (H : Hp) : Keep L H H := fun _ _ _ h => h
theorem Keep.trans (a : Keep L H H1) (b : Keep L H1 H2) : Keep L H H2 := fun c o n h => b c o n (a c o n h)
theorem Keep.mono (a : Keep L H H1) (h : ∀ x ∈ L, x ∈ L') : Keep L' H H1 := fun c o n q => a c o (fun z => n (h c z)) q
theorem Keep.of_same (a : Same H H1) : Keep L H H1 := fun c o _ q => a c o q
theorem Keep.to_same (a : Keep [] H H1) : Same H H1 := fun c o q => a c o (by simp) q
theorem same_new (hp : H p = none) : Same H (upd H p o) := fun b u h => by rw [upd_ne (ne_of_none h hp)]; exact h
theorem keep_set (h : l ∈ L) : Keep L H (upd H l o) := fun b u n q => by
  rw [upd_ne (fun z => n (by rw [z]; exact h))]; exact q
theorem Tups.refl (H : Hp) : Tups H H := fun _ _ h => h
theorem Tups.trans (a : Tups H H1) (b : Tups H1 H2) : Tups H H2 := fun c o h => b c o (a c o h)
theorem Tups.of_same (a : Same H H1) : Tups H H1 := fun c _ h => a c _ h
theorem Keep.tups (a : Keep L H H1) (h : ∀ x ∈ L, ∃ ys, H x = some (.lst ys)) : Tups H H1 := fun c ys q => a c _ (fun z => by
  obtain ⟨zs, e⟩ := h c z
  rw [e] at q; cases q) q
theorem Keep.tup1 (a : Keep [l] H H1) (h : H l = some (.lst xs)) : Tups H H1 := a.tups fun x hx => ⟨xs, by rw [List.mem_singleton.mp hx]; exact h⟩
theorem Keep.at (a : Keep [l] H H1) {b : Addr} {u : HO} (h : H b = some u) (n : b ≠ l) : H1 b = some u := a b u (by simpa using n) h
theorem Keep.sub (a : Keep [l] H H1) (h : l ∈ L) : Keep L H H1 := a.mono fun x hx => by rw [List.mem_singleton.mp hx]; exact h
theorem same_keep {H0 : Hp} (s : Same H0 H) (k : Keep L H H1) (n : ∀ x ∈ L, H0 x = none) : Same H0 H1 := fun b o h => k b o (fun z => by rw [n b z] at h; cases h) (s b o h)
theorem same_keep1 {H0 : Hp} (s : Same H0 H) (k : Keep [l] H H1) (n : H0 l = none) : Same H0 H1 := same_keep s k fun x hx => by rw [List.mem_singleton.mp hx]; exact n
theorem ne_kind {a b : Addr} {u v : HO} (h1 : H a = some u) (h2 : H b = some v) (d : u ≠ v) : a ≠ b := ne_of h1 h2 d
theorem lst_tup {a b : Addr} (h1 : H a = some (.lst xs)) (h2 : H b = some (.tup ys)) : a ≠ b := ne_of h1 h2 (by intro z; cases z)
theorem tup_lst {a b : Addr} (h1 : H a = some (.tup xs)) (h2 : H b = some (.lst ys)) : a ≠ b := ne_of h1 h2 (by intro z; cases z)
end

/-! #### tests -/
theorem ifT {c A B : Prop} [Decidable c] (hc : c) (h : A) : if decide c = true then A else B := by rw [decide_eq_true hc, if_pos rfl]; exact h
theorem ifF {c A B : Prop} [Decidable c] (hc : ¬ c) (h : B) : if decide c = true then A else B := by rw [decide_eq_false hc, if_neg Bool.false_ne_true]; exact h
theorem ifNT {c A B : Prop} [Decidable c] (hc : ¬ c) (h : A) : if (!decide c) = true then A else B := by rw [decide_eq_false hc]; exact h
theorem ifNF {c A B : Prop} [Decidable c] (hc : c) (h : B) : if (!decide c) = true then A else B := by rw [decide_eq_true hc]; exact h
theorem ifD {c A B : Prop} [Decidable c] (h1 : c → A) (h2 : ¬ c → B) : if decide c = true then A else B := by
  by_cases h : c
  · exact ifT h (h1 h)
  · exact ifF h (h2 h)
theorem ifB {b : Bool} {A B : Prop} (h1 : b = true → A) (h2 : b = false → B) : if b = true then A else B := by
  cases b with
  | true => exact h1 rfl
  | false => exact h2 rfl
theorem at0 {α : Type} {a : α} {r : List α} : atI (a :: r) 0 = some a := atI_nat (j := 0) rfl
theorem at1 {α : Type} {a b : α} {r : List α} : atI (a :: b :: r) 1 = some b := atI_nat (j := 1) rfl
theorem at2 {α : Type} {a b c : α} {r : List α} : atI (a :: b :: c :: r) 2 = some c := atI_nat (j := 2) rfl
theorem atL {α : Type} {xs : List α} {i : Int} (h0 : 0 ≤ i) (h1 : i < xs.length) : ∃ v, atI xs i = some v ∧ v ∈ xs := by
  have hj : i.toNat < xs.length := by omega
  refine ⟨xs[i.toNat], ?_, List.getElem_mem hj⟩
  have e : ((i.toNat : Nat) : Int) = i := by omega
  have q := atI_nat (xs := xs) (j := i.toNat) (v := xs[i.toNat]) (by simp [hj])
  rw [e] at q
  exact q
theorem small {n : Nat} (h : n ≤ 1000000) : n < sizeLine := by rw [sizeLine_eq]; omega
theorem small' {n : Nat} (h : n ≤ 1000000) : n ≤ sizeLine := Nat.le_of_lt (small h)

/-! #### terms in the heap -/
abbrev Tm := T Str
inductive TermAt (H : Hp) : V → Tm → Prop where
  | name {a : Addr} {w : Str} (h : H a = some (.tup [.str "name", .str w])) : TermAt H (.ref a) (.name w)
  | place {a : Addr} {n : Nat} (h : H a = some (.tup [.str "place", .int n])) : TermAt H (.ref a) (.place n)
  | form {a : Addr} {v : V} {b : Tm} (h : H a = some (.tup [.str "form", v])) (hb : TermAt H v b) : TermAt H (.ref a) (.form b)
  | call {a : Addr} {v u : V} {x y : Tm} (h : H a = some (.tup [.str "call", v, u])) (hx : TermAt H v x) (hy : TermAt H u y) : TermAt H (.ref a) (.call x y)
theorem TermAt.mono {H H' : Hp} {v : V} {t : Tm} (h : TermAt H v t) (k : Tups H H') : TermAt H' v t := by
  induction h with
  | name h => exact .name (k _ _ h)
  | place h => exact .place (k _ _ h)
  | form h _ ih => exact .form (k _ _ h) ih
  | call h _ _ i1 i2 => exact .call (k _ _ h) i1 i2
theorem TermAt.same {H H' : Hp} {v : V} {t : Tm} (h : TermAt H v t) (k : Same H H') : TermAt H' v t := h.mono (.of_same k)
/-- a term's tag -/
def tag : Tm → Str
  | .name _ => "name"
  | .place _ => "place"
  | .form _ => "form"
  | .call _ _ => "call"
theorem TermAt.tup {H : Hp} {v : V} {t : Tm} (h : TermAt H v t) : ∃ a x r, v = .ref a ∧ H a = some (.tup (.str (tag t) :: x :: r)) := by
  cases h with
  | name h => exact ⟨_, _, _, rfl, h⟩
  | place h => exact ⟨_, _, _, rfl, h⟩
  | form h _ => exact ⟨_, _, _, rfl, h⟩
  | call h _ _ => exact ⟨_, _, _, rfl, h⟩
theorem n_nf : ¬ (V.str "name" = V.str "form") := by decide +kernel
theorem n_nc : ¬ (V.str "name" = V.str "call") := by decide +kernel
theorem n_np : ¬ (V.str "name" = V.str "place") := by decide +kernel
theorem n_pf : ¬ (V.str "place" = V.str "form") := by decide +kernel
theorem n_pc : ¬ (V.str "place" = V.str "call") := by decide +kernel
theorem n_pn : ¬ (V.str "place" = V.str "name") := by decide +kernel
theorem n_fc : ¬ (V.str "form" = V.str "call") := by decide +kernel
theorem n_fn : ¬ (V.str "form" = V.str "name") := by decide +kernel
theorem n_fp : ¬ (V.str "form" = V.str "place") := by decide +kernel
theorem n_cf : ¬ (V.str "call" = V.str "form") := by decide +kernel
theorem n_cn : ¬ (V.str "call" = V.str "name") := by decide +kernel
theorem n_cp : ¬ (V.str "call" = V.str "place") := by decide +kernel
theorem tag_form (t : Tm) : decide (V.str (tag t) = V.str "form") = t.isForm := by
  cases t with
  | name _ => exact decide_eq_false n_nf
  | place _ => exact decide_eq_false n_pf
  | form _ => exact decide_eq_true rfl
  | call _ _ => exact decide_eq_false n_cf

/-! #### lists of things -/
theorem paired_snoc_inv {α β : Type} {F : α → β → Prop} : ∀ {xs : List α} {ys : List β} {y : β}, Paired F xs (ys ++ [y]) → ∃ xs' x, xs = xs' ++ [x] ∧ Paired F xs' ys ∧ F x y
  | [], [], _, h => nomatch h
  | [], _ :: _, _, h => nomatch h
  | x :: xs, [], y, .cons r t => by
    cases t
    exact ⟨[], x, rfl, .nil, r⟩
  | x :: xs, z :: ys, y, .cons r t => by
    obtain ⟨xs', x', e, p, q⟩ := paired_snoc_inv (xs := xs) (ys := ys) t
    exact ⟨x :: xs', x', by rw [e]; rfl, .cons r p, q⟩
theorem paired_snoc {α β : Type} {F : α → β → Prop} {x : α} {y : β} (q : F x y) : ∀ {xs : List α} {ys : List β}, Paired F xs ys → Paired F (xs ++ [x]) (ys ++ [y])
  | _, _, .nil => .cons q .nil
  | _, _, .cons r t => .cons r (paired_snoc q t)
theorem snoc_of {α : Type} {xs : List α} (h : xs ≠ []) : ∃ ys y, xs = ys ++ [y] := ⟨xs.dropLast, xs.getLast h, (List.dropLast_concat_getLast h).symm⟩
theorem paired_nil {α β : Type} {F : α → β → Prop} {xs : List α} (p : Paired F xs ([] : List β)) : xs = [] := by cases p; rfl
theorem paired_get {α β : Type} {F : α → β → Prop} : ∀ {xs : List α} {ys : List β} {i : Nat} {x : α}, Paired F xs ys → xs[i]? = some x → ∃ y, ys[i]? = some y ∧ F x y
  | _, _, _, _, .nil, e => by simp at e
  | _, _, 0, _, .cons r _, e => by simp at e; subst e; exact ⟨_, rfl, r⟩
  | _, _, i + 1, x, .cons _ t, e => by
    obtain ⟨u, h1, h2⟩ := paired_get (i := i) (x := x) t (by simpa using e)
    exact ⟨u, by simpa using h1, h2⟩
theorem paired_imp {α β : Type} {F G : α → β → Prop} (f : ∀ a b, F a b → G a b) : ∀ {xs : List α} {ys : List β}, Paired F xs ys → Paired G xs ys
  | _, _, .nil => .nil
  | _, _, .cons r t => .cons (f _ _ r) (paired_imp f t)

/-! #### argument lists without a star: the side conditions by the expressions' heads alone -/
def plainE : Expr → Bool
  | .Starred .. => false
  | _ => true
theorem star_plain {e : Expr} {es : List Expr} {env : Env} (h : plainE e = true) : starEach (e :: es) env = (false, eval e env) :: starEach es env := by
  cases e <;> first | rfl | exact (Bool.false_ne_true h).elim
theorem star_any {pos : Pos} {env : Env} : ∀ {es : List Expr}, es.all plainE = true → (backTo pos (starEach es env)).any (·.1) = false
  | [], _ => rfl
  | e :: es, h => by
    rw [List.all_cons, Bool.and_eq_true] at h
    rw [star_plain h.1]
    show (false || (backTo pos (starEach es env)).any (·.1)) = false
    rw [star_any h.2]
    rfl
theorem star_all {pos : Pos} {env : Env} : ∀ {es : List Expr}, es.all plainE = true → (backTo pos (starEach es env)).all (fun x => !x.1) = true
  | [], _ => rfl
  | e :: es, h => by
    rw [List.all_cons, Bool.and_eq_true] at h
    rw [star_plain h.1]
    show (true && (backTo pos (starEach es env)).all (fun x => !x.1)) = true
    rw [star_all h.2]
    rfl
theorem pa_c {X : Cx} {e : Expr} {es : List Expr} {te : TE} {t : TA} (ha : PE X e te) (hr : PA X es t) (h : plainE e = true := by rfl) : PA X (e :: es) (tCons te t) := pa_cons ha hr (star_plain h)
section
variable {X : Cx} {x : Str} {p pos : Pos} {e : Expr} {es : List Expr} {t : TA} {id T : String} {r : List V → Hp → VK → Prop}
theorem pCB (hc : CallR X (.builtin id) r) (hg : Gl X x) (hm : X.mg x = none) (hv : bootBuiltins x = some (.builtin id)) (ha : PA X (e :: es) t) (h : (e :: es).all plainE = true := by rfl) (hn : x ≠ "__name__" := by decide) (hdb : (x == ("__debug__" : Str)) = false := by decide) :
    PE X (.Call (.Name x p) (e :: es) [] pos) (tCB r t) := by
  rw [List.all_cons, Bool.and_eq_true] at h
  exact pe_callB hc hg hm hv ha hn hdb (star_plain h.1) (star_any h.2)
theorem pCT (hc : CallR X (.type T) r) (hg : Gl X x) (hm : X.mg x = none) (hv : bootBuiltins x = some (.type T)) (ha : PA X (e :: es) t) (h : (e :: es).all plainE = true := by rfl) (hn : x ≠ "__name__" := by decide) (hdb : (x == ("__debug__" : Str)) = false := by decide) :
    PE X (.Call (.Name x p) (e :: es) [] pos) (tCB r t) := by
  rw [List.all_cons, Bool.and_eq_true] at h
  exact pe_callTy hc hg hm hv ha hn hdb (star_plain h.1) (star_any h.2)
end

/-! #### calls, methods, displays: the heap behind them is a letter -/
/-- a def of the text, ready to be called by its name -/
def GF (P : Program) (w : World) (K : PySem.W.Frag) (mg : Str → Option Value) (base : Heap) (CX : CXT) (k : Nat) (x : Str) (ps : List Str) (sp : Sp) : Prop :=
  ∃ f fd, FnOk P w K mg base CX k f fd ps sp ∧ mg x = some (.ref f) ∧ PySem.W.keepIn K (.ref f) = true ∧ Binds K fd ps []
section
variable {X : Cx} {CX : CXT} {k : Nat} {ps : List Str} {sp : Sp} {E : XK} {x : Str} {p pos : Pos} {e : Expr} {es : List Expr} {t : TA}
theorem pe_gf (G : GF X.prog X.w X.K X.mg X.base CX k x ps sp) (hr : Room k X.A) (hg : Gl X x) (hx : Passes CX X E) (ha : PA X (e :: es) t) (h : (e :: es).all plainE = true := by rfl) (hdb : (x == ("__debug__" : Str)) = false := by decide) :
    PE X (.Call (.Name x p) (e :: es) [] pos) (tCall sp [] E t) := by
  obtain ⟨f, fd, F, hm, hk, hb⟩ := G
  rw [List.all_cons, Bool.and_eq_true] at h
  exact pe_call F hr hg hm hk hb .nil hx ha hdb (star_plain h.1) (star_any h.2)
end
section
variable {X : Cx}
theorem OpR.imp {f : Value → Value → Sem Value} {r r' : R2} (h : OpR X f r) (m : ∀ x y H Q, r' x y H Q → r x y H Q) : OpR X f r' := fun pins s σ H x y v u Q I rx ry q => h pins s σ H x y v u Q I rx ry (m _ _ _ _ q)
theorem CallR.imp {f : Value} {r r' : List V → Hp → VK → Prop} (h : CallR X f r) (m : ∀ xs H Q, r' xs H Q → r xs H Q) : CallR X f r' := fun pins s σ H xs us Q I rx q => h pins s σ H xs us Q I rx (m _ _ _ q)
theorem MtM.imp {id : String} {r r' : V → List V → Hp → VK → Prop} (h : MtM X id r) (m : ∀ x xs H Q, r' x xs H Q → r x xs H Q) : MtM X id r' := fun pins s σ H x xs v us Q I rx rs q => h pins s σ H x xs v us Q I rx rs (m _ _ _ _ q)
def rApp : V → List V → Hp → VK → Prop := fun x vs H Q => ∃ l xs y, x = .ref l ∧ vs = [y] ∧ H l = some (.lst xs) ∧ xs.length < sizeLine ∧ ∀ H', Keep [l] H H' → H' l = some (.lst (xs ++ [y])) → Q .non H'
theorem mt_app : MtM X "list.append" rApp := MtM.imp mt_append fun _ _ _ _ ⟨l, xs, y, e1, e2, h1, h2, q⟩ => ⟨l, xs, y, e1, e2, h1, h2, q _ (keep_set (by simp)) upd_same⟩
def rPp : V → List V → Hp → VK → Prop := fun x vs H Q => ∃ l xs y, x = .ref l ∧ vs = [] ∧ H l = some (.lst (xs ++ [y])) ∧ ∀ H', Keep [l] H H' → H' l = some (.lst xs) → Q y H'
theorem mt_pp : MtM X "list.pop" rPp := MtM.imp mt_pop fun _ _ _ _ ⟨l, xs, y, e1, e2, h1, q⟩ => ⟨l, _, y, e1, e2, h1, by simp, by
  have e : (xs ++ [y]).dropLast = xs := by simp
  rw [e]
  exact q _ (keep_set (by simp)) upd_same⟩
variable {o e : Expr} {to te : TE} {apos cpos : Pos}
/-- xs.append(e) -/
def tApp (K : PySem.W.Frag) (to te : TE) : TE := tBM K "list" rApp to (tCons te tNil)
theorem pApp (ho : PE X o to) (he : PE X e te) (h : plainE e = true := by rfl) (hbase : attributeBase o "append" X.env (eval o X.env) = eval o X.env := by rfl) (hline : (apos.endLine == cpos.line) = true := by rfl) :
    PE X (.Call (.Attribute o "append" apos) [e] [] cpos) (tApp X.K to te) :=
  pe_bm PySem.F.plainAttrs_list PySem.F.slot_list_append PySem.F.type_list_append mt_app ho (pa_c he pa_nil h) hbase (by
    rw [star_all (es := [e]) (by simp [h])]
    rfl) hline (star_plain h) rfl
/-- xs.pop() -/
def tPp (K : PySem.W.Frag) (to : TE) : TE := tBM0 K "list" rPp to
theorem pPop (ho : PE X o to) (hbase : attributeBase o "pop" X.env (eval o X.env) = eval o X.env := by rfl) (hline : (apos.endLine == cpos.line) = true := by rfl) : PE X (.Call (.Attribute o "pop" apos) [] [] cpos) (tPp X.K to) :=
  pe_bm0 PySem.F.plainAttrs_list PySem.F.slot_list_pop PySem.F.type_list_pop mt_pp ho hbase hline
variable {es : List Expr} {t : TA} {pos : Pos}
def tTp (t : TA) : TE := fun σ H Q => t σ H fun xs H1 => xs.length ≤ sizeLine ∧ ∀ p H', H1 p = none → Same H1 H' → H' p = some (.tup xs) → Q (.ref p) H'
def tLs (t : TA) : TE := fun σ H Q => t σ H fun xs H1 => xs.length ≤ sizeLine ∧ ∀ p H', H1 p = none → Same H1 H' → H' p = some (.lst xs) → Q (.ref p) H'
theorem pTup {x1} (h : PA X es t) : PE X (.Tuple es x1 pos) (tTp t) := by
  intro pins s σ H Q I hq
  refine wpAny_Tuple_spliced (thn (h pos pins s σ H _ I hq) fun us s1 ⟨xs, H1, I1, r, z, q⟩ => ⟨by rw [← r.length]; exact z, ?_⟩)
  have hf : H1 s1.heap.objs.size = none := I1.hok.fresh (Nat.le_refl _)
  exact ⟨.ref s1.heap.objs.size, upd H1 s1.heap.objs.size (.tup xs), I1.laid (t' := s1.toks) (fun b u e => Heap.get?_push_of_some _ e) (Nat.le_refl _) ⟨z, us, r, ⟨_, Heap.get?_push_size _ rfl, rfl, _, rfl⟩⟩, rfl, q _ _ hf (same_new hf) upd_same⟩
theorem pLst (h : PA X es t) : PE X (.List es pos) (tLs t) := by
  intro pins s σ H Q I hq
  refine wpAny_List_spliced (thn (h pos pins s σ H _ I hq) fun us s1 ⟨xs, H1, I1, r, z, q⟩ => ⟨by rw [← r.length]; exact z, ?_⟩)
  have hf : H1 s1.heap.objs.size = none := I1.hok.fresh (Nat.le_refl _)
  exact ⟨.ref s1.heap.objs.size, upd H1 s1.heap.objs.size (.lst xs), I1.laid (t' := s1.toks) (fun b u e => Heap.get?_push_of_some _ e) (Nat.le_refl _) ⟨z, us, 0, r, Heap.get?_push_size _ rfl⟩, rfl, q _ _ hf (same_new hf) upd_same⟩
/-- xs + ys -/
def rCt : R2 := fun x y H Q => ∃ l b xs zs, x = .ref l ∧ y = .ref b ∧ H l = some (.lst xs) ∧ H b = some (.lst zs) ∧ xs.length + zs.length ≤ sizeLine ∧ ∀ p H', H p = none → Same H H' → H' p = some (.lst (xs ++ zs)) → Q (.ref p) H'
theorem op_ct : OpR X (binaryOp .Add) rCt := OpR.imp op_cat fun _ _ _ _ ⟨l, b, xs, zs, e1, e2, h1, h2, h3, q⟩ => ⟨l, b, xs, zs, e1, e2, h1, h2, h3, fun p hp => q p _ hp (same_new hp) upd_same⟩
/-- xs[lo:hi], a list -/
def rSl (K : PySem.W.Frag) : V → Option Int → Option Int → Hp → VK → Prop := fun x lo hi H Q => ∃ a xs, x = .ref a ∧ SqL K H a xs ∧ ∀ p H', H p = none → Same H H' → H' p = some (.lst (cutV xs lo hi)) → Q (.ref p) H'
theorem sl_ls : SlR X (rSl X.K) := fun pins s σ H x v vl vu lo hi sl Q I rx h1 h2 h3 ⟨a, xs, e, hx, q⟩ => sl_list pins s σ H x v vl vu lo hi sl Q I rx h1 h2 h3 ⟨a, xs, e, hx, fun p hp => q p _ hp (same_new hp) upd_same⟩
/-- list(xs) -/
theorem call_lo : CallR X (.type "list") (fun xs H Q => ∃ p ys, xs = [.ref p] ∧ (SqL X.K H p ys ∨ SqT X.K H p ys) ∧ ∀ l H', H l = none → Same H H' → H' l = some (.lst ys) → Q (.ref l) H') :=
  CallR.imp call_list_of fun _ _ _ ⟨p, ys, e, h, q⟩ => ⟨p, ys, e, h, fun l hl => q l _ hl (same_new hl) upd_same⟩
end

/-! #### xs == [], xs != [] -/
section
variable {X : Cx}
def rNil (K : PySem.W.Frag) (ne : Bool) : R2 := fun x y H Q => ∃ a b xs, x = .ref a ∧ y = .ref b ∧ SqL K H a xs ∧ SqL K H b [] ∧ Q (.bl (if ne then !xs.isEmpty else xs.isEmpty)) H
theorem op_eqNil (hu : X.A.units < cLine) : OpR X (compareOp .Eq) (rNil X.K false) := by
  intro pins s σ H x y v u Q I rx ry h
  obtain ⟨a, b, xs, rfl, rfl, h1, h2, q⟩ := h
  cases rx; cases ry
  obtain ⟨its, r, pl, hz⟩ := I.list h1
  obtain ⟨its2, r2, pl2, _⟩ := I.list h2
  cases r2
  cases r with
  | nil => exact SeqAt.eq_listAt (e := fun _ => true) pl.isList pl2.isList rfl hu (fun j j1 => absurd j1 (by simp)) ⟨.bl true, H, I, rfl, q⟩
  | cons r1 rt => exact SeqAt.eq_list_lengthsAt pl.isList pl2.isList (by simp) hu ⟨.bl false, H, I, rfl, q⟩
theorem op_neNil (hu : X.A.units < cLine) : OpR X (compareOp .NotEq) (rNil X.K true) := by
  intro pins s σ H x y v u Q I rx ry h
  obtain ⟨a, b, xs, rfl, rfl, h1, h2, q⟩ := h
  cases rx; cases ry
  obtain ⟨its, r, pl, hz⟩ := I.list h1
  obtain ⟨its2, r2, pl2, _⟩ := I.list h2
  cases r2
  cases r with
  | nil => exact SeqAt.RcNeAt.lists (e := fun _ => true) pl.isList pl2.isList rfl hu (fun j j1 => absurd j1 (by simp)) X.prog X.w _ _ ⟨.bl false, H, I, rfl, q⟩
  | cons r1 rt => exact SeqAt.RcNeAt.lists_lengths pl.isList pl2.isList (by simp) hu X.prog X.w _ _ ⟨.bl true, H, I, rfl, q⟩
end

/-! #### data of ints, texts, tuples and lists, compared as a whole -/
inductive Dt where
  | int (i : Int)
  | str (x : Str)
  | tup (ds : List Dt)
  | lst (ds : List Dt)
mutual
def DAt (K : PySem.W.Frag) (H : Hp) : Dt → V → Prop
  | .int i, v => v = .int i
  | .str x, v => v = .str x
  | .tup ds, v => ∃ a xs, v = .ref a ∧ SqT K H a xs ∧ DsAt K H ds xs
  | .lst ds, v => ∃ a xs, v = .ref a ∧ SqL K H a xs ∧ DsAt K H ds xs
def DsAt (K : PySem.W.Frag) (H : Hp) : List Dt → List V → Prop
  | [], xs => xs = []
  | d :: ds, xs => ∃ x r, xs = x :: r ∧ DAt K H d x ∧ DsAt K H ds r
end
mutual
/-- deeper than n it is not -/
def Dt.Lim : Nat → Dt → Prop
  | _, .int _ => True
  | _, .str _ => True
  | 0, .tup _ => False
  | 0, .lst _ => False
  | n + 1, .tup ds => Dt.Lims n ds
  | n + 1, .lst ds => Dt.Lims n ds
def Dt.Lims : Nat → List Dt → Prop
  | _, [] => True
  | n, d :: ds => Dt.Lim n d ∧ Dt.Lims n ds
end
theorem DsAt.len {K : PySem.W.Frag} {H : Hp} : ∀ {ds : List Dt} {xs : List V}, DsAt K H ds xs → xs.length = ds.length
  | [], _, h => by
    have e : _ = [] := h
    rw [e]; rfl
  | d :: ds, _, h => by
    obtain ⟨x, r, e, _, h2⟩ := h
    rw [e, List.length_cons, List.length_cons, DsAt.len h2]
theorem DsAt.get {K : PySem.W.Frag} {H : Hp} : ∀ {ds : List Dt} {xs : List V} {j : Nat} {d : Dt}, DsAt K H ds xs → ds[j]? = some d → ∃ x, xs[j]? = some x ∧ DAt K H d x
  | [], _, _, _, _, e => by simp at e
  | d :: ds, _, 0, d', h, e => by
    obtain ⟨x, r, e1, h1, _⟩ := h
    simp at e
    subst e
    exact ⟨x, by rw [e1]; rfl, h1⟩
  | d :: ds, _, j + 1, d', h, e => by
    obtain ⟨x, r, e1, _, h2⟩ := h
    obtain ⟨y, e2, h3⟩ := DsAt.get (j := j) h2 (by simpa using e)
    exact ⟨y, by rw [e1]; simpa using e2, h3⟩
theorem Lims.get : ∀ {n : Nat} {ds : List Dt} {j : Nat} {d : Dt}, Dt.Lims n ds → ds[j]? = some d → Dt.Lim n d
  | _, [], _, _, _, e => by simp at e
  | _, d :: ds, 0, d', h, e => by
    simp at e
    subst e
    exact h.1
  | _, d :: ds, j + 1, d', h, e => Lims.get (j := j) h.2 (by simpa using e)
section
variable {X : Cx} {pins : List (Addr × Obj)} {σ : L2.St} {H : Hp} {s : Shared}
theorem not_both (I : Inv X pins σ H s) {a : Addr} {b c : List V} (q1 : SqL X.K H a b) (q2 : SqT X.K H a c) : False := by
  obtain ⟨_, _, pl, _⟩ := I.list q1
  obtain ⟨_, _, pt, _⟩ := I.tuple q2
  obtain ⟨o, n, h1, c, _⟩ := pl
  obtain ⟨o', h1', c', _⟩ := pt
  rw [h1] at h1'
  cases h1'
  rw [c] at c'
  injection c' with z
  exact absurd z (by decide)
theorem ds_inj {n : Nat} (h : ∀ {d e : Dt} {x : V}, Dt.Lim n d → DAt X.K H d x → DAt X.K H e x → d = e) : ∀ {ds es : List Dt} {xs : List V}, Dt.Lims n ds → DsAt X.K H ds xs → DsAt X.K H es xs → ds = es
  | [], [], _, _, _, _ => rfl
  | [], e :: es, _, _, h1, h2 => by
    have e1 : _ = [] := h1
    obtain ⟨x, r, e2, _⟩ := h2
    rw [e1] at e2; cases e2
  | d :: ds, [], _, _, h1, h2 => by
    have e1 : _ = [] := h2
    obtain ⟨x, r, e2, _⟩ := h1
    rw [e1] at e2; cases e2
  | d :: ds, e :: es, _, l, h1, h2 => by
    obtain ⟨x, r, e1, a1, b1⟩ := h1
    obtain ⟨x', r', e2, a2, b2⟩ := h2
    rw [e1] at e2
    cases e2
    rw [h l.1 a1 a2, ds_inj h l.2 b1 b2]
theorem d_inj (I : Inv X pins σ H s) : ∀ (n : Nat) {d e : Dt} {x : V}, Dt.Lim n d → DAt X.K H d x → DAt X.K H e x → d = e := by
  intro n
  induction n with
  | zero =>
    intro d e x l h1 h2
    cases d with
    | tup ds => exact l.elim
    | lst ds => exact l.elim
    | int i =>
      have e1 : x = _ := h1
      subst e1
      cases e with
      | int j => have e2 : V.int i = V.int j := h2; cases e2; rfl
      | str j => have e2 : V.int i = V.str j := h2; cases e2
      | tup es => obtain ⟨a, xs, e2, _⟩ := h2; cases e2
      | lst es => obtain ⟨a, xs, e2, _⟩ := h2; cases e2
    | str i =>
      have e1 : x = _ := h1
      subst e1
      cases e with
      | int j => have e2 : V.str i = V.int j := h2; cases e2
      | str j => have e2 : V.str i = V.str j := h2; cases e2; rfl
      | tup es => obtain ⟨a, xs, e2, _⟩ := h2; cases e2
      | lst es => obtain ⟨a, xs, e2, _⟩ := h2; cases e2
  | succ n ih =>
    intro d e x l h1 h2
    cases d with
    | int i =>
      have e1 : x = _ := h1
      subst e1
      cases e with
      | int j => have e2 : V.int i = V.int j := h2; cases e2; rfl
      | str j => have e2 : V.int i = V.str j := h2; cases e2
      | tup es => obtain ⟨a, xs, e2, _⟩ := h2; cases e2
      | lst es => obtain ⟨a, xs, e2, _⟩ := h2; cases e2
    | str i =>
      have e1 : x = _ := h1
      subst e1
      cases e with
      | int j => have e2 : V.str i = V.int j := h2; cases e2
      | str j => have e2 : V.str i = V.str j := h2; cases e2; rfl
      | tup es => obtain ⟨a, xs, e2, _⟩ := h2; cases e2
      | lst es => obtain ⟨a, xs, e2, _⟩ := h2; cases e2
    | tup ds =>
      obtain ⟨a, xs, rfl, q1, r1⟩ := h1
      cases e with
      | int j => have e2 : V.ref a = V.int j := h2; cases e2
      | str j => have e2 : V.ref a = V.str j := h2; cases e2
      | tup es =>
        obtain ⟨a', ys, e2, q2, r2⟩ := h2
        cases e2
        cases I.tuple_inj q1 q2
        rw [ds_inj (n := n) (fun l a b => ih l a b) l r1 r2]
      | lst es =>
        obtain ⟨a', ys, e2, q2, r2⟩ := h2
        cases e2
        exact (not_both I q2 q1).elim
    | lst ds =>
      obtain ⟨a, xs, rfl, q1, r1⟩ := h1
      cases e with
      | int j => have e2 : V.ref a = V.int j := h2; cases e2
      | str j => have e2 : V.ref a = V.str j := h2; cases e2
      | lst es =>
        obtain ⟨a', ys, e2, q2, r2⟩ := h2
        cases e2
        cases I.list_inj q1 q2
        rw [ds_inj (n := n) (fun l a b => ih l a b) l r1 r2]
      | tup es =>
        obtain ⟨a', ys, e2, q2, r2⟩ := h2
        cases e2
        exact (not_both I q1 q2).elim

theorem tupAt (I : Inv X pins σ H s) {a : Addr} {xs : List V} (q : SqT X.K H a xs) : ∃ its : List Value, Vals xs its ∧ s.heap.IsTuple a its.toArray := let ⟨its, r, pt, _⟩ := I.tuple q; ⟨its, r, pt⟩
theorem lstAt (I : Inv X pins σ H s) {a : Addr} {xs : List V} (q : SqL X.K H a xs) : ∃ its : List Value, Vals xs its ∧ s.heap.IsList a its.toArray := let ⟨its, r, pt, _⟩ := I.list q; ⟨its, r, pt.isList⟩
open PySem.SeqAt in
theorem d_eq_int (I : Inv X pins σ H s) {i : Int} {t : Tok} {e : Dt} {y : V} {u : Value} {A : Around} (hu : A.units < cLine) (h2 : DAt X.K H e y) (ry : RelV y u) : ∃ b : Bool, (b = true ↔ Dt.int i = e) ∧ EqAt A s (.int i t) u b := by
  cases e with
  | int j =>
    have e2 : y = _ := h2
    subst e2
    obtain ⟨t', rfl⟩ := ry
    exact ⟨i == j, by simp, .int_int i t j t'⟩
  | str j =>
    have e2 : y = _ := h2
    subst e2
    obtain ⟨t', rfl⟩ := ry
    exact ⟨false, by simp, .int_str i t j t'⟩
  | tup es =>
    obtain ⟨a, xs, rfl, q, _⟩ := h2
    cases ry
    obtain ⟨_, _, pt⟩ := tupAt I q
    exact ⟨false, by simp, .int_tuple i t pt hu⟩
  | lst es =>
    obtain ⟨a, xs, rfl, q, _⟩ := h2
    cases ry
    obtain ⟨_, _, pt⟩ := lstAt I q
    exact ⟨false, by simp, .int_list i t pt hu⟩
open PySem.SeqAt in
theorem d_eq_str (I : Inv X pins σ H s) {i : Str} {t : Tok} {e : Dt} {y : V} {u : Value} {A : Around} (hu : A.units < cLine) (h2 : DAt X.K H e y) (ry : RelV y u) : ∃ b : Bool, (b = true ↔ Dt.str i = e) ∧ EqAt A s (.str i t) u b := by
  cases e with
  | int j =>
    have e2 : y = _ := h2
    subst e2
    obtain ⟨t', rfl⟩ := ry
    exact ⟨false, by simp, .str_int i t j t'⟩
  | str j =>
    have e2 : y = _ := h2
    subst e2
    obtain ⟨t', rfl⟩ := ry
    exact ⟨i == j, by simp, .str_str i t j t'⟩
  | tup es =>
    obtain ⟨a, xs, rfl, q, _⟩ := h2
    cases ry
    obtain ⟨_, _, pt⟩ := tupAt I q
    exact ⟨false, by simp, .str_tuple i t pt hu⟩
  | lst es =>
    obtain ⟨a, xs, rfl, q, _⟩ := h2
    cases ry
    obtain ⟨_, _, pt⟩ := lstAt I q
    exact ⟨false, by simp, .str_list i t pt hu⟩
open Classical in
/-- whether two lists of data agree at a place -/
noncomputable def agree (ds es : List Dt) (j : Nat) : Bool := decide (ds[j]? = es[j]?)
open Classical in
theorem agree_all {ds es : List Dt} (h : ds.length = es.length) : ((List.range ds.length).all (agree ds es) = true) ↔ ds = es := by
  rw [List.all_eq_true]
  constructor
  · intro q
    refine List.ext_getElem? fun j => ?_
    by_cases hj : j < ds.length
    · exact of_decide_eq_true (q j (List.mem_range.mpr hj))
    · rw [List.getElem?_eq_none (by omega), List.getElem?_eq_none (by omega)]
  · intro e j _
    rw [e]
    exact decide_eq_true rfl
open Classical in
/-- the places' answers, by an answer for two data -/
theorem d_each {n : Nat} {A : Around} (ih : ∀ {d e : Dt} {x y : V} {v u : Value}, Dt.Lim n d → DAt X.K H d x → DAt X.K H e y → RelV x v → RelV y u → ∃ b : Bool, (b = true ↔ d = e) ∧ PySem.SeqAt.EqAt A s v u b)
    {ds es : List Dt} {xs ys : List V} {its its2 : List Value} (l : Dt.Lims n ds) (h1 : DsAt X.K H ds xs) (h2 : DsAt X.K H es ys) (r1 : Vals xs its) (r2 : Vals ys its2) :
    ∀ j (j1 : j < its.toArray.size) (j2 : j < its2.toArray.size), PySem.SeqAt.EqAt A s its.toArray[j] its2.toArray[j] (agree ds es j) := by
  intro j j1 j2
  have a1 : j < its.length := by simpa using j1
  have a2 : j < its2.length := by simpa using j2
  have b1 : j < ds.length := by rw [← h1.len, r1.length]; exact a1
  have b2 : j < es.length := by rw [← h2.len, r2.length]; exact a2
  have c1 : ds[j]? = some ds[j] := by simp [b1]
  have c2 : es[j]? = some es[j] := by simp [b2]
  obtain ⟨x, ex, hx⟩ := h1.get c1
  obtain ⟨y, ey, hy⟩ := h2.get c2
  obtain ⟨v, ev, rv⟩ := r1.get ex
  obtain ⟨u, eu, ru⟩ := r2.get ey
  obtain ⟨b, hb, q⟩ := ih (Lims.get l c1) hx hy rv ru
  have ev' : its.toArray[j] = v := by
    have := (List.getElem?_eq_some_iff.mp ev).2
    simpa using this
  have eu' : its2.toArray[j] = u := by
    have := (List.getElem?_eq_some_iff.mp eu).2
    simpa using this
  rw [ev', eu']
  have e : agree ds es j = b := by
    unfold agree
    rw [c1, c2]
    cases b with
    | true => exact decide_eq_true (by rw [hb.mp rfl])
    | false => exact decide_eq_false fun z => Bool.false_ne_true (hb.mpr (Option.some.inj z))
  rw [e]
  exact q
theorem in1_units (A : Around) : A.in1.units = A.units + 1 := rfl
open PySem.SeqAt in
/-- == and != of two tuples or lists, by == of what they hold -/
theorem d_rc (I : Inv X pins σ H s) {n : Nat} {A : Around} (hu0 : A.units < cLine)
    (ih : ∀ {d e : Dt} {x y : V} {v u : Value}, Dt.Lim n d → DAt X.K H d x → DAt X.K H e y → RelV x v → RelV y u → ∃ b : Bool, (b = true ↔ d = e) ∧ EqAt A.in1 s v u b)
    {d e : Dt} {a b : Addr} (l : Dt.Lim (n + 1) d) (h1 : DAt X.K H d (.ref a)) (h2 : DAt X.K H e (.ref b)) : ∃ k : Bool, (k = true ↔ d = e) ∧ RcAt A s (.ref a) (.ref b) k ∧ RcNeAt A s (.ref a) (.ref b) (!k) := by
  cases d with
  | int i => have e1 : V.ref a = V.int i := h1; cases e1
  | str i => have e1 : V.ref a = V.str i := h1; cases e1
  | tup ds =>
    obtain ⟨a', xs, e1, q1, r1⟩ := h1
    cases e1
    obtain ⟨its, v1, p1⟩ := tupAt I q1
    cases e with
    | int i => have e1 : V.ref b = V.int i := h2; cases e1
    | str i => have e1 : V.ref b = V.str i := h2; cases e1
    | lst es =>
      obtain ⟨b', ys, e2, q2, r2⟩ := h2
      cases e2
      obtain ⟨its2, v2, p2⟩ := lstAt I q2
      exact ⟨false, by simp, .tuple_list p1 p2 hu0, .tuple_list p1 p2 hu0⟩
    | tup es =>
      obtain ⟨b', ys, e2, q2, r2⟩ := h2
      cases e2
      obtain ⟨its2, v2, p2⟩ := tupAt I q2
      have he := d_each ih l r1 r2 v1 v2
      refine ⟨_, ?_, RcAt.tuples p1 p2 hu0 he, RcNeAt.tuples p1 p2 hu0 he⟩
      have z1 : its.toArray.size = ds.length := by rw [List.size_toArray, ← v1.length, r1.len]
      have z2 : its2.toArray.size = es.length := by rw [List.size_toArray, ← v2.length, r2.len]
      rw [z1, z2]
      by_cases hl : ds.length = es.length
      · rw [← hl, Nat.min_self, show (ds.length == ds.length) = true by simp, Bool.and_true, agree_all hl]
        exact ⟨fun z => by rw [z], fun z => by injection z⟩
      · rw [show (ds.length == es.length) = false by simpa using hl, Bool.and_false]
        exact ⟨fun z => by (cases z), fun z => by injection z with z; rw [z] at hl; exact absurd rfl hl⟩
  | lst ds =>
    obtain ⟨a', xs, e1, q1, r1⟩ := h1
    cases e1
    obtain ⟨its, v1, p1⟩ := lstAt I q1
    cases e with
    | int i => have e1 : V.ref b = V.int i := h2; cases e1
    | str i => have e1 : V.ref b = V.str i := h2; cases e1
    | tup es =>
      obtain ⟨b', ys, e2, q2, r2⟩ := h2
      cases e2
      obtain ⟨its2, v2, p2⟩ := tupAt I q2
      exact ⟨false, by simp, .list_tuple p1 p2 hu0, .list_tuple p1 p2 hu0⟩
    | lst es =>
      obtain ⟨b', ys, e2, q2, r2⟩ := h2
      cases e2
      obtain ⟨its2, v2, p2⟩ := lstAt I q2
      have z1 : its.toArray.size = ds.length := by rw [List.size_toArray, ← v1.length, r1.len]
      have z2 : its2.toArray.size = es.length := by rw [List.size_toArray, ← v2.length, r2.len]
      by_cases hl : ds.length = es.length
      · have he := d_each ih l r1 r2 v1 v2
        refine ⟨_, ?_, RcAt.lists p1 p2 (by rw [z1, z2, hl]) hu0 he, RcNeAt.lists p1 p2 (by rw [z1, z2, hl]) hu0 he⟩
        rw [z1, agree_all hl]
        exact ⟨fun z => by rw [z], fun z => by injection z⟩
      · refine ⟨false, ?_, RcAt.lists_lengths p1 p2 (by rw [z1, z2]; simpa using hl) hu0, RcNeAt.lists_lengths p1 p2 (by rw [z1, z2]; simpa using hl) hu0⟩
        exact ⟨fun z => by (cases z), fun z => by injection z with z; rw [z] at hl; exact absurd rfl hl⟩
open PySem.SeqAt in
/-- == of two data -/
theorem d_eq (I : Inv X pins σ H s) : ∀ (n : Nat) {d e : Dt} {x y : V} {v u : Value} {A : Around}, Dt.Lim n d → A.units + n < cLine → DAt X.K H d x → DAt X.K H e y → RelV x v → RelV y u → ∃ b : Bool, (b = true ↔ d = e) ∧ EqAt A s v u b := by
  have atom : ∀ (n : Nat) {d e : Dt} {x y : V} {v u : Value} {A : Around}, (∀ a, x ≠ .ref a) → A.units < cLine → DAt X.K H d x → DAt X.K H e y → RelV x v → RelV y u → ∃ b : Bool, (b = true ↔ d = e) ∧ EqAt A s v u b := by
    intro n d e x y v u A hx hu h1 h2 rx ry
    cases d with
    | int i =>
      have e1 : x = _ := h1
      subst e1
      obtain ⟨t, rfl⟩ := rx
      exact d_eq_int I hu h2 ry
    | str i =>
      have e1 : x = _ := h1
      subst e1
      obtain ⟨t, rfl⟩ := rx
      exact d_eq_str I hu h2 ry
    | tup ds => obtain ⟨a, xs, e1, _⟩ := h1; exact absurd e1 (hx a)
    | lst ds => obtain ⟨a, xs, e1, _⟩ := h1; exact absurd e1 (hx a)
  intro n
  induction n with
  | zero =>
    intro d e x y v u A l hu h1 h2 rx ry
    refine atom 0 (fun a => ?_) (by omega) h1 h2 rx ry
    rintro rfl
    cases d with
    | int i => have e1 : V.ref a = V.int i := h1; cases e1
    | str i => have e1 : V.ref a = V.str i := h1; cases e1
    | tup ds => exact l.elim
    | lst ds => exact l.elim
  | succ n ih =>
    intro d e x y v u A l hu h1 h2 rx ry
    have hu0 : A.units < cLine := by omega
    by_cases hx : ∃ a, x = .ref a
    · obtain ⟨a, rfl⟩ := hx
      cases rx
      by_cases hy : ∃ b, y = .ref b
      · obtain ⟨b, rfl⟩ := hy
        cases ry
        by_cases hab : a = b
        · subst hab
          have e' := d_inj I (n + 1) l h1 h2
          exact ⟨true, by simp [e'], .same _⟩
        · obtain ⟨k, h3, h4, _⟩ := d_rc I hu0 (fun {d e x y v u} l a b c d' => ih (d := d) (e := e) (x := x) (y := y) (v := v) (u := u) l (by rw [in1_units]; omega) a b c d') l h1 h2
          exact ⟨k, h3, .of_refs hab h4⟩
      · have q : ∀ k : Bool, k = false → (k = true ↔ d = e) := by
          intro k hk
          subst hk
          refine ⟨fun z => by (cases z), fun z => ?_⟩
          subst z
          cases d with
          | int i => have e1 : V.ref a = V.int i := h1; cases e1
          | str i => have e1 : V.ref a = V.str i := h1; cases e1
          | tup ds => obtain ⟨b, xs, e1, _⟩ := h2; exact absurd ⟨b, e1⟩ hy
          | lst ds => obtain ⟨b, xs, e1, _⟩ := h2; exact absurd ⟨b, e1⟩ hy
        cases e with
        | tup es => obtain ⟨b, xs, e1, _⟩ := h2; exact absurd ⟨b, e1⟩ hy
        | lst es => obtain ⟨b, xs, e1, _⟩ := h2; exact absurd ⟨b, e1⟩ hy
        | int j =>
          have e2 : y = _ := h2
          subst e2
          obtain ⟨t', rfl⟩ := ry
          cases d with
          | int i => have e1 : V.ref a = V.int i := h1; cases e1
          | str i => have e1 : V.ref a = V.str i := h1; cases e1
          | tup ds =>
            obtain ⟨a', xs, e1, q1, r1⟩ := h1
            cases e1
            obtain ⟨its, v1, p1⟩ := tupAt I q1
            exact ⟨false, q _ rfl, .tuple_int j t' p1 hu0⟩
          | lst ds =>
            obtain ⟨a', xs, e1, q1, r1⟩ := h1
            cases e1
            obtain ⟨its, v1, p1⟩ := lstAt I q1
            exact ⟨false, q _ rfl, .list_int j t' p1 hu0⟩
        | str j =>
          have e2 : y = _ := h2
          subst e2
          obtain ⟨t', rfl⟩ := ry
          cases d with
          | int i => have e1 : V.ref a = V.int i := h1; cases e1
          | str i => have e1 : V.ref a = V.str i := h1; cases e1
          | tup ds =>
            obtain ⟨a', xs, e1, q1, r1⟩ := h1
            cases e1
            obtain ⟨its, v1, p1⟩ := tupAt I q1
            exact ⟨false, q _ rfl, .tuple_str j t' p1 hu0⟩
          | lst ds =>
            obtain ⟨a', xs, e1, q1, r1⟩ := h1
            cases e1
            obtain ⟨its, v1, p1⟩ := lstAt I q1
            exact ⟨false, q _ rfl, .list_str j t' p1 hu0⟩
    · exact atom n (fun a z => hx ⟨a, z⟩) hu0 h1 h2 rx ry
end
section
variable {X : Cx}
/-- the two data are told: of what == says, it is known what it means -/
def rD (K : PySem.W.Frag) (A : Around) (ne : Bool) : R2 := fun x y H Q => ∃ n d e a b, x = .ref a ∧ y = .ref b ∧ Dt.Lim (n + 1) d ∧ A.units + n + 1 < cLine ∧ DAt K H d x ∧ DAt K H e y ∧ ∀ k : Bool, (k = true ↔ d = e) → Q (.bl (if ne then !k else k)) H
theorem op_eqD : OpR X (compareOp .Eq) (rD X.K X.A false) := by
  intro pins s σ H x y v u Q I rx ry h
  obtain ⟨n, d, e, a, b, rfl, rfl, hl, hu, h1, h2, q⟩ := h
  cases rx; cases ry
  obtain ⟨k, h3, h4, _⟩ := d_rc I (A := X.A) (by omega) (fun {d e x y v u} l a b c d' => d_eq I n l (by rw [in1_units]; omega) a b c d') hl h1 h2
  exact h4 X.prog X.w _ _ ⟨.bl k, H, I, rfl, q k h3⟩
theorem op_neD : OpR X (compareOp .NotEq) (rD X.K X.A true) := by
  intro pins s σ H x y v u Q I rx ry h
  obtain ⟨n, d, e, a, b, rfl, rfl, hl, hu, h1, h2, q⟩ := h
  cases rx; cases ry
  obtain ⟨k, h3, _, h4⟩ := d_rc I (A := X.A) (by omega) (fun {d e x y v u} l a b c d' => d_eq I n l (by rw [in1_units]; omega) a b c d') hl h1 h2
  exact h4 X.prog X.w _ _ ⟨.bl (!k), H, I, rfl, q k h3⟩

/-! #### isinstance of one built-in class -/
theorem call_isi : CallR X (.builtin "isinstance") (fun xs H Q => ∃ x n t b, xs = [x, .ty n] ∧ TyOf X.K H x t ∧ PySem.W.kitOne X.K t (.type n) = some b ∧ Q (.bl b) H) := by
  intro pins s σ H xs us Q I r h
  obtain ⟨x, n, t, b, rfl, h1, h2, q⟩ := h
  obtain ⟨u, w', rfl, r1, r2⟩ := vals2 r
  cases (show w' = Value.type n from r2)
  exact isinst_ok I r1 h1 h2 fun tk => ⟨.bl b, H, I.tok tk, rfl, q⟩
end
/-- a list of whole numbers stands there -/
def PathV (H : Hp) (v : V) (p : List Int) : Prop := ∃ l, v = .ref l ∧ H l = some (.lst (p.map V.int))
theorem PathV.same {H H' : Hp} {v : V} {p : List Int} (h : PathV H v p) (s : Same H H') : PathV H' v p := let ⟨l, e, q⟩ := h; ⟨l, e, s _ _ q⟩
theorem kit_ii (K : PySem.W.Frag) : PySem.W.kitOne K (.type "int") (.type "int") = some true := by rfl
theorem kit_ib (K : PySem.W.Frag) : PySem.W.kitOne K (.type "int") (.type "bool") = some false := by first | rfl | kernel_rfl
theorem kit_ll (K : PySem.W.Frag) : PySem.W.kitOne K (.type "list") (.type "list") = some true := by rfl
theorem kit_tt (K : PySem.W.Frag) : PySem.W.kitOne K (.type "tuple") (.type "tuple") = some true := by rfl
theorem kit_ss (K : PySem.W.Frag) : PySem.W.kitOne K (.type "str") (.type "str") = some true := by rfl
end NC
/-! ### sorted(found), found a list of lists of whole numbers -/
namespace NC
open PySem PySem.Spec PyProof.Rows L2
section
open PySem.W
variable {α : Type} {n : Nat} {lt : Nat → Nat → Bool} {cmp : Nat → Nat → (Bool → Shared → Prop) → Shared → Prop} {s : Shared}
theorem kasWp_of {R : α → Prop} {Q : α → Shared → Prop} (ask : ∀ i j C, i < n → j < n → C (lt i j) s → cmp i j C s) (fin : ∀ a, R a → Q a s) : ∀ {t : KasT α}, KOk n lt t R → t.kasWp cmp Q s
  | .ret a, h => fin a h
  | .ask i j k, h => ask i j _ h.1 h.2.1 (kasWp_of ask fin (t := k (lt i j)) h.2.2)
end
section
variable {prog : Program} {w : World} {A : Around} {E : Value → Shared → Prop} {s : Shared}
/-- two lists of whole numbers, asked by the sort -/
theorem lt_lists {a b : Addr} {xs ys : List Value} {ns ms : List Int} {Q : Bool → Shared → Prop} (hu : A.units < cLine) (ha : s.heap.IsList a xs.toArray) (hb : s.heap.IsList b ys.toArray) (hx : IntsAre xs ns) (hy : IntsAre ys ms)
    (h : Q (lex ns ms) s) : wpAny (model prog w) A (keyLt' oneType' (.ref a) (.ref b)) Q E s := by
  obtain ⟨⟨cls, dd, data, sl⟩, ho, hc, n, hd⟩ := id ha
  obtain ⟨⟨cls2, dd2, data2, sl2⟩, ho2, hc2, n2, hd2⟩ := id hb
  simp only at hc hd hc2 hd2
  subst hc hd hc2 hd2
  rw [keyLt'_oneType, oneLt'_eq]
  simp only [if_true]
  refine wpAny_bind (wpAny_cRoomFor hu (wpAny_bind (wpAny_callSpecialIfBound?_slot ⟨_, ho, rfl⟩ PySem.F.slot_list_lt
    (call_meets PySem.F.slot_list_lt ⟨_, ho, rfl⟩ PySem.F.entry_list_lt (PySem.F.args_list_lt_2 _ _) (list_lt a b xs.toArray ys.toArray n n2 dd dd2 sl sl2 ns ms (by simpa using hx) (by simpa using hy)) ⟨ho, ho2, ?_⟩))))
  exact wpAny_truthy_bool h
theorem snd_zip : ∀ vs : List Value, (vs.zip vs).map (·.2) = vs
  | [] => rfl
  | v :: r => by rw [List.zip_cons_cons, List.map_cons, snd_zip r]
theorem snd_pairs (vs : List Value) : (pairsOf vs).map (·.2) = vs.toArray := by
  apply Array.toList_inj.mp
  rw [Array.toList_map, pairsOf_toList, snd_zip]
/-- no item, or one -/
theorem sorted_short {l : Addr} {vs : List Value} {Q : Value → Shared → Prop} (hl : s.heap.IsList l vs.toArray) (h2 : vs.length < 2) (h : Q (.ref (s.heap.objs.size + 1)) { s with heap := sortedAll s.heap vs vs.toArray }) :
    wpAny (model prog w) A (call (.builtin "sorted") [.ref l]) Q E s := by
  refine Calls.call_function_entry kind_sorted plain_sorted entry_sorted (args_sorted1 _) (show wpAny _ _ (Builtin.«sorted» _) _ _ _ from ?_)
  unfold Builtin.«sorted»
  refine wpAny_bind (m := checkCount "sorted" 1 1 _) (wpAny_pure (wpAny_bind (collect_list hl (wpAny_bind (wpAny_newList ?_ (by rw [sizeLine_eq]; omega))) (by rw [sizeLine_eq]; omega))))
  have z : ((s.heap.push (seqObj "list" #[] 0)).update s.heap.objs.size (Obj.mapSeq (· ++ vs.toArray))).objs.size = s.heap.objs.size + 1 := by rw [Heap.size_update, size_push']
  generalize hG : (s.heap.push (seqObj "list" #[] 0)).update s.heap.objs.size (Obj.mapSeq (· ++ vs.toArray)) = G at z
  have ho : (G.push (seqObj "list" vs.toArray 0)).get? (s.heap.objs.size + 1) = some (seqObj "list" vs.toArray 0) := by rw [← z]; exact Heap.get?_push_size _ rfl
  show wpAny _ _ _ _ _ { s with heap := G.push (seqObj "list" vs.toArray 0) }
  rw [z]
  refine wpAny_bind (wpAny_holding (wpAny_call_entry slot_list_sort ⟨_, ho, rfl⟩ entry_list_sort ?_ (args_list_sort _)))
  rw [list_sort_plain]
  refine wpAny_bind (listItems_at ho rfl (wpAny_bind (listUpdate_at ho rfl ?_ (by rw [List.size_toArray, sizeLine_eq]; omega) (by show (#[] : Array Value).size ≤ _; simp))))
  obtain ⟨e1, ho1⟩ : ∃ e1, ((G.push (seqObj "list" vs.toArray 0)).update (s.heap.objs.size + 1) (Obj.mapSeq fun _ => #[])).get? (s.heap.objs.size + 1) = some (seqObj "list" #[] e1) := ⟨_, get?_update_seq ho (fun _ => #[])⟩
  refine wpAny_bind (seqEpoch_at ho1 rfl (wpAny_bind (wpAny_newTuple (wpAny_bind (wpAny_newList (wpAny_holding ?_))))))
  have hlt : s.heap.objs.size + 1 < (G.push (seqObj "list" vs.toArray 0)).objs.size := Heap.lt_size ho
  have ho6 : ((((G.push (seqObj "list" vs.toArray 0)).update (s.heap.objs.size + 1) (Obj.mapSeq fun _ => #[])).push (seqObj "tuple" vs.toArray 0)).push (seqObj "list" #[] 0)).get? (s.heap.objs.size + 1) = some (seqObj "list" #[] e1) := by
    rw [Heap.get?_push_ne _ _ _ (by rw [size_push', Heap.size_update]; exact Nat.ne_of_lt (Nat.lt_succ_of_lt hlt)), Heap.get?_push_ne _ _ _ (by rw [Heap.size_update]; exact Nat.ne_of_lt hlt)]
    exact ho1
  show wpAny (model prog w) _ _ _ _ { s with heap := (((G.push (seqObj "list" vs.toArray 0)).update (s.heap.objs.size + 1) (Obj.mapSeq fun _ => #[])).push (seqObj "tuple" vs.toArray 0)).push (seqObj "list" #[] 0) }
  dsimp only
  have hz2 : vs.toArray.size < 2 := by simpa using h2
  rw [if_pos hz2, if_pos hz2]
  refine wpAny_bind (wpAny_pure ?_)
  rw [StateT.run_pure]
  refine wpAny_bind (wpAny_pure ?_)
  dsimp only
  have hout : (arrOf (SortSt.mk' general' (vs.toArray.zip vs.toArray) #[] 7 none)).map (·.2) = vs.toArray := by
    show (pairsOf vs).map (·.2) = vs.toArray
    exact snd_pairs vs
  rw [hout]
  refine wpAny_bind (seqEpoch_at ho6 rfl (wpAny_bind (listUpdate_at ho6 rfl ?_ (by simp) (by rw [List.size_toArray, sizeLine_eq]; omega))))
  simp only [bne_self_eq_false, Bool.false_eq_true, if_false]
  refine wpAny_pure ⟨_, rfl, wpAny_pure ⟨_, rfl, ?_⟩⟩
  subst hG
  exact h
end
section
variable {P : Program} {w : World} {H : Hp} {h : Heap} {a : Addr} {o : HO}
/-- what is described stands there -/
theorem objok_there (x : ObjOk P w H h a o) : ∃ ob, h.get? a = some ob := by
  cases o with
  | lst xs => obtain ⟨_, _, _, _, e⟩ := x; exact ⟨_, e⟩
  | tup xs => obtain ⟨_, _, _, ob, e, _⟩ := x; exact ⟨_, e⟩
  | dK kvs => obtain ⟨_, _, _, _, ob, _, _, e, _⟩ := x; exact ⟨_, e⟩
  | dT kvs => obtain ⟨_, _, _, _, ob, _, _, e, _⟩ := x; exact ⟨_, e⟩
  | set S n => obtain ⟨ob, _, _, _, e, _⟩ := x; exact ⟨_, e⟩
  | ins C dx fs => obtain ⟨_, _, _, e, _⟩ := x; exact ⟨_, e⟩
  | own y => exact x
  | xd fs => obtain ⟨_, ⟨_, _, _, e, _⟩, _⟩ := x; exact ⟨_, e⟩
  | rng lo hi => obtain ⟨_, _, _, e⟩ := x; exact ⟨_, e⟩
  | frz ob u => obtain ⟨e, _⟩ := x; exact ⟨_, e⟩
  | tbl ps => exact ⟨_, show h.get? a = some _ from x⟩
  | met f y => exact ⟨_, show h.get? a = some _ from x⟩
  | ext φ => obtain ⟨_, e, _⟩ := x; exact e
end
section
variable {X : Cx} {pins : List (Addr × Obj)} {σ : L2.St} {H : Hp} {s : Shared}
/-- a new object laid, where all is known to be kept but the frame's own object, of which the names are -/
theorem inv_laidN {h' : Heap} {D : Addr} {o : HO} {t' : Nat} (I : Inv X pins σ H s) (keep : ∀ b u, b ≠ X.env.locals → s.heap.get? b = some u → h'.get? b = some u) (ns : ∀ m, s.heap.Ns X.env.locals m → h'.Ns X.env.locals m)
    (hn : s.heap.get? D = none) (new : ObjOk X.prog X.w (upd H D o) h' D o) : H D = none ∧ Inv X pins σ (upd H D o) { s with heap := h', toks := t' } := by
  have hD : H D = none := by
    cases q : H D with
    | none => rfl
    | some u =>
      obtain ⟨ob, e⟩ := objok_there (I.hok D u q)
      rw [hn] at e; cases e
  have neD : ∀ b u, s.heap.get? b = some u → b ≠ D := fun b u e z => by rw [z, hn] at e; cases e
  have trD : ∀ b u, H b = some u → b ≠ D := fun b u e z => by rw [z, hD] at e; cases e
  have trL : ∀ b u, H b = some u → b ≠ X.env.locals := fun b u e z => by rw [z, I.free] at e; cases e
  refine ⟨hD, I.step (g' := s.gens) (d' := s.drawn) (ch := []) (fun _ z => nomatch z) (fun b u nL _ _ e _ => keep b u nL e) (fun b u nL _ _ e _ => ⟨u.slots, keep b u nL e⟩) (fun b u _ e n => by rw [upd_ne (neD b u e)]; exact n)
    (fun b u _ e => ?_) (fun b xs e => by rw [upd_ne (trD b _ e)]; exact e) (fun b ob xs e => by rw [upd_ne (trD b _ e)]; exact e) (fun b qs e => ⟨#[], by rw [upd_ne (trD b _ e), e]; simp⟩) ns (fun b u e => ?_) I.bare⟩
  · by_cases hb : b = X.env.locals
    · obtain ⟨m, hm, _⟩ := I.loc
      obtain ⟨o', _, _, e', _⟩ := ns m hm
      rw [hb]
      exact ⟨o', e'⟩
    · exact ⟨u, keep b u hb e⟩
  · by_cases hb : b = D
    · subst hb
      rw [upd_same] at e
      cases e
      exact new
    · rw [upd_ne hb] at e
      refine (I.hok b u e).stay (fun c v hc q => keep c v ?_ q) (fun c q => by rw [upd_ne (trD c _ q)]; exact q) fun c xs q => by rw [upd_ne (trD c _ q)]; exact q
      rcases hc with rfl | hc
      · exact trL c u e
      · exact trL c _ hc
end
section
variable {X : Cx}
def rSort (K : PySem.W.Frag) : List V → Hp → VK → Prop := fun xs H Q => ∃ a vs ps, xs = [.ref a] ∧ SqL K H a vs ∧ vs.length < 64 ∧ Paired (PathV H) vs ps ∧
  ∀ vs' ps' l H', ps'.Perm ps → ps'.Pairwise (fun a b => lex b a = false) → Paired (PathV H) vs' ps' → H l = none → Same H H' → H' l = some (.lst vs') → Q (.ref l) H'
theorem paired_pick {α β : Type} {F : α → β → Prop} {xs : List α} {ys : List β} (p : Paired F xs ys) {dx : α} {dy : β} : ∀ {is : List Nat}, (∀ i ∈ is, i < ys.length) → Paired F (is.map fun i => xs.getD i dx) (is.map fun i => ys.getD i dy)
  | [], _ => .nil
  | i :: is, h => by
    refine .cons ?_ (paired_pick p fun j hj => h j (List.mem_cons_of_mem _ hj))
    have hi : i < ys.length := h i List.mem_cons_self
    have hx : i < xs.length := by rw [Paired.length p]; exact hi
    obtain ⟨y, e, q⟩ := paired_get p (show xs[i]? = some xs[i] by simp [hx])
    have e1 : xs.getD i dx = xs[i] := by simp [hx]
    have e2 : ys.getD i dy = y := by rw [List.getD_eq_getElem?_getD, e]; rfl
    show F (xs.getD i dx) (ys.getD i dy)
    rw [e1, e2]
    exact q
theorem map_getD_range {α : Type} (ys : List α) (d : α) : (List.range ys.length).map (fun i => ys.getD i d) = ys := by
  refine List.ext_getElem (by simp) fun i h1 h2 => ?_
  simp
  have : i < ys.length := by simpa using h1
  simp [this]
theorem call_sortP (hu : X.A.units + 8 < cLine) : CallR X (.builtin "sorted") (rSort X.K) := by
  intro pins s σ H xs us Q I r h
  obtain ⟨a, vs, ps, rfl, hq, hlen, hp, k⟩ := h
  obtain ⟨u, rfl, ru⟩ := vals1 r
  cases (show u = Value.ref a from ru)
  obtain ⟨its, rv, pl, hz⟩ := I.list hq
  have hl := pl.isList
  have hn : its.length = ps.length := by rw [← rv.length]; exact Paired.length hp
  have hf : H (s.heap.objs.size + 1) = none := I.hok.fresh (Nat.le_succ _)
  by_cases h2 : its.length < 2
  · refine sorted_short hl h2 ?_
    obtain ⟨e, he⟩ := sortedAll_at s.heap its its.toArray
    have I' : Inv X pins σ (upd H (s.heap.objs.size + 1) (.lst vs)) { s with heap := sortedAll s.heap its its.toArray } :=
      I.laid (t' := s.toks) (fun b o q => sortedAll_old q) (Nat.le_succ _) ⟨hz, its, e, rv, he⟩
    have srt : ps.Pairwise (fun a b => lex b a = false) := by
      match ps, hn with
      | [], _ => exact List.Pairwise.nil
      | [_], _ => exact List.pairwise_singleton _ _
      | _ :: _ :: _, hn => simp at hn; omega
    exact ⟨.ref _, _, I', rfl, k vs ps _ _ (List.Perm.refl _) srt hp hf (same_new hf) upd_same⟩
  · obtain ⟨m, F⟩ := I.fr
    -- what stands at a path's list
    have items : ∀ (i : Nat) (v : Value), its[i]? = some v → ∃ b xs p n, v = .ref b ∧ ps[i]? = some p ∧ IntsAre xs p ∧ s.heap.get? b = some { cls := .type "list", data := .seq xs.toArray n } ∧ b ≠ X.env.locals ∧ X.base.get? b = none := by
      intro i v e
      have hi : i < vs.length := by rw [rv.length]; exact (List.getElem?_eq_some_iff.mp e).1
      obtain ⟨p, ep, b, eb, hb⟩ := paired_get hp (show vs[i]? = some vs[i] by simp [hi])
      obtain ⟨v', ev, rl⟩ := rv.get (show vs[i]? = some vs[i] by simp [hi])
      rw [e] at ev
      cases ev
      rw [eb] at rl
      cases (show v = Value.ref b from rl)
      obtain ⟨_, xs, n, r1, e1⟩ := (show ObjOk X.prog X.w H s.heap b (.lst (p.map V.int)) from I.hok b _ hb)
      refine ⟨b, xs, p, n, rfl, ep, intsAre_of r1, e1, ?_, ?_⟩
      · intro z; rw [z, I.free] at hb; cases hb
      · cases q : X.base.get? b with
        | none => rfl
        | some o => rw [(I.bs b o q).2] at hb; cases hb
    refine PySem.W.kas_sorted (T := .type "list") F news_all hl (by omega) (by rw [hn, ← Paired.length hp]; exact hlen) ?_ (by rfl) ?_
    · intro h' F' N' v hv
      obtain ⟨i, hi, e⟩ := List.getElem_of_mem hv
      obtain ⟨b, xs, p, n, rfl, _, _, e1, n1, n2⟩ := items i v (by rw [← e]; simp [hi])
      exact PySem.W.kitAt_ty _ _ ⟨_, (N' _ (mem_allNews n1 n2 e1)).1, rfl⟩
    · intro D e1 h' F' N' hD
      have at' : ∀ (i : Nat) (v : Value), its[i]? = some v → ∃ b xs p, v = .ref b ∧ ps[i]? = some p ∧ IntsAre xs p ∧ h'.IsList b xs.toArray := by
        intro i v e
        obtain ⟨b, xs, p, n, e2, ep, hI, eo, n1, n2⟩ := items i v e
        exact ⟨b, xs, p, e2, ep, hI, _, (N' _ (List.mem_cons_of_mem _ (mem_allNews n1 n2 eo))).1, rfl, n, rfl⟩
      refine kasWp_of (n := its.length) (lt := ltK fun i => ps.getD i []) (R := fun p => Pm its.length p ∧ Up (fun i => ps.getD i []) p its.length) ?_ ?_ (k_sort (by omega))
      · intro i j C hi hj hC
        obtain ⟨b, xs, p, e2, ep, hI, L1⟩ := at' i its[i] (by simp [hi])
        obtain ⟨b', xs', p', e2', ep', hI', L2⟩ := at' j its[j] (by simp [hj])
        have g1 : its.getD i Value.none = .ref b := by rw [← e2]; simp [hi]
        have g2 : its.getD j Value.none = .ref b' := by rw [← e2']; simp [hj]
        have q1 : ps.getD i [] = p := by rw [List.getD_eq_getElem?_getD, ep]; rfl
        have q2 : ps.getD j [] = p' := by rw [List.getD_eq_getElem?_getD, ep']; rfl
        show wpAny _ _ (keyLt' oneType' (its.getD i Value.none) (its.getD j Value.none)) _ _ _
        rw [g1, g2]
        refine lt_lists (s := { s with heap := h' }) (by show X.A.units + 1 + 1 < cLine; omega) L1 L2 hI hI' ?_
        have e : ltK (fun i => ps.getD i []) i j = lex p p' := by show lex (ps.getD i []) (ps.getD j []) = lex p p'; rw [q1, q2]
        rw [e] at hC
        exact hC
      · rintro p ⟨P1, P2⟩
        have hmem : ∀ i ∈ p.toList, i < ps.length := fun i hi => by
          have q : i ∈ List.range its.length := (Array.perm_iff_toList_perm.mp P1.perm).mem_iff.mp hi
          rw [← hn]; exact List.mem_range.mp q
        have hDn : ∀ q ∈ allNews X.base s.heap X.env.locals, q.1 ≠ D := fun q hq => Nat.ne_of_lt (hD q hq)
        refine PySem.W.KasFin.intro F' N' (.head hDn) fun h2' c F2 N2 => ?_
        have hDm := N2 _ List.mem_cons_self
        have keep : ∀ b o, b ≠ X.env.locals → s.heap.get? b = some o → h2'.get? b = some o := fun b o nb e => by
          cases q : X.base.get? b with
          | some u =>
            have := I.bk b u q
            rw [e] at this; cases this
            exact F2.keep b _ q
          | none => exact (N2 _ (List.mem_cons_of_mem _ (mem_allNews nb q e))).1
        have hnD : s.heap.get? D = none := by
          cases q : s.heap.get? D with
          | none => rfl
          | some o => exact absurd rfl (hDn _ (mem_allNews hDm.2.1 hDm.2.2 q))
        have ns : ∀ m', s.heap.Ns X.env.locals m' → h2'.Ns X.env.locals m' := fun m' hm => by
          have e : m' = m := hm.eq_nsMap.trans F.ns.eq_nsMap.symm
          rw [e]
          exact F2.ns
        have pick := paired_pick hp (dx := V.non) (dy := []) hmem
        have pickV : Vals (p.toList.map fun i => vs.getD i V.non) (p.toList.map fun i => its.getD i Value.none) := paired_pick rv (dx := V.non) (dy := Value.none) fun i hi => by rw [hn]; exact hmem i hi
        have hlenp : p.toList.length = its.length := by rw [Array.length_toList, P1.size]
        obtain ⟨hD', I'⟩ := inv_laidN (o := .lst (p.toList.map fun i => vs.getD i V.non)) (t' := s.toks) I keep ns hnD
          ⟨by rw [List.length_map, hlenp, ← rv.length]; exact hz, _, c, pickV, hDm.1⟩
        refine ⟨.ref D, _, I', rfl, k _ _ D _ ?_ ?_ pick hD' (same_new hD') upd_same⟩
        · have q := (Array.perm_iff_toList_perm.mp P1.perm).map fun i => ps.getD i []
          rw [hn, map_getD_range] at q
          exact q
        · rw [List.pairwise_map, List.pairwise_iff_getElem]
          intro i j hi hj hij
          have hj' : j < its.length := by rw [← hlenp]; exact hj
          have q := P2 i j (Nat.le_of_lt hij) hj'
          have g : ∀ (x : Nat) (hx : x < p.toList.length), p.getD x 0 = p.toList[x] := fun x hx => by
            have : x < p.size := by simpa using hx
            simp [Array.getD, this]
          unfold le' Kp at q
          rw [g i hi, g j hj] at q
          exact q
end
end NC
/-! ### defs within defs: the code's table, the made function, its cells, and a call under a larger base -/
namespace NC
open PySem PySem.Spec PyProof.Rows L2

/-- the built-ins' module, as a def within a def asks it -/
def BltAt (base : Heap) (mg : Str → Option Value) : Prop := ∃ bm ob, mg "__builtins__" = some (.ref bm) ∧ bm ≠ builtinsNs ∧ base.get? bm = some ob ∧ ob.cls = .type "module" ∧ ob.dict = some builtinsNs ∧ ob.data = .plain
theorem BltAt.mono {b b' : Heap} {mg : Str → Option Value} (x : BltAt b mg) (k : ∀ a o, b.get? a = some o → b'.get? a = some o) : BltAt b' mg := let ⟨bm, ob, h1, h2, h3, h4⟩ := x; ⟨bm, ob, h1, h2, k _ _ h3, h4⟩
/-- the code that a def within a def has got -/
def CodeX (c : Addr) (qual : Str) : HO := .ext fun h => h.CodeRec (.ref c) qual
abbrev fnObjX (name qual : Str) (params : Arguments) (body : List Stmt) (scope : Scope) (clos : List (Str × Addr)) (doc pm : Value) (c : Addr) (ctv : Value) : Obj :=
  { cls := .type "function", data := .func (PySem.W.fnX name qual params body scope clos .none .none doc pm none (.ref c) ctv) }
def FnObj (f c : Addr) (name qual : Str) (params : Arguments) (body : List Stmt) (scope : Scope) (clos : List (Str × Addr)) : HO := .ext fun h => ∃ doc pm ctv, h.get? f = some (fnObjX name qual params body scope clos doc pm c ctv)
/-- the table: empty, or it holds the one def's code -/
def TabOk (H : Hp) (P : Addr) (pos : Pos) (qual : Str) : Prop := H P = some (.tbl #[]) ∨ ∃ c, H P = some (.tbl #[rawInt pos.line, rawInt pos.col, .ref c]) ∧ H c = some (CodeX c qual)
/-- all is kept but tables -/
def SameX (H H' : Hp) : Prop := ∀ b o, (∀ ps, o ≠ .tbl ps) → H b = some o → H' b = some o
section
variable {H H1 H2 H' : Hp} {b : Addr}
theorem SameX.of (s : Same H H') : SameX H H' := fun b o _ h => s b o h
theorem SameX.refl (H : Hp) : SameX H H := fun _ _ _ h => h
theorem SameX.trans (a : SameX H H1) (c : SameX H1 H2) : SameX H H2 := fun b o n h => c b o n (a b o n h)
theorem SameX.tups (s : SameX H H') : Tups H H' := fun b xs h => s b _ (fun _ z => by cases z) h
theorem SameX.lst {xs : List V} (s : SameX H H') (h : H b = some (.lst xs)) : H' b = some (.lst xs) := s b _ (fun _ z => by cases z) h
theorem SameX.tup {xs : List V} (s : SameX H H') (h : H b = some (.tup xs)) : H' b = some (.tup xs) := s b _ (fun _ z => by cases z) h
theorem SameX.free (s : SameX H H') (n : H' b = none) : H b = none ∨ ∃ ps, H b = some (.tbl ps) := by
  cases q : H b with
  | none => exact .inl rfl
  | some o =>
    cases o with
    | tbl ps => exact .inr ⟨ps, rfl⟩
    | _ => exact absurd (s b _ (fun _ z => by cases z) q) (by rw [n]; intro z; cases z)
end
theorem TabOk.same {H H' : Hp} {P : Addr} {pos : Pos} {qual : Str} (t : TabOk H P pos qual) (s : Same H H') : TabOk H' P pos qual := by
  rcases t with t | ⟨c, t1, t2⟩
  · exact .inl (s _ _ t)
  · exact .inr ⟨c, s _ _ t1, s _ _ t2⟩
/-- all but lists stays -/
def NL (H H' : Hp) : Prop := ∀ b o, (∀ xs, o ≠ .lst xs) → H b = some o → H' b = some o
theorem NL.of_same {H H' : Hp} (s : Same H H') : NL H H' := fun b o _ h => s b o h
theorem NL.of_keep {H H' : Hp} {l : Addr} {xs : List V} (k : Keep [l] H H') (h : H l = some (.lst xs)) : NL H H' := fun b o n q => k b o (fun z => by
  rw [List.mem_singleton.mp z, h] at q
  cases q
  exact n xs rfl) q
theorem TabOk.nl {H H' : Hp} {P : Addr} {pos : Pos} {qual : Str} (t : TabOk H P pos qual) (s : NL H H') : TabOk H' P pos qual := by
  rcases t with t | ⟨c, t1, t2⟩
  · exact .inl (s _ _ (fun _ z => by cases z) t)
  · exact .inr ⟨c, s _ _ (fun _ z => by cases z) t1, s _ _ (fun _ z => by cases z) t2⟩

section
variable {X : Cx} {pins : List (Addr × Obj)} {σ : L2.St} {H : Hp} {s : Shared}
theorem tbl_at (I : Inv X pins σ H s) {P : Addr} {ps : Array Value} (h : H P = some (.tbl ps)) : s.heap.get? P = some (PySem.W.tabObj ps) := I.hok P _ h
theorem codeX_ok {P : Program} {w : World} {H : Hp} {h : Heap} {c : Addr} {qual : Str} (x : h.CodeRec (.ref c) qual) : ObjOk P w H h c (CodeX c qual) := by
  obtain ⟨c', o, vs, t, e, g, r⟩ := id x
  cases e
  refine ⟨x, ⟨o, g⟩, fun h1 h2 x1 k => ?_⟩
  obtain ⟨c', o, vs, t, e, g, r⟩ := x1
  cases e
  exact ⟨_, o, vs, t, rfl, k _ g, r⟩
theorem fnObj_ok {P : Program} {w : World} {H : Hp} {h : Heap} {f c : Addr} {name qual : Str} {params : Arguments} {body : List Stmt} {scope : Scope} {clos : List (Str × Addr)} {doc pm ctv : Value}
    (x : h.get? f = some (fnObjX name qual params body scope clos doc pm c ctv)) : ObjOk P w H h f (FnObj f c name qual params body scope clos) :=
  ⟨⟨doc, pm, ctv, x⟩, ⟨_, x⟩, fun _ _ ⟨d, p, t, e⟩ k => ⟨d, p, t, k _ e⟩⟩
/-- what a def statement wants -/
def tDef (P : Addr) (pos : Pos) (i : Nat) (name qual : Str) (params : Arguments) (body : List Stmt) (scope : Scope) (clos : List (Str × Addr)) : TS := fun D σ H =>
  TabOk H P pos qual ∧ ∀ f c H', H f = none → SameX H H' → TabOk H' P pos qual → H' c = some (CodeX c qual) → H' f = some (FnObj f c name qual params body scope clos) →
    (∀ Q : Addr, Q ≠ P → ∀ ps, H Q = some (.tbl ps) → H' Q = some (.tbl ps)) → D.nx (σ.set i (some (.ref f))) H'
theorem among_hit (pos : Pos) (v : Value) : codeAmong pos [rawInt pos.line, rawInt pos.col, v] = some v := by
  show (if ((pos.line : Int) == pos.line && (pos.col : Int) == pos.col) = true then some v else _) = some v
  rw [if_pos (by simp)]
theorem ps_def {name qual : Str} {params : Arguments} {body : List Stmt} {scope : Scope} {pos : Pos} {i : Nat} {c0 P : Addr} {clos : List (Str × Addr)} (hcode : X.env.code = .ref c0) (hC : PySem.W.codeHdIn X.K c0 P = true) (BB : BltAt X.base X.mg)
    (hN : X.N.Nodup) (hi : X.N[i]? = some name) (hx : Loc X.env.scope name) (hcl : closureFor scope X.env = pure clos) (hq : qualnameIn X.env name name = qual) (hd0 : params.defaults = [] := by rfl) (hk0 : params.kw_defaults = [] := by rfl)
    (ha : annTrees params none X.env = [] := by rfl) (hf : X.fn name = true ∨ X.env.scope.names.lookup name = some .local := by first | exact .inl rfl | exact .inr rfl) :
    PS X (.FunctionDef name params body [] none [] scope none name pos) (tDef P pos i name qual params body scope clos) := by
  intro pins s σ H D I h
  obtain ⟨ht, k⟩ := h
  refine PySem.W.nestDef_K hd0 hk0 ha ?_
  rw [hq]
  have hg : s.heap.Ns mainGlobals X.mg := I.mod.glob.keeps I.bk
  have CH : PySem.W.CodeHd s.heap c0 P := PySem.W.codeHd_of_K I.kIn hC
  obtain ⟨bm, ob, b1, b2, b3, b4, b5, b6⟩ := BB
  have trk : ∃ ps, H P = some (.tbl ps) := by
    rcases ht with t | ⟨c, t, _⟩
    · exact ⟨_, t⟩
    · exact ⟨_, t⟩
  have nP : ∀ b o, X.base.get? b = some o → b ≠ P := fun b o e z => by
    obtain ⟨ps, t⟩ := trk
    rw [z] at e
    rw [(I.bs P o e).2] at t
    cases t
  have hgP : mainGlobals ≠ P := by
    obtain ⟨o, es, ep, e, _⟩ := I.mod.glob
    exact nP _ _ e
  have hbG : bm ≠ mainGlobals := fun q => by
    obtain ⟨o, es, ep, e, hd, _⟩ := I.mod.glob
    rw [q, e] at b3
    cases b3
    rw [hd] at b6
    cases b6
  have hB : s.heap.BuiltinsAt X.mg P := ⟨bm, ob, b1, b2, hbG, nP _ _ b3, I.bk _ _ b3, b4, b5, b6⟩
  rcases ht with t | ⟨c, t, tc⟩
  · -- the first time
    have hP : s.heap.get? P = some (PySem.W.tabObj #[]) := tbl_at I t
    refine PySem.W.makeFunction_K (mg := X.mg) hcl I.ok.glob hg hcode CH hP True.intro rfl hgP hB fun c' ctv doc h' tk hx' hge hlt hrec htb => ?_
    have szf : s.heap.objs.size ≤ h'.objs.size := Nat.le_trans hge (Nat.le_of_lt hlt)
    have oldP : ∀ b o, b ≠ P → s.heap.get? b = some o → (h'.push (fnObjX name qual params body scope clos doc ((X.mg "__name__").getD .none) c' ctv)).get? b = some o := fun b o n e => Heap.get?_push_of_some _ (hx' b o n e)
    have nc : ∀ b o, s.heap.get? b = some o → b ≠ c' := fun b o e => Nat.ne_of_lt (Nat.lt_of_lt_of_le (Heap.lt_size e) hge)
    have nf : ∀ b o, s.heap.get? b = some o → b ≠ h'.objs.size := fun b o e => Nat.ne_of_lt (Nat.lt_of_lt_of_le (Heap.lt_size e) szf)
    have tr : ∀ b u, H b = some u → ∃ o, s.heap.get? b = some o := fun b u e => objok_there (I.hok b u e)
    have hcf : c' ≠ h'.objs.size := Nat.ne_of_lt hlt
    have H'b : ∀ b o, b ≠ P → (∃ ob, s.heap.get? b = some ob) → H b = o → (upd (upd (upd H P (.tbl #[rawInt pos.line, rawInt pos.col, .ref c'])) c' (CodeX c' qual)) h'.objs.size (FnObj h'.objs.size c' name qual params body scope clos)) b = o := fun b o n ⟨ob, e⟩ q => by
      rw [upd_ne (nf b ob e), upd_ne (nc b ob e), upd_ne n, q]
    have nfree : ∀ b, H b = none → b ≠ P := fun b n z => by rw [z, t] at n; cases n
    have hPb : (∃ ob, s.heap.get? P = some ob) := ⟨_, hP⟩
    have eP : (upd (upd (upd H P (.tbl #[rawInt pos.line, rawInt pos.col, .ref c'])) c' (CodeX c' qual)) h'.objs.size (FnObj h'.objs.size c' name qual params body scope clos)) P = some (.tbl #[rawInt pos.line, rawInt pos.col, .ref c']) := by
      rw [upd_ne (nf P _ hP), upd_ne (nc P _ hP), upd_same]
    have eC : (upd (upd (upd H P (.tbl #[rawInt pos.line, rawInt pos.col, .ref c'])) c' (CodeX c' qual)) h'.objs.size (FnObj h'.objs.size c' name qual params body scope clos)) c' = some (CodeX c' qual) := by
      rw [upd_ne hcf, upd_same]
    have I' : Inv X pins σ (upd (upd (upd H P (.tbl #[rawInt pos.line, rawInt pos.col, .ref c'])) c' (CodeX c' qual)) h'.objs.size (FnObj h'.objs.size c' name qual params body scope clos))
        { s with heap := h'.push (fnObjX name qual params body scope clos doc ((X.mg "__name__").getD .none) c' ctv), toks := tk } := by
      refine I.step (g' := s.gens) (d' := s.drawn) (ch := []) (fun _ z => nomatch z) (fun b o _ _ _ e n => oldP b o (nfree b n) e) (fun b o _ _ _ e n => ⟨o.slots, oldP b o (nfree b n) e⟩) (fun b o _ e n => H'b b none (nfree b n) ⟨o, e⟩ n)
        (fun b o _ e => ?_) (fun b xs e => H'b b _ (fun z => by rw [z, t] at e; cases e) (tr b _ e) e) (fun b ob u e => H'b b _ (fun z => by rw [z, t] at e; cases e) (tr b _ e) e) (fun b qs e => ?_) (fun m hm => ?_) (fun b u e => ?_) I.bare
      · by_cases hb : b = P
        · subst hb
          exact ⟨_, Heap.get?_push_of_some _ htb⟩
        · exact ⟨o, oldP b o hb e⟩
      · by_cases hb : b = P
        · subst hb
          rw [t] at e
          cases e
          exact ⟨#[rawInt pos.line, rawInt pos.col, .ref c'], by rw [eP]; simp⟩
        · exact ⟨#[], by rw [H'b b _ hb (tr b _ e) e]; simp⟩
      · obtain ⟨o, es, ep, e, r⟩ := hm
        exact ⟨o, es, ep, oldP _ o (nfree _ I.free) e, r⟩
      · by_cases h1 : b = h'.objs.size
        · subst h1
          rw [upd_same] at e
          cases e
          exact fnObj_ok (Heap.get?_push_size _ rfl)
        · rw [upd_ne h1] at e
          by_cases h2 : b = c'
          · subst h2
            rw [upd_same] at e
            cases e
            exact codeX_ok (hrec.keeps fun b o q => Heap.get?_push_of_some _ q)
          · rw [upd_ne h2] at e
            by_cases h3 : b = P
            · subst h3
              rw [upd_same] at e
              cases e
              show (h'.push _).get? _ = some _
              exact Heap.get?_push_of_some _ htb
            · rw [upd_ne h3] at e
              refine (I.hok b u e).stay (fun d v hd q => oldP d v ?_ q) (fun d q => H'b d _ (fun z => by rw [z, t] at q; cases q) (tr d _ q) q) fun d xs q => H'b d _ (fun z => by rw [z, t] at q; cases q) (tr d _ q) q
              rcases hd with rfl | hd
              · exact h3
              · intro z; rw [z, t] at hd; cases hd
    refine store_ok I' hN hi hx (v := .ref h'.objs.size) rfl (fun s' I2 => ⟨_, _, I2, k h'.objs.size c' _ (I.hok.fresh szf) (fun b o n q => ?_) (.inr ⟨c', eP, eC⟩) eC upd_same fun Q hQ qs q => ?_⟩) hf
    · exact H'b b _ (fun z => by rw [z, t] at q; cases q; exact n _ rfl) (tr b _ q) q
    · exact H'b Q _ hQ (tr Q _ q) q
  · -- its code is there
    have hP : s.heap.get? P = some (PySem.W.tabObj #[rawInt pos.line, rawInt pos.col, .ref c]) := tbl_at I t
    refine PySem.W.makeFunction_hit (mg := X.mg) (cv := .ref c) hcl I.ok.glob hg hcode CH hP (by exact True.intro) (among_hit pos _) hB fun ctv doc h' tk hk hsz => ?_
    have hfr : H h'.objs.size = none := I.hok.fresh hsz
    have I' : Inv X pins σ (upd H h'.objs.size (FnObj h'.objs.size c name qual params body scope clos)) { s with heap := h'.push (fnObjX name qual params body scope clos doc ((X.mg "__name__").getD .none) c ctv), toks := tk } :=
      I.laid (fun b o e => Heap.get?_push_of_some _ (hk b o e)) hsz (fnObj_ok (Heap.get?_push_size _ rfl))
    have sm : Same H (upd H h'.objs.size (FnObj h'.objs.size c name qual params body scope clos)) := same_new hfr
    exact store_ok I' hN hi hx (v := .ref h'.objs.size) rfl (fun s' I2 => ⟨_, _, I2, k h'.objs.size c _ hfr (.of sm) (.inr ⟨c, sm _ _ t, sm _ _ tc⟩) (sm _ _ tc) upd_same fun Q _ qs q => sm _ _ q⟩) hf
end
end NC
/-! ### a made function as a def: its promise over a base that holds it and its cells; a call under a larger base -/
namespace NC
open PySem PySem.Spec PyProof.Rows L2

/-- the names of a made function without names of its own: its parameters, then the free names -/
structure CloScope (ps fs : List Str) (sc : Scope) : Prop where
  kind : sc.kind = .function
  co : sc.isCoroutine = false
  gen : sc.isGenerator = false
  nd : (ps ++ fs).Nodup
  par : ∀ x ∈ ps, sc.names.lookup x = some .local
  fre : ∀ x ∈ fs, sc.names.lookup x = some .free
  nocell : ∀ y ∈ sc.names, y.2 ≠ .cell
  all : ∀ y ∈ sc.names, y.2 = .free → y.1 ∈ fs
/-- the context of its body -/
def cxClo (CX : CXT) (P : Program) (w : World) (K : PySem.W.Frag) (mg : Str → Option Value) (base : Heap) (N : List Str) (qual : Str) (scope : Scope) (f : Addr) (cd : Value) (clos : List (Str × Addr)) (A : Around) (outer : List Env) (s : Shared) (H : Hp) (E : XK) : Cx where
  prog := P
  w := w
  K := K
  mg := mg
  base := base
  A := A.deeper (PySem.W.envX qual scope s.heap.objs.size f cd clos)
  N := N
  s₀ := s
  H₀ := H
  env := PySem.W.envX qual scope s.heap.objs.size f cd clos
  outer := outer
  stack := PySem.W.envX qual scope s.heap.objs.size f cd clos :: outer
  ex := []
  calm := true
  fn := fun _ => false
  pn := []
  xe := fun e s' => wpAny (model P w) (A.deeper (PySem.W.envX qual scope s.heap.objs.size f cd clos)) (leaving (PySem.W.envX qual scope s.heap.objs.size f cd clos) e) (fun _ s'' => CX outer H s E e s'') (fun e' s'' => CX outer H s E e' s'') s'
/-- a free name's cell in the base -/
def CellsAt (base : Heap) (clos : List (Str × Addr)) (fs : List Str) (fvs : List V) : Prop := Paired (fun (x : Str) (v : V) => ∃ c u, clos.lookup x = some c ∧ base.IsCell c (some u) ∧ RelV v u) fs fvs
theorem zip_rev_get : ∀ {ps : List Str} {us : List Value} {i : Nat} {x : Str} {u : Value}, ps.Nodup → ps[i]? = some x → us[i]? = some u → (ps.zip us).reverse.lookup x = some u := by
  intro ps us i x u nd h1 h2
  have hm : (x, u) ∈ (ps.zip us).reverse := by
    rw [List.mem_reverse]
    have : (ps.zip us)[i]? = some (x, u) := by
      rw [List.getElem?_zip_eq_some]
      exact ⟨h1, h2⟩
    exact List.mem_of_getElem? this
  have nd2 : ((ps.zip us).reverse.map (·.1)).Nodup := by
    rw [List.map_reverse]
    have hs : List.Sublist ((ps.zip us).map (·.1)) ps := by
      clear h1 h2 hm nd
      induction ps generalizing us with
      | nil => simp
      | cons a r ih =>
        cases us with
        | nil => simp
        | cons b t => simpa using ih
    exact (List.reverse_perm _).nodup_iff.mpr (nd.sublist hs)
  generalize hl : (ps.zip us).reverse = l at hm nd2
  clear hl h1 h2 nd
  induction l with
  | nil => simp at hm
  | cons q r ih =>
    obtain ⟨y, w⟩ := q
    rw [List.map_cons, List.nodup_cons] at nd2
    rcases List.mem_cons.mp hm with e | hm'
    · cases e
      simp [List.lookup]
    · have hne : x ≠ y := fun z => nd2.1 (by rw [← z]; exact List.mem_map.mpr ⟨(x, u), hm', rfl⟩)
      rw [List.lookup_cons]
      rw [show (x == y) = false by simpa using hne]
      exact ih hm' nd2.2
section
variable {CX : CXT} {P : Program} {w : World} {K : PySem.W.Frag} {mg : Str → Option Value} {base : Heap} {k : Nat} {f c : Addr} {name qual : Str} {params : Arguments} {body : List Stmt} {scope : Scope} {clos : List (Str × Addr)} {doc pm ctv : Value} {ps fs : List Str} {fvs : List V} {sp : Sp}
theorem fn_clo (ho : base.get? f = some (fnObjX name qual params body scope clos doc pm c ctv)) (hcd : base.CodeRec (.ref c) qual) (S : CloScope ps fs scope) (hc : CellsAt base clos fs fvs)
    (hclos : ∀ x c, clos.lookup x = some c → x ∈ fs) (inj : ∀ x y c, clos.lookup x = some c → clos.lookup y = some c → x = y)
    (len : ∀ vs H Q E, sp vs H Q E → vs.length = ps.length)
    (hbody : ∀ (A : Around) (outer : List Env) (s : Shared) (H : Hp) (vs : List V) (Q : VK) (E : XK), Room k (A.deeper (PySem.W.envX qual scope s.heap.objs.size f (.ref c) clos)) → sp vs H Q E →
      ∃ t, PSs (cxClo CX P w K mg base (ps ++ fs) qual scope f (.ref c) clos A outer s H E) body t ∧ t { nx := fun _ H' => Q .non H', rt := Q } ((vs ++ fvs).map some) H) :
    FnOk P w K mg base CX (k + 1) f (PySem.W.fnX name qual params body scope clos .none .none doc pm none (.ref c) ctv) ps sp := by
  refine ⟨len, fun A outer s H args us vs Q E hr e0 hb r hsp => ?_⟩
  have hl := len _ _ _ _ hsp
  have lim : s.heap.NoLimit := e0.mod.nolimit.keeps fun b o e => (e0.bs b o e).1
  have hlen : us.length = ps.length := by rw [← r.length]; exact hl
  have ndP : ps.Nodup := (List.nodup_append.mp S.nd).1
  refine PySem.codeAny_call_def (fd := PySem.W.fnX name qual params body scope clos .none .none doc pm none (.ref c) ctv) (body := body) (binds := ps.zip us) hr.depth (e0.bs _ _ ho).1 rfl lim (hcd.keeps fun b o e => (e0.bs b o e).1) rfl hb S.nocell
    (fun y hy => S.par y.1 (List.of_mem_zip hy).1) (fun h₁ hns hk => ?_) S.co S.gen S.kind
  obtain ⟨t, ht, hq⟩ := hbody A outer s H vs Q E (hr.deeper _) hsp
  have noA : ∀ b : Addr, b ∉ ([] : List Addr) := fun b z => absurd z (by simp)
  have cellIn : ∀ x c, clos.lookup x = some c → ∃ u, base.IsCell c (some u) := fun x c e => by
    obtain ⟨i, hi, ex⟩ := List.getElem_of_mem (hclos x c e)
    obtain ⟨v, _, c', u, e1, e2, _⟩ := paired_get hc (show fs[i]? = some x by simp [hi, ex])
    rw [e] at e1
    cases e1
    exact ⟨u, e2⟩
  have I : Inv (cxClo CX P w K mg base (ps ++ fs) qual scope f (.ref c) clos A outer s H E) [] ((vs ++ fvs).map some) H { s with heap := h₁, toks := s.toks + (ps.zip us).length } := by
    refine ⟨⟨e0.mod, S.kind, rfl, rfl, Nat.le_refl _, inj, fun y hy => ?_, fun y c h => (nomatch h), fun _ => hr.hd, Around.frames_deeper e0.frames, .inr ⟨rfl, rfl⟩, fun b z => absurd z (noA b), e0.bs, e0.bsz, fun b _ _ => noA b, fun b z => absurd z (noA b), e0.funs, e0.frf⟩,
      rfl, e0.bare, Un.kept hk, ⟨_, hns, fun i y v h1 h2 h3 => ?_⟩, fun y c h => ?_, e0.hok.fresh (Nat.le_refl _), fun y c h => ?_, fun p hp => absurd (show p ∈ ([] : List (Addr × Obj)) from hp) (by simp), e0.hok.kept hk, ?_⟩
    · have hy' : scope.names.lookup y = some .cell ∨ scope.names.lookup y = some .free := hy
      rcases hy' with hy' | hy'
      · exact absurd rfl (S.nocell _ (PySem.mem_of_lookup hy'))
      · have hm := S.all _ (PySem.mem_of_lookup hy') rfl
        obtain ⟨i, hi, ex⟩ := List.getElem_of_mem hm
        obtain ⟨v, _, c', u, e1, _⟩ := paired_get hc (show fs[i]? = some y by simp [hi, ex])
        exact ⟨c', e1⟩
    · have h1 : (ps ++ fs)[i]? = some y := h1
      by_cases hi : i < ps.length
      · rw [List.getElem?_append_left hi] at h1
        rw [List.getElem?_map, List.getElem?_append_left (by omega)] at h2
        obtain ⟨v', ev, e2⟩ : ∃ v', vs[i]? = some v' ∧ some v' = some v := by
          cases q : vs[i]? with
          | none => rw [q] at h2; cases h2
          | some v' => rw [q] at h2; exact ⟨v', rfl, Option.some.inj h2⟩
        cases e2
        obtain ⟨u, eu, ru⟩ := r.get ev
        exact ⟨u, ru, .inl ⟨S.par y (List.mem_of_getElem? h1), zip_rev_get ndP h1 eu⟩⟩
      · rw [List.getElem?_append_right (by omega)] at h1
        rw [List.getElem?_map, List.getElem?_append_right (by omega)] at h2
        obtain ⟨v', ev, c', u, e1, e2, e3⟩ := paired_get hc h1
        rw [hl, ev] at h2
        cases (Option.some.inj h2)
        exact ⟨u, e3, .inr ⟨.inr (S.fre y (List.mem_of_getElem? h1)), c', e1, e2.keeps fun b o e => hk b o (e0.bs b o e).1⟩⟩
    · obtain ⟨u, o, e, d⟩ := cellIn y c h
      exact ⟨some u, o, hk _ _ (e0.bs _ _ e).1, d⟩
    · obtain ⟨u, o, e, d⟩ := cellIn y c h
      exact (e0.bs _ _ e).2
    · show ((vs ++ fvs).map some).length = (ps ++ fs).length
      rw [List.length_map, List.length_append, List.length_append, hl, Paired.length hc]
  refine wpAny_mono (ht [] _ _ H _ I hq) (fun fl s' hs => ?_) fun e s' hs => hs
  have fin : ∀ {σ' : L2.St} {H' : Hp} {v : V} {u : Value}, Inv (cxClo CX P w K mg base (ps ++ fs) qual scope f (.ref c) clos A outer s H E) [] σ' H' s' → RelV v u → Q v H' → CE outer P w H s Q u s' :=
    fun {σ' H' v u} J rv q => ⟨v, H', J.os, J.bare, J.base, J.hok, rv, q⟩
  cases fl with
  | ret u =>
    obtain ⟨v, σ', H', J, rv, q⟩ := hs
    exact fin J rv q
  | next =>
    obtain ⟨σ', H', J, q⟩ := hs
    exact fin (v := V.non) (u := Value.none) J rfl q
  | brk =>
    obtain ⟨_, _, _, q⟩ := hs
    exact False.elim q
  | cont =>
    obtain ⟨_, _, _, q⟩ := hs
    exact False.elim q
end

/-! #### the larger base -/
def keepL (base : Heap) (L : List Addr) (a : Addr) : Bool := (base.get? a).isSome || L.contains a
def extB (h base : Heap) (L : List Addr) : Heap := PySem.W.hideAll h ((List.range h.objs.size).filter fun a => !keepL base L a)
theorem extB_get {h base : Heap} {L : List Addr} {b : Addr} {o : Obj} (e : h.get? b = some o) (k : keepL base L b = true) : (extB h base L).get? b = some o :=
  PySem.W.hideAll_get _ e fun z => by
    have := (List.mem_filter.mp z).2
    rw [k] at this
    exact absurd this (by decide)
theorem of_extB {h base : Heap} {L : List Addr} {b : Addr} {o : Obj} (e : (extB h base L).get? b = some o) : h.get? b = some o ∧ keepL base L b = true := by
  have e1 := PySem.W.of_hideAll _ e
  refine ⟨e1, ?_⟩
  cases q : keepL base L b with
  | true => rfl
  | false =>
    have hm : b ∈ (List.range h.objs.size).filter fun a => !keepL base L a := List.mem_filter.mpr ⟨List.mem_range.mpr (Heap.lt_size e1), by rw [q]; rfl⟩
    rw [show (extB h base L).get? b = none from PySem.W.hideAll_none _ hm] at e
    cases e
/-- without what the larger base holds, and with it again -/
def delH (H : Hp) (L : List Addr) : Hp := fun b => if b ∈ L then none else H b
def addH (H' H : Hp) (L : List Addr) : Hp := fun b => if b ∈ L then H b else H' b
theorem delH_ne {H : Hp} {L : List Addr} {b : Addr} (h : b ∉ L) : delH H L b = H b := if_neg h
theorem delH_in {H : Hp} {L : List Addr} {b : Addr} (h : b ∈ L) : delH H L b = none := if_pos h
theorem addH_ne {H' H : Hp} {L : List Addr} {b : Addr} (h : b ∉ L) : addH H' H L b = H' b := if_neg h
theorem addH_in {H' H : Hp} {L : List Addr} {b : Addr} (h : b ∈ L) : addH H' H L b = H b := if_pos h
/-- what may go into the larger base: made functions and codes, or cells of this frame's own -/
def Goes (X : Cx) (H : Hp) (b : Addr) : Prop := (∃ φ, H b = some (.ext φ)) ∨ ∃ x, X.env.cells.lookup x = some b ∧ X.fn x = true
section
variable {X : Cx} {pins : List (Addr × Obj)} {σ : L2.St} {H : Hp} {s : Shared} {L : List Addr}
theorem Goes.there (I : Inv X pins σ H s) {b : Addr} (g : Goes X H b) : ∃ o, s.heap.get? b = some o := by
  rcases g with ⟨φ, e⟩ | ⟨x, e, _⟩
  · exact objok_there (I.hok b _ e)
  · obtain ⟨v, o, h, _⟩ := I.cell x b e
    exact ⟨o, h⟩
theorem Goes.noframe (I : Inv X pins σ H s) {b : Addr} (g : Goes X H b) : b ∉ frs X.stack := fun z => by
  have hn := I.stkFree b z
  rcases g with ⟨φ, e⟩ | ⟨x, e, hf⟩
  · rw [hn] at e; cases e
  · rcases List.mem_cons.mp (I.stkSub b z) with q | q
    · exact I.cne x b e q
    · obtain ⟨_, o, ho, _⟩ := I.ok.funs.mem q
      exact absurd (Nat.lt_of_lt_of_le (Heap.lt_size ho) (I.ok.cab x b hf e)) (Nat.lt_irrefl _)
theorem Goes.notup (g : ∀ b ∈ L, Goes X H b) (I : Inv X pins σ H s) {b : Addr} {u : HO} (e : H b = some u) (n : ∀ φ, u ≠ .ext φ) : b ∉ L := fun z => by
  rcases g b z with ⟨φ, q⟩ | ⟨x, q, _⟩
  · rw [e] at q; cases q; exact n φ rfl
  · rw [I.freeC x b q] at e; cases e
/-- the state at a call, over the larger base -/
theorem env0_ext (I : Inv X pins σ H s) (g : ∀ b ∈ L, Goes X H b) : Env0 X.prog X.w X.K X.mg (extB s.heap X.base L) X.A X.stack s (delH H L) := by
  have kb : ∀ b o, X.base.get? b = some o → (extB s.heap X.base L).get? b = some o := fun b o e => extB_get (I.bk b o e) (by unfold keepL; rw [e]; rfl)
  have nb : ∀ b, (extB s.heap X.base L).get? b = none ∨ (X.base.get? b).isSome = true ∨ b ∈ L := fun b => by
    cases q : (extB s.heap X.base L).get? b with
    | none => exact .inl rfl
    | some o =>
      have := (of_extB q).2
      unfold keepL at this
      rw [Bool.or_eq_true] at this
      rcases this with z | z
      · exact .inr (.inl z)
      · exact .inr (.inr (by simpa using z))
  refine ⟨I.ok.frames, ⟨I.mod.kin.keeps kb, I.mod.glob.keeps kb, let ⟨mb, h1, h2⟩ := I.mod.blt; ⟨mb, h1.keeps kb, h2⟩, I.mod.nolimit.keeps kb⟩, fun b o e => ?_, Nat.le_of_eq (PySem.W.hideAll_size _ _), ?_, fun b hb => ?_, fun b u e => ?_, I.bare⟩
  · obtain ⟨e1, e2⟩ := of_extB e
    refine ⟨e1, ?_⟩
    by_cases hb : b ∈ L
    · exact delH_in hb
    · rw [delH_ne hb]
      unfold keepL at e2
      rw [Bool.or_eq_true] at e2
      rcases e2 with z | z
      · obtain ⟨o', q⟩ := Option.isSome_iff_exists.mp z
        exact (I.bs b o' q).2
      · exact absurd (by simpa using z) hb
  · have all : ∀ l : List Env, (∀ b ∈ frs l, b ∈ frs X.stack) → s.heap.FunFrames X.base l → s.heap.FunFrames (extB s.heap X.base L) l := by
      intro l
      induction l with
      | nil => intro _ _; trivial
      | cons env r ih =>
        intro hs hl
        obtain ⟨hk, ⟨L', o, hf, hn, ho, hd⟩, hr⟩ := hl
        have hm : L' ∈ frs X.stack := hs L' (by unfold frs; rw [List.filterMap_cons, hf]; exact List.mem_cons_self)
        refine ⟨hk, ⟨L', o, hf, ?_, ho, hd⟩, ih (fun b hb => hs b (by unfold frs; rw [List.filterMap_cons, hf]; exact List.mem_cons_of_mem _ hb)) hr⟩
        rcases nb L' with z | z | z
        · exact z
        · rw [hn] at z; cases z
        · exact absurd hm ((g L' z).noframe I)
    exact all X.stack (fun _ h => h) I.stack
  · unfold delH
    split
    · rfl
    · exact I.stkFree b hb
  · have hb : b ∉ L := fun z => by rw [delH_in z] at e; cases e
    rw [delH_ne hb] at e
    refine (I.hok b u e).stay (fun _ _ _ q => q) (fun c q => ?_) fun c xs q => ?_
    · rw [delH_ne (Goes.notup g I q fun _ z => by cases z)]; exact q
    · rw [delH_ne (Goes.notup g I q fun _ z => by cases z)]; exact q
/-- behind it -/
theorem after_ext {Q : VK} {u : Value} {s' : Shared} (I : Inv X pins σ H s) (g : ∀ b ∈ L, Goes X H b) (h : CE X.stack X.prog X.w (delH H L) s (fun v H' => (∀ b ∈ L, H' b = none) → Q v (addH H' H L)) u s') : EP X pins σ Q u s' := by
  obtain ⟨v, H', os, bare, un, hok, r, q⟩ := h
  have gone : ∀ b ∈ L, H' b = none := fun b hb => by
    obtain ⟨o, e⟩ := (g b hb).there I
    exact un.free b o e (delH_in hb) (by simp)
  have unt : ∀ b, H b = none → delH H L b = none := fun b n => by
    unfold delH
    split
    · rfl
    · exact n
  refine ⟨v, addH H' H L, I.call' (ch := []) os ⟨fun b o e n hb hx => un.keep b o e (unt b n) hb hx, fun b o e n hb hx => un.slot b o e (unt b n) hb hx, fun b o e n hx => ?_, un.there, fun b xs e => ?_, fun b o xs e => ?_, fun b qs e => ?_⟩ (fun b w e => ?_) bare fun b z => absurd z (by simp), r, q gone⟩
  · by_cases hb : b ∈ L
    · rw [addH_in hb]; exact n
    · rw [addH_ne hb]; exact un.free b o e (unt b n) hx
  · have hb := Goes.notup g I e fun _ z => by cases z
    rw [addH_ne hb]
    exact un.tups b xs (by rw [delH_ne hb]; exact e)
  · have hb := Goes.notup g I e fun _ z => by cases z
    rw [addH_ne hb]
    exact un.frzs b o xs (by rw [delH_ne hb]; exact e)
  · have hb := Goes.notup g I e fun _ z => by cases z
    rw [addH_ne hb]
    exact un.tbls b qs (by rw [delH_ne hb]; exact e)
  · by_cases hb : b ∈ L
    · rw [addH_in hb] at e
      rcases g b hb with ⟨φ, e'⟩ | ⟨x, e', _⟩
      · rw [e] at e'
        cases e'
        obtain ⟨p, ⟨o, eo⟩, st⟩ := I.hok b _ e
        have k := un.keep b o eo (delH_in hb) ((g b hb).noframe I) (by simp)
        exact ⟨st _ _ p fun o' q' => by rw [eo] at q'; cases q'; exact k, ⟨o, k⟩, st⟩
      · rw [I.freeC x b e'] at e; cases e
    · rw [addH_ne hb] at e
      have nl : ∀ c y, H' c = some y → c ∉ L := fun c y e z => by rw [gone c z] at e; cases e
      exact (hok b w e).stay (fun _ _ _ q => q) (fun c q => by rw [addH_ne (nl c _ q)]; exact q) fun c xs q => by rw [addH_ne (nl c _ q)]; exact q
end
/-- a function that is handed about, over the base: ready to be called -/
def FV (P : Program) (w : World) (K : PySem.W.Frag) (mg : Str → Option Value) (base : Heap) (CX : CXT) (k : Nat) (f : Addr) (ps : List Str) (sp : Sp) : Prop :=
  ∃ fd oc od sl, FnOk P w K mg base CX k f fd ps sp ∧ base.get? f = some ⟨oc, od, .func fd, sl⟩ ∧ Binds K fd ps []
section
variable {X : Cx} {CX : CXT} {k : Nat} {ps : List Str} {E : XK} {x : Str} {p pos : Pos} {e : Expr} {es : List Expr} {t : TA}
/-- change(..), change a name that holds a made function -/
def tFv (X : Cx) (CX : CXT) (k : Nat) (ps : List Str) (E : XK) (i : Nat) (t : TA) : TE := fun σ H Q => ∃ f sp, σ[i]? = some (some (.ref f)) ∧ FV X.prog X.w X.K X.mg X.base CX k f ps sp ∧ t σ H fun vs H1 => sp vs H1 Q E
theorem pe_fv (i : Nat) (hr : Room k X.A) (hx : Passes CX X E) (ha : PA X (e :: es) t) (hN : X.N[i]? = some x := by rfl) (hv : Vis X.env.scope x := by first | exact Or.inl rfl | exact Or.inr (Or.inl rfl) | exact Or.inr (Or.inr rfl))
    (h : (e :: es).all plainE = true := by rfl) (hd : (x == ("__debug__" : Str)) = false := by decide) (hcd : (x == ("__classdict__" : Str)) = false := by decide) : PE X (.Call (.Name x p) (e :: es) [] pos) (tFv X CX k ps E i t) := by
  intro pins s σ H Q I hw
  obtain ⟨f, sp, hi, ⟨fd, oc, od, sl, F, ho, hb⟩, hw⟩ := hw
  rw [List.all_cons, Bool.and_eq_true] at h
  have hname : PE X (.Name x p) (tVar i) := pe_var hN hv hd hcd
  refine wpAny_Call_Name_kw (thn (hname pins s σ H (fun v H1 => v = .ref f ∧ H1 = H) I ⟨_, hi, rfl, rfl⟩) fun u s1 ⟨v, H1, I1, rv, e1, e2⟩ => ?_)
  subst e1 e2
  cases (show u = Value.ref f from rv)
  refine PySem.W.callWith_F (first := []) ⟨_, _, _, _, I1.bk _ _ ho⟩ (thn (ha pos pins s1 σ H1 _ I1 hw) fun us s2 ⟨vs, H2, I2, r, q⟩ => ⟨⟨_, _, _, _, I2.bk _ _ ho⟩, ?_⟩) (star_plain h.1) (star_any h.2)
  exact run_fn F hr hb (dvs := []) (ds := []) .nil hx I2 r (by rw [List.append_nil]; exact q)
end
section
variable {X : Cx} {CX : CXT} {k : Nat} {ps : List Str} {E : XK} {x : Str} {p pos : Pos} {e : Expr} {es : List Expr} {t : TA}
/-- a def of the text whose promise is told over every base -/
def GB (P : Program) (w : World) (K : PySem.W.Frag) (mg : Str → Option Value) (base : Heap) (CX : CXT) (k : Nat) (x : Str) (ps : List Str) (sp : Heap → Sp) : Prop :=
  ∀ base', (∀ b o, base.get? b = some o → base'.get? b = some o) → GF P w K mg base' CX k x ps (sp base')
/-- f(..) over the larger base: what goes into it is chosen behind the arguments -/
def tExt (X : Cx) (sp : Heap → Sp) (E : XK) (t : TA) : TE := fun σ H Q => t σ H fun vs H1 => ∃ L, (∀ b ∈ L, Goes X H1 b) ∧
  ∀ base', (∀ b o, X.base.get? b = some o → base'.get? b = some o) → (∀ b ∈ L, ∀ φ, H1 b = some (.ext φ) → φ base') →
    (∀ (i : Nat) (y : Str) (v : V) (c : Addr), X.N[i]? = some y → σ[i]? = some (some v) → X.env.scope.names.lookup y = some .cell → X.env.cells.lookup y = some c → c ∈ L → ∃ u, base'.IsCell c (some u) ∧ RelV v u) →
    (∀ b ∈ L, ∀ o, H1 b = some o → ∃ φ, o = .ext φ) → sp base' vs (delH H1 L) (fun v H' => (∀ b ∈ L, H' b = none) → Q v (addH H' H1 L)) E
theorem pe_ext {sp : Heap → Sp} (G : GB X.prog X.w X.K X.mg X.base CX k x ps sp) (hr : Room k X.A) (hg : Gl X x) (hx : ∀ (L : List Addr) (pins : List (Addr × Obj)) (σ : L2.St) (H : Hp) (s : Shared) (e : Value) (s' : Shared), Inv X pins σ H s → CX X.stack (delH H L) s E e s' → X.xe e s')
    (ha : PA X (e :: es) t) (h : (e :: es).all plainE = true := by rfl) (hdb : (x == ("__debug__" : Str)) = false := by decide) : PE X (.Call (.Name x p) (e :: es) [] pos) (tExt X sp E t) := by
  intro pins s σ H Q I hw
  rw [List.all_cons, Bool.and_eq_true] at h
  obtain ⟨f, fd0, F0, hm, hk, hb0⟩ := G X.base fun _ _ e => e
  refine wpAny_Call_Name_kw (ld_glob I hg hm ?_ hdb)
  refine PySem.W.callWith_K (h₀ := X.base) I.ok.mod.kin hk (thn (ha pos pins s σ H _ I hw) fun us s1 ⟨vs, H1, I1, r, q⟩ => ⟨I1.kIn, ?_⟩) (star_plain h.1) (star_any h.2)
  obtain ⟨L, g, q⟩ := q
  have kb : ∀ b o, X.base.get? b = some o → (extB s1.heap X.base L).get? b = some o := fun b o e => extB_get (I1.bk b o e) (by unfold keepL; rw [e]; rfl)
  have inL : ∀ b o, b ∈ L → s1.heap.get? b = some o → (extB s1.heap X.base L).get? b = some o := fun b o hb e => extB_get e (by unfold keepL; rw [show L.contains b = true by simpa using hb, Bool.or_true])
  obtain ⟨f', fd, F, hm', hk', hb⟩ := G _ kb
  rw [hm] at hm'
  cases hm'
  have hs := q (extB s1.heap X.base L) kb (fun b hb φ e => by
    obtain ⟨p, ⟨o, eo⟩, st⟩ := I1.hok b _ e
    exact st _ _ p fun o' q' => inL b o' hb q') (fun i y v c h1 h2 h3 h4 hc => by
    obtain ⟨m, hn, hl⟩ := I1.loc
    obtain ⟨u, ru, lk⟩ := hl i y v h1 h2 (.inr (.inl h3))
    rcases lk with ⟨z, _⟩ | ⟨_, c', e1, o, e2, e3⟩
    · have z' : X.env.scope.names.lookup y = some .local := z
      rw [h3] at z'; cases z'
    · rw [h4] at e1
      cases e1
      exact ⟨u, ⟨o, inL c o hc e2, e3⟩, ru⟩) (fun b hb o e => by
    cases o with
    | ext φ => exact ⟨φ, rfl⟩
    | _ => exact absurd hb (Goes.notup g I1 e fun _ z => by cases z))
  have hl : us.length = ps.length := by rw [← r.length]; exact F.len _ _ _ _ hs
  have bnd := hb s1 us I1.kIn (by rw [List.append_nil]; exact hl)
  rw [List.append_nil] at bnd
  refine wpAny_call (codeAny_mono (F.run X.A X.stack s1 (delH H1 L) ⟨us, []⟩ us vs _ E hr (env0_ext I1 g) bnd r hs) fun r' s' hq => ?_)
  cases r' with
  | error e => exact hx L pins σ H1 s1 e s' I1 hq
  | ok fl =>
    cases fl with
    | ret u => exact after_ext I1 g hq
    | next => exact False.elim hq
    | brk => exact False.elim hq
    | cont => exact False.elim hq
end
end NC
/-! ### reversed: a loop over it, and list(reversed(xs)) -/
namespace NC
open PySem PySem.Spec PyProof.Rows L2
/-- the list at a, n long, from behind -/
def Itv (K : PySem.W.Frag) (a : Addr) (n : Nat) : It :=
  ⟨fun i H => i < n ∧ ∃ xs, SqL K H a xs ∧ xs.length = n, fun i H x H' => H' = H ∧ ∀ xs, SqL K H a xs → xs.reverse[i]? = some x, fun i H => n ≤ i⟩
theorem turn_rev {P : Program} {w : World} {K : PySem.W.Frag} {tg : Expr} (a it : Addr) (n : Nat) : Turn P w K tg (Itv K a n) [it] it (fun i h => i ≤ n ∧ h.IsRevIter it a ((n : Int) - 1 - (i : Int))) where
  mem := by simp
  obj := fun i h st b hb => by
    have e : b = it := by simpa using hb
    subst e
    obtain ⟨_, o, e, c, d⟩ := st
    exact ⟨o, e, fun v z => by rw [d] at z; cases z⟩
  keep := fun i h h' st k => ⟨st.1, st.2.at fun o e => k it (by simp) o e⟩
  item := by
    intro X hP hw hK hc i pins s σ H E I hf st hg
    subst hP hw hK
    obtain ⟨hi, xs, hq, hn⟩ := hg
    obtain ⟨its, rv, p, hz⟩ := I.list hq
    have hx : xs.reverse[i]? = some (xs.reverse[i]'(by rw [List.length_reverse]; omega)) := by simp [hi, hn]
    have hx2 : xs[n - 1 - i]? = some (xs.reverse[i]'(by rw [List.length_reverse]; omega)) := by
      rw [← hx, List.getElem?_reverse (by omega), hn]
    obtain ⟨u, hu, ru⟩ := rv.get hx2
    obtain ⟨f0, f1, f2, f3, f4, f5⟩ := hf it (by simp)
    have e : (n : Int) - 1 - (i : Int) = ((n - 1 - i : Nat) : Int) := by omega
    have st2 := st.2
    rw [e] at st2
    refine wpAny_pyNext_rev_item st2 p.isList (x := u) (by simpa using hu) fun h' st' sb => ?_
    have I1 : Inv X pins σ H { s with heap := h' } := I.turned (t' := s.toks) (fun b o hb e => (sb.2 b hb).trans e) f0 f1 f3 f4 f5
    have e2 : ((n - 1 - i : Nat) : Int) - 1 = (n : Int) - 1 - ((i + 1 : Nat) : Int) := by omega
    rw [e2] at st'
    obtain ⟨o, eo, c, d⟩ := id st'
    exact ⟨u, rfl, go_of (s := { s with heap := h' }) eo c d (by decide) ⟨_, H, I1, ru, ⟨rfl, fun ys hy => by rw [I.list_inj hy hq]; exact hx⟩, ⟨by omega, st'⟩, fun b hb => (hf b hb).1⟩⟩
  done := by
    intro X hP hw hK hc i pins s σ H E I hf st hg
    subst hP hw hK
    have hni : n ≤ i := hg
    obtain ⟨f0, f1, f2, f3, f4, f5⟩ := hf it (by simp)
    have e : (n : Int) - 1 - (i : Int) = -1 := by have := st.1; omega
    have st2 := st.2
    rw [e] at st2
    exact wpAny_pyNext_rev_end (I.ok.hd hc) st2 fun h' eb => ⟨rfl, I.turned (t' := s.toks) (fun b o hb e => eb b o hb e) f0 f1 f3 f4 f5⟩
  self := fun _ _ _ _ _ st h => wpAny_pyIter_revIter st.2 h
section
variable {X : Cx} {tg : Expr}
def iRev (K : PySem.W.Frag) (tl : TE) : TI := fun σ H R => tCons tl tNil σ H fun vs H1 => ∃ a xs, vs = [.ref a] ∧ SqL K H1 a xs ∧ R (Itv K a xs.length) H1
theorem pi_rev {l : Expr} {tl : TE} {p pos : Pos} (hg : Gl X "reversed") (hm : X.mg "reversed" = none) (hl : PE X l tl) (h : plainE l = true := by rfl) : PI X tg (.Call (.Name "reversed" p) [l] [] pos) (iRev X.K tl) := by
  intro pins s σ H R I hw
  have ha : PA X [l] (tCons tl tNil) := pa_c hl pa_nil h
  refine wpAny_Call_Name_kw (ld_blt I hg hm boot_reversed ?_)
  refine PyProof.Rows.callWith_type1 (thn (ha pos pins s σ H _ I hw) fun us s1 ⟨vs, H1, I1, r1, a, xs, e, hq, q1⟩ => ?_) (star_plain h) rfl
  subst e
  obtain ⟨u, rfl, ru⟩ := vals1 r1
  cases (show u = Value.ref a from ru)
  obtain ⟨its, rv, pl, hz⟩ := I1.list hq
  have hn : its.toArray.size = xs.length := by rw [List.size_toArray, rv.length]
  refine call_reversed_list pl.isList ?_
  have hit : (s1.heap.push (revObj a ((its.toArray.size : Int) - 1))).IsRevIter s1.heap.objs.size a ((xs.length : Int) - 1 - ((0 : Nat) : Int)) := by
    refine ⟨_, Heap.get?_push_size _ rfl, rfl, ?_⟩
    rw [hn]
    show Data.fields #[Value.ref a, rawInt ((xs.length : Int) - 1)] = _
    rw [show (xs.length : Int) - 1 - ((0 : Nat) : Int) = (xs.length : Int) - 1 by omega]
  refine wpAny_pyIter_revIter (s := { s1 with heap := s1.heap.push (revObj a ((its.toArray.size : Int) - 1)) }) hit ?_
  refine ⟨s1.heap.objs.size, [s1.heap.objs.size], _, _, H1, rfl, I1.kept (t' := s1.toks) fun b o e => Heap.get?_push_of_some _ e, turn_rev a _ xs.length, ⟨Nat.zero_le _, hit⟩, fun b hb => ?_, q1⟩
  have e : b = s1.heap.objs.size := by simpa using hb
  subst e
  exact I1.fpOk (Nat.le_refl _) (I1.hok.fresh (Nat.le_refl _))
end
/-- over a list from behind, that the body leaves as it is -/
theorem for_rev {K : PySem.W.Frag} {a : Addr} {xs : List V} {g : TG} {tb : TS} {D : Ends} {σ : L2.St} {H : Hp} (Pv : Nat → L2.St → Hp → Prop) (h0 : Pv 0 σ H) (hl : ∀ i σ H, i ≤ xs.length → Pv i σ H → SqL K H a xs)
    (hs : ∀ i x σ H, xs.reverse[i]? = some x → Pv i σ H → g x σ H fun σ2 H2 => tb { D with nx := Pv (i + 1), ct := Pv (i + 1), bk := D.nx } σ2 H2) (hd : ∀ σ H, Pv xs.length σ H → D.nx σ H) :
    ∃ W : Nat → Nat → L2.St → Hp → Prop, (∃ m, W 0 m σ H) ∧ ∀ i m σ H, W i m σ H →
      ((Itv K a xs.length).stop i H ∧ D.nx σ H) ∨ ((Itv K a xs.length).go i H ∧ ∃ N : L2.St → Hp → Prop, (∀ σ' H', N σ' H' → ∃ m', m' < m ∧ W (i + 1) m' σ' H') ∧ ∀ x H', (Itv K a xs.length).yld i H x H' → g x σ H' fun σ2 H2 => tb { D with nx := N, ct := N, bk := D.nx } σ2 H2) := by
  refine ⟨fun i m σ H => m = xs.length - i ∧ i ≤ xs.length ∧ Pv i σ H, ⟨xs.length, by simp, Nat.zero_le _, h0⟩, ?_⟩
  rintro i m σ H ⟨rfl, hi, p⟩
  have q := hl i σ H hi p
  by_cases hlt : i < xs.length
  · refine .inr ⟨⟨hlt, xs, q, rfl⟩, Pv (i + 1), fun σ' H' p' => ⟨xs.length - (i + 1), by omega, rfl, hlt, p'⟩, fun x H' y => ?_⟩
    obtain ⟨e, y⟩ := y
    subst e
    exact hs i x σ _ (y xs q) p
  · have e : i = xs.length := by omega
    subst e
    exact .inl ⟨Nat.le_refl _, hd σ H p⟩

/-! #### list(reversed(xs)) -/
theorem paired_rev {α β : Type} {F : α → β → Prop} : ∀ {xs : List α} {ys : List β}, Paired F xs ys → Paired F xs.reverse ys.reverse
  | _, _, .nil => .nil
  | _, _, .cons r p => by rw [List.reverse_cons, List.reverse_cons]; exact paired_snoc r (paired_rev p)
theorem lri_no_len : typeLookup (.type "list_reverseiterator") "__len__" = pure none := by rw [typeLookup_type, builtinLookup_eq_fast]; kernel_rfl
theorem lri_hint : typeLookup (.type "list_reverseiterator") "__length_hint__" = pure (some (.builtin "list_reverseiterator.__length_hint__")) := by rw [typeLookup_type, builtinLookup_eq_fast]; kernel_rfl
section
variable {prog : Program} {w : World} {A : Around} {E : Value → Shared → Prop} {s : Shared}
theorem sub_lri : isSubtype (.type "list_reverseiterator") (.type "list_reverseiterator") = pure true := by rw [isSubtype_type]; kernel_rfl
theorem hint_lri {it l : Addr} {i : Int} {Q : Bool → Shared → Prop} (hit : s.heap.IsRevIter it l i) (h : Q false s) : wpAny (model prog w) A (Builtin.List.listLengthHint (.ref it)) Q E s := by
  unfold Builtin.List.listLengthHint
  refine wpAny_bind (wpAny_specialOf hit.typeIs lri_no_len ?_)
  show wpAny _ _ (specialOf (Value.ref it) (Str.ofString "__length_hint__") >>= _) _ _ _
  refine wpAny_bind (wpAny_specialOf hit.typeIs lri_hint ?_)
  generalize hid : ("list_reverseiterator.__length_hint__" : String) = id0
  wp_delta
  rw [show splitId id0 = some ("list_reverseiterator", "__length_hint__") from by subst hid; decide +kernel]
  subst hid
  refine wpAny_bind (wpAny_isInstance (b := true) hit.typeIs sub_lri ?_)
  exact wpAny_pure h
theorem lri_nl : (Value.type "list_reverseiterator" == Value.type "list") = false := by decide
theorem lri_nt : (Value.type "list_reverseiterator" == Value.type "tuple") = false := by decide
end
section
variable {prog : Program} {w : World} {A : Around} {s : Shared} {R : Result → Shared → Prop} {I l : Addr} {items : Array Value}
theorem ext_lri (hh : A.handled = none) (hne : l ≠ I) (S : Addr) (res : Value) (c₀ : Nat) (hit : s.heap.IsRevIter I l ((items.size : Int) - 1)) (hl : s.heap.IsList l items) (hSI : S ≠ I) (hSl : S ≠ l)
    (hS : s.heap.get? S = some { cls := .type "list", data := .seq #[] c₀ })
    (hR : ∀ s' acc' c', Moved (S :: [I]) (fun a b => b = a) s s' → s'.heap.get? S = some { cls := .type "list", dict := none, data := .seq acc' c', slots := #[] } → ItemsOf (fun i v => items[items.size - 1 - i]? = some v) acc' items.size → R (.ok (.ret res)) s') (hn : items.size ≤ sizeLine) :
    wpAny (model prog w) A.in1 (Builtin.List.listExtendWith (.ref S) (.ref I) res)
      (fun fin s' => match fin with | .done f => R (.ok f) s' | .again c' => c'.quiet = true ∧ codeAny (model prog w) A c' R s') (fun e s' => R (.error e) s') s := by
  have W := (Walks.listRev (prog := prog) (w := w) (A := A.in1) hh I l hne items).toS
  unfold Builtin.List.listExtendWith
  refine wpAny_bind (wpAny_typeOf hit.typeIs ?_)
  have h1 : Builtin.List.listSameRef (.ref S) (.ref I) = false := by simp [Builtin.List.listSameRef, hSI]
  simp only [h1, lri_nl, lri_nt, Bool.or_false, Bool.false_eq_true, if_false]
  refine wpAny_bind (wpAny_pyIter_revIter hit ?_)
  refine wpAny_bind (wpAny_holding (hint_lri hit ?_))
  rw [if_neg (by decide)]
  have hSf : S ∉ [I, l] := by simp [hSI, hSl]
  refine wpAny_pure ⟨plainId_quiet F.plain_extend_loop _, codeAny_extend_loopS W hn _ hSf _ items.size 0 _ _ _ rfl (Nat.zero_le _) ⟨Nat.zero_le _, by simpa using hit, hl⟩ hS (ItemsOf.nil _) fun s' acc' c' hm hS' hacc => ?_⟩
  exact hR s' acc' c' hm hS' hacc
theorem init_lri (hh : A.handled = none) (hne : l ≠ I) (S : Addr) (hit : s.heap.IsRevIter I l ((items.size : Int) - 1)) (hl : s.heap.IsList l items) (hSI : S ≠ I) (hSl : S ≠ l)
    (hS : s.heap.get? S = some { cls := .type "list", data := .seq #[] })
    (hR : ∀ s' acc' c', Moved (S :: [I]) (fun a b => b = a) s s' → s'.heap.get? S = some { cls := .type "list", dict := none, data := .seq acc' c', slots := #[] } → ItemsOf (fun i v => items[items.size - 1 - i]? = some v) acc' items.size → R (.ok (.ret .none)) s') (hn : items.size ≤ sizeLine) :
    wpAny (model prog w) A.in1 (Builtin.«list.__init__» ⟨[.ref S, .ref I], []⟩)
      (fun fin s' => match fin with | .done f => R (.ok f) s' | .again c' => c'.quiet = true ∧ codeAny (model prog w) A c' R s') (fun e s' => R (.error e) s') s := by
  show wpAny _ A.in1 (do let old ← Builtin.List.listItems (.ref S); Builtin.List.listUpdate (.ref S) (fun _ => #[]); letGo old.toList.reverse; Builtin.List.listExtendWith (.ref S) (.ref I) .none) _ _ s
  refine wpAny_bind ?_
  unfold Builtin.List.listItems
  refine wpAny_bind (wpAny_seqItems hS rfl (wpAny_pure ?_))
  show wpAny _ A.in1 (updateSeq S (fun _ => #[]) >>= fun _ => letGo (#[] : Array Value).toList.reverse >>= fun _ => Builtin.List.listExtendWith (.ref S) (.ref I) .none) _ _ s
  refine wpAny_bind (wpAny_updateSeq hS rfl ?_)
  have hS₂ := Heap.get?_update_self (Obj.mapSeq (fun _ => (#[] : Array Value))) hS rfl
  have oth : ∀ b o, b ≠ S → s.heap.get? b = some o → (s.heap.update S (Obj.mapSeq (fun _ => (#[] : Array Value)))).get? b = some o :=
    fun b o hb e => (Heap.get?_update_other _ _ (Ne.symm hb)).trans e
  refine wpAny_bind (wpAny_letGo ?_)
  refine ext_lri hh hne S .none _ (hit.at fun o e => oth I o hSI.symm e) (hl.at fun o e => oth l o hSl.symm e) hSI hSl hS₂ (fun s' acc' c' hm hS' hacc => ?_) hn
  exact hR s' acc' c' (Moved.trans (fun _ _ _ h1 h2 => h2.trans h1) ((Moved.refl (wr := S :: [I]) (G := fun a b => b = a) (fun _ => rfl)).then_heap (Nat.le_refl _) fun b o hb e => oth b o (fun h => hb (by rw [h]; exact List.mem_cons_self)) e) hm) hS' hacc
end
section
variable {prog : Program} {w : World} {A : Around} {E : Value → Shared → Prop} {s : Shared} {I l : Addr} {items : Array Value}
theorem list_lri {Q : Value → Shared → Prop} (hh : A.handled = none) (hne : l ≠ I) (hit : s.heap.IsRevIter I l ((items.size : Int) - 1)) (hl : s.heap.IsList l items)
    (hQ : ∀ h' tk c', (∀ b o, b ≠ I → s.heap.get? b = some o → h'.get? b = some o) → h'.get? s.heap.objs.size = some { cls := .type "list", dict := none, data := .seq items.reverse c', slots := #[] } → Q (.ref s.heap.objs.size) { s with heap := h', toks := tk }) (hn : items.size ≤ sizeLine) :
    wpAny (model prog w) A (call (.type "list") [.ref I]) Q E s := by
  have lI : I < s.heap.objs.size := by obtain ⟨o, ho, _⟩ := hit; exact Heap.lt_size ho
  have ll : l < s.heap.objs.size := by obtain ⟨o, ho, _⟩ := hl; exact Heap.lt_size ho
  refine callType_codes (Q₁ := fun obj s₁ => obj = .ref s.heap.objs.size ∧ s₁ = { s with heap := s.heap.push { cls := .type "list", data := .seq #[] } }) F.called_list (F.typeCall_list_1 _) F.entry_list_init
    (code_list_new _ ⟨rfl, rfl⟩) fun obj s₁ h₁ => ?_
  obtain ⟨rfl, rfl⟩ := h₁
  have hS : (s.heap.push { cls := .type "list", data := .seq #[] }).get? s.heap.objs.size = some { cls := .type "list", data := .seq #[] } := Heap.get?_push_size _ rfl
  refine ⟨⟨_, hS, rfl⟩, F.args_list_init_2 _ _, init_lri (A := A.in1) hh hne _ (hit.at fun o e => Heap.get?_push_of_some _ e) (hl.at fun o e => Heap.get?_push_of_some _ e) (Nat.ne_of_gt lI) (Nat.ne_of_gt ll) hS (fun s' acc' c' hm hS' hacc => ?_) hn⟩
  refine ⟨rfl, ?_⟩
  rw [Moved.eq_with hm]
  have ea : acc' = items.reverse := by
    apply Array.ext
    · rw [hacc.1, Array.size_reverse]
    · intro j h1 h2
      have := hacc.2 j (acc'[j]) (by simp)
      rw [Array.getElem_reverse]
      rw [Array.size_reverse] at h2
      rw [Array.getElem?_eq_getElem (by omega)] at this
      exact (Option.some.inj this).symm
  refine hQ s'.heap s'.toks c' (fun b o hb e => hm.heap b o ?_ (Heap.get?_push_of_some _ e)) (ea ▸ hS')
  intro hmem
  rcases List.mem_cons.mp hmem with e' | hmem
  · exact absurd (Heap.lt_size e) (by rw [e']; exact Nat.lt_irrefl _)
  · exact hb (by simpa using hmem)
end
section
variable {X : Cx}
/-- list(reversed(l)) -/
def tLRev (K : PySem.W.Frag) (tl : TE) : TE := fun σ H Q => tCons tl tNil σ H fun vs H1 => ∃ a xs, vs = [.ref a] ∧ SqL K H1 a xs ∧ ∀ p, H1 p = none → Q (.ref p) (upd H1 p (.lst xs.reverse))
theorem pe_lrev {l : Expr} {tl : TE} {p p2 pos pos2 : Pos} (hh : X.A.handled = none) (hg : Gl X "reversed") (hm : X.mg "reversed" = none) (hg2 : Gl X "list") (hm2 : X.mg "list" = none) (hl : PE X l tl) (h : plainE l = true := by rfl) :
    PE X (.Call (.Name "list" p2) [.Call (.Name "reversed" p) [l] [] pos] [] pos2) (tLRev X.K tl) := by
  intro pins s σ H Q I hw
  have ha : PA X [l] (tCons tl tNil) := pa_c hl pa_nil h
  refine wpAny_Call_Name_kw (ld_blt I hg2 hm2 boot_list ?_)
  refine PyProof.Rows.callWith_type1 (e := .Call (.Name "reversed" p) [l] [] pos) (rest := []) ?_ rfl rfl
  show wpAny _ _ (spliced ((false, eval (.Call (.Name "reversed" p) [l] [] pos) X.env) :: backTo pos2 (starEach [] X.env))) _ _ s
  refine Calls.spliced_cons ?_
  refine wpAny_Call_Name_kw (ld_blt I hg hm boot_reversed ?_)
  refine PyProof.Rows.callWith_type1 (thn (ha pos pins s σ H _ I hw) fun us s1 ⟨vs, H1, I1, r1, a, xs, e, hq, q1⟩ => ?_) (star_plain h) rfl
  subst e
  obtain ⟨u, rfl, ru⟩ := vals1 r1
  cases (show u = Value.ref a from ru)
  obtain ⟨its, rv, pl, hz⟩ := I1.list hq
  refine call_reversed_list pl.isList ?_
  refine wpAny_items_nil ?_
  have la : a < s1.heap.objs.size := by obtain ⟨o, ho, _⟩ := pl.isList; exact Heap.lt_size ho
  have hn : its.toArray.size ≤ sizeLine := by rw [List.size_toArray, ← rv.length]; exact hz
  have hit : (s1.heap.push (revObj a ((its.toArray.size : Int) - 1))).IsRevIter s1.heap.objs.size a ((its.toArray.size : Int) - 1) := ⟨_, Heap.get?_push_size _ rfl, rfl, rfl⟩
  have I2 : Inv X pins σ H1 { s1 with heap := s1.heap.push (revObj a ((its.toArray.size : Int) - 1)) } := I1.kept (t' := s1.toks) fun b o e => Heap.get?_push_of_some _ e
  refine list_lri (s := { s1 with heap := s1.heap.push (revObj a ((its.toArray.size : Int) - 1)) }) hh (Nat.ne_of_lt la) hit (pl.isList.at fun o e => Heap.get?_push_of_some _ e) (fun h' tk c' kp e => ?_) hn
  obtain ⟨f0, f1, f2, f3, f4, f5⟩ := I1.fpOk (b := s1.heap.objs.size) (Nat.le_refl _) (I1.hok.fresh (Nat.le_refl _))
  have hnew : H1 (s1.heap.push (revObj a ((its.toArray.size : Int) - 1))).objs.size = none := I2.hok.fresh (Nat.le_refl _)
  have rr : Vals xs.reverse its.reverse := paired_rev rv
  have I3 := I2.laid (a := (s1.heap.push (revObj a ((its.toArray.size : Int) - 1))).objs.size) (o := .lst xs.reverse) (t' := s1.toks) (h' := (s1.heap.push (revObj a ((its.toArray.size : Int) - 1))).push { cls := .type "list", dict := none, data := .seq its.toArray.reverse c', slots := #[] })
    (fun b o e => Heap.get?_push_of_some _ e) (Nat.le_refl _) ⟨by rw [List.length_reverse]; exact hz, its.reverse, c', rr, by rw [Heap.get?_push_size _ rfl]; simp⟩
  have I4 := I3.turned (t' := tk) (it := s1.heap.objs.size) (h' := h') (fun b o hb e' => ?_) ?_ f1 f3 f4 f5
  · exact ⟨.ref _, _, I4, rfl, q1 _ hnew⟩
  · by_cases hD : b = (s1.heap.push (revObj a ((its.toArray.size : Int) - 1))).objs.size
    · subst hD
      rw [Heap.get?_push_size _ rfl] at e'
      rw [e, e']
    · exact kp b o hb (by rw [Heap.get?_push_ne _ _ _ hD] at e'; exact e')
  · rw [upd_ne]
    · exact f0
    · rw [Heap.size_push]; exact Nat.ne_of_lt (Nat.lt_succ_self _)
end
end NC
/-! ### defs within defs, in short -/
namespace NC
open PySem PySem.Spec PyProof.Rows L2
def inDef (s : Stmt) (j : Nat) : Stmt := (defBody s).getD j (.Pass ⟨0, 0, 0, 0⟩)
def defPos (s : Stmt) : Pos := match s with
  | .FunctionDef _ _ _ _ _ _ _ _ _ p => p
  | _ => ⟨0, 0, 0, 0⟩
/-- a def of the text whose code is told -/
structure FunC (K : PySem.W.Frag) (x qual : Str) (st : Stmt) (f : Addr) (fd : FuncData) (c0 : Addr) : Prop where
  ex : ∃ (oc : Value) (od : Option Addr) (kV doc pm : Value) (an : Option Addr) (ct : Value) (osl : Array (Option Value)),
    fd = PySem.W.fnOf x qual (defArgs st) (defBody st) (defScope st) .none kV doc pm an (.ref c0) ct ∧ K.lookup f = some ⟨oc, od, .func fd, osl⟩ ∧ PySem.W.codeIn K (.ref c0) qual = true
theorem FunC.ok {P : Program} {w : World} {K : PySem.W.Frag} {mg : Str → Option Value} {base : Heap} {x qual : Str} {st : Stmt} {f : Addr} {fd : FuncData} {c0 : Addr} {N ps : List Str} {k : Nat} {sp : Sp} (F : FunC K x qual st f fd c0) (S : FnScope N ps (defScope st)) (len : ∀ vs H Q E, sp vs H Q E → vs.length = ps.length)
    (hbody : ∀ (A : Around) (outer : List Env) (s : Shared) (H : Hp) (vs : List V) (Q : VK) (E : XK), Room k (A.deeper (envOfC qual (defScope st) s.heap.objs.size f (.ref c0))) → sp vs H Q E →
      ∃ t, PSs (cxOf CX0 P w K mg base N qual (defScope st) f (.ref c0) A outer s H E).nox (defBody st) t ∧ t { nx := fun _ H' => Q .non H', rt := Q } (start N vs) H) : FnOk P w K mg base CX0 (k + 1) f fd ps sp := by
  obtain ⟨oc, od, kV, doc, pm, an, ct, osl, rfl, lk, hcd⟩ := F.ex
  refine fn_of lk hcd S len fun A outer s H vs Q E hr hsp => ?_
  obtain ⟨t, h, q⟩ := hbody A outer s H vs Q E hr hsp
  exact ⟨t, h.nox, q⟩
theorem NL.trans {H H1 H2 : Hp} (a : NL H H1) (b : NL H1 H2) : NL H H2 := fun x o n h => b x o n (a x o n h)
theorem NL.refl (H : Hp) : NL H H := fun _ _ _ h => h
end NC
/-! ### methods and classes by name -/
namespace NC
open PySem PySem.Spec PyProof.Rows L2
def GM (P : Program) (w : World) (K : PySem.W.Frag) (mg : Str → Option Value) (base : Heap) (CX : CXT) (k : Nat) (C : Addr) (m : Str) (ps : List Str) (sp : Sp) : Prop :=
  ∃ f fd, FnOk P w K mg base CX k f fd ps sp ∧ Meth K C m f ∧ Binds K fd ps []
def GK (P : Program) (w : World) (K : PySem.W.Frag) (mg : Str → Option Value) (base : Heap) (CX : CXT) (k : Nat) (C : Addr) (x : Str) (ps : List Str) (sp : Sp) : Prop :=
  ∃ f fd, FnOk P w K mg base CX k f fd ps sp ∧ Mk K C f ∧ mg x = some (.ref C) ∧ Binds K fd ps []
section
variable {X : Cx} {CX : CXT} {k : Nat} {C : Addr} {m x : Str} {ps : List Str} {sp : Sp} {E : XK} {o e : Expr} {es : List Expr} {ta : TE} {t : TA} {apos pos p : Pos}
theorem pe_gm {pl : Sem Bool} (he : PE X o ta) (c : Cls X.K C) (G : GM X.prog X.w X.K X.mg X.base CX k C m ps sp) (hr : Room k X.A) (hx : Passes CX X E) (ha : PA X (e :: es) t) (h : (e :: es).all plainE = true := by rfl)
    (ht : eval (.Call (.Attribute o m apos) (e :: es) [] pos) X.env = (do
      let ov ← eval o X.env
      standAt apos.atName
      let (f, first) ← holding [ov] (getMethod ov m pl)
      callWith pos f first (backTo pos (starEach (e :: es) X.env)) (backToKw pos (keywordEach [] X.env))) := by rfl) : PE X (.Call (.Attribute o m apos) (e :: es) [] pos) (tMeth C m sp [] E ta t) := by
  obtain ⟨f, fd, F, M, hb⟩ := G
  rw [List.all_cons, Bool.and_eq_true] at h
  exact pe_meth he c M F hr hb .nil hx ha (star_plain h.1) (star_any h.2) ht
theorem pe_gk (G : GK X.prog X.w X.K X.mg X.base CX k C x ps sp) (hr : Room (k + 1) X.A) (hg : Gl X x) (hx : Passes CX X E) (ha : PA X (e :: es) t) (h : (e :: es).all plainE = true := by rfl) (hdb : (x == ("__debug__" : Str)) = false := by decide) :
    PE X (.Call (.Name x p) (e :: es) [] pos) (tMake C sp [] E t) := by
  obtain ⟨f, fd, F, M, hm, hb⟩ := G
  rw [List.all_cons, Bool.and_eq_true] at h
  exact pe_make M F hr hg hm hb .nil hx ha hdb (star_plain h.1) (star_any h.2)
end
/-- keys that are numbers below M, no two alike: at most M -/
theorem pig {κ : Type} [DecidableEq κ] (f : Nat → κ) : ∀ (M : Nat) (l : List κ), l.Nodup → (∀ k ∈ l, ∃ n : Nat, n < M ∧ k = f n) → l.length ≤ M
  | 0, l, _, h => by
    cases l with
    | nil => exact Nat.le_refl _
    | cons k r =>
      obtain ⟨n, hn, _⟩ := h k List.mem_cons_self
      exact absurd hn (Nat.not_lt_zero _)
  | M + 1, l, nd, h => by
    by_cases hm : f M ∈ l
    · have q := pig f M (l.erase (f M)) (nd.erase _) fun k hk => by
        obtain ⟨hne, hk2⟩ := (nd.mem_erase_iff).mp hk
        obtain ⟨n, hn, e⟩ := h k hk2
        refine ⟨n, ?_, e⟩
        have : n ≠ M := fun z => hne (by rw [e, z])
        omega
      rw [List.length_erase_of_mem hm] at q
      omega
    · have q := pig f M l nd fun k hk => by
        obtain ⟨n, hn, e⟩ := h k hk
        refine ⟨n, ?_, e⟩
        have : n ≠ M := fun z => hm (by rw [← z, ← e]; exact hk)
        omega
      omega
theorem key_len (M : Nat) (l : List Key) (nd : l.Nodup) (h : ∀ k ∈ l, ∃ n : Nat, n < M ∧ k = .inl (n : Int)) : l.length ≤ M := pig (fun n => (.inl (n : Int) : Key)) M l nd h
end NC
/-! ### the law's walk where defs make functions: their codes' tables are tracked, empty at first -/
namespace NC
open PySem PySem.Spec PyProof.Rows L2
theorem law_callT {P : Program} {w : World} {K : PySem.W.Frag} {mg mb : Str → Option Value} {k : Nat} {fa a : Addr} {fd : FuncData} {x : Str} {sp : Sp} {s₁ : Shared} {vs : List Value} {ns : List Int} {tabs : List (Addr × Addr)}
    (KX : K.In s₁.heap) (hns : s₁.heap.Ns mainGlobals mg) (hb : s₁.heap.Ns builtinsNs mb) (hbb : ∀ x : Str, x ≠ "__name__" → mb x = bootBuiltins x) (hlim : s₁.heap.NoLimit) (hg : s₁.gens = #[]) (BB : BltAt s₁.heap mg)
    (ha : s₁.heap.get? a = some { cls := .type "list", data := .seq vs.toArray }) (hi : IntsAre vs ns) (hl : ns.length ≤ sizeLine) (hr : Room k callerA)
    (hT1 : ∀ q ∈ tabs, PySem.W.codeHdIn K q.1 q.2 = true) (hT2 : ∀ q ∈ tabs, K.lookup q.2 = none) (hT3 : ∀ q ∈ tabs, s₁.heap.get? q.2 = some (PySem.W.tabObj #[]))
    (F : ∀ base : Heap, K.In base → base.Ns mainGlobals mg → BltAt base mg → FnOk P w K mg base CX0 k fa fd [x] sp) (hbind : ∀ (s : Shared) (u : Value), BindsTo s fd ⟨[u], []⟩ [(x, u)])
    (hsp : ∀ H : Hp, (∀ q ∈ tabs, H q.2 = some (.tbl #[])) → SqL K H a (ns.map V.int) → sp [.ref a] H (fun v _ => v = .bl true) fun _ _ _ => False) :
    codeAny (model P w) callerA (.call (.ref fa) ⟨[.ref a], []⟩) (fun r s' => r = .ok (.ret (.bool true)) ∧ OldK s₁.heap s'.heap ∧ s'.os = s₁.os ∧ AllBare s'.gens) s₁ := by
  have rv := vals_ints hi
  have lenV := hi.length
  have aT : ∀ q ∈ tabs, a ≠ q.2 := fun q hq z => by
    have e := hT3 q hq
    rw [← z, ha] at e
    cases e
  have core : ∀ H : Hp, (∀ q ∈ tabs, H q.2 = some (.tbl #[])) → SqL K H a (ns.map V.int) → HOk P w H s₁.heap →
      (∀ b u, H b = some u → (b = a ∧ ∃ xs, u = .frz { cls := .type "list", data := .seq vs.toArray } (.lst xs)) ∨ ((∃ q ∈ tabs, b = q.2) ∧ u = .tbl #[])) → (H a ≠ none → K.lookup a = none) →
      codeAny (model P w) callerA (.call (.ref fa) ⟨[.ref a], []⟩) (fun r s' => r = .ok (.ret (.bool true)) ∧ OldK s₁.heap s'.heap ∧ s'.os = s₁.os ∧ AllBare s'.gens) s₁ := by
    intro H hH hS hok hA hK
    have off : ∀ {b : Addr} {o : Obj}, s₁.heap.get? b = some o → o.cls ≠ .type "list" → o.cls ≠ .none → H b = none := fun {b o} e n1 n2 => by
      cases q : H b with
      | none => rfl
      | some u =>
        rcases hA b u q with ⟨z, _⟩ | ⟨⟨p, hp, z⟩, _⟩
        · rw [z, ha] at e; cases e; exact absurd rfl n1
        · rw [z, hT3 p hp] at e; cases e; exact absurd rfl n2
    have noA : ∀ {b : Addr} {o : Obj} {es : Array DictEntry} {ep : Nat}, s₁.heap.get? b = some o → o.data = .dict es ep → H b = none := fun {b o es ep} e d => by
      cases q : H b with
      | none => rfl
      | some u =>
        rcases hA b u q with ⟨z, _⟩ | ⟨⟨p, hp, z⟩, _⟩
        · rw [z, ha] at e; cases e; cases d
        · rw [z, hT3 p hp] at e; cases e; cases d
    have nsK : ∀ {b : Addr} {m : Str → Option Value}, s₁.heap.Ns b m → (hidT s₁.heap H).Ns b m := fun {b m} ⟨o, es, ep, e, d, r⟩ => ⟨o, es, ep, hidT_get e (noA e d), d, r⟩
    have hKb : K.In (hidT s₁.heap H) := fun b o e => hidT_get (KX b o e) (by
      cases q : H b with
      | none => rfl
      | some u =>
        rcases hA b u q with ⟨z, _⟩ | ⟨⟨p, hp, z⟩, _⟩
        · subst z
          rw [hK (by rw [q]; simp)] at e; cases e
        · rw [z, hT2 p hp] at e; cases e)
    have hBB : BltAt (hidT s₁.heap H) mg := by
      obtain ⟨bm, ob, h1, h2, h3, h4, h5, h6⟩ := BB
      exact ⟨bm, ob, h1, h2, hidT_get h3 (off h3 (by rw [h4]; decide) (by rw [h4]; decide)), h4, h5, h6⟩
    have hM : Mod K mg (hidT s₁.heap H) := ⟨hKb, nsK hns, ⟨mb, nsK hb, hbb⟩, let ⟨mc, h1, h2⟩ := hlim; ⟨mc, nsK h1, h2⟩⟩
    have e0 : Env0 P w K mg (hidT s₁.heap H) callerA [] s₁ H := ⟨rfl, hM, fun b o e => of_hidT e, Nat.le_of_eq (hidT_size _ _), trivial, fun b hb => absurd (show b ∈ ([] : List Addr) from hb) (by simp), hok, .of_eq hg⟩
    refine codeAny_mono ((F _ hKb (nsK hns) hBB).run callerA [] s₁ H ⟨[.ref a], []⟩ [.ref a] [.ref a] _ _ hr e0 (hbind s₁ (.ref a)) (.cons rfl .nil) (hsp H hH hS)) fun r s' h => ?_
    cases r with
    | error e => exact h.elim
    | ok fl =>
      cases fl with
      | next => exact False.elim h
      | brk => exact False.elim h
      | cont => exact False.elim h
      | ret u =>
        obtain ⟨v, H', os, bare, un, hok', r', q⟩ := h
        have q' : v = .bl true := q
        subst q'
        obtain rfl : u = Value.bool true := r'
        refine ⟨rfl, ⟨fun b o e => ?_, fun b o e => un.there b o e (by simp)⟩, os, bare⟩
        cases q : H b with
        | none => exact .inl (un.keep b o e q (by intro z; exact absurd (show b ∈ ([] : List Addr) from z) (by simp)) (by simp))
        | some u =>
          rcases hA b u q with ⟨_, xs, z⟩ | ⟨⟨p, hp, z⟩, zu⟩
          · subst z
            obtain ⟨e1, _⟩ := hok b _ q
            obtain ⟨e2, _⟩ := hok' b _ (un.frzs b _ _ q)
            rw [e] at e1; cases e1
            exact .inl e2
          · subst zu
            obtain ⟨more, z2⟩ := un.tbls b _ q
            have e1 : s₁.heap.get? b = some (PySem.W.tabObj #[]) := hok b _ q
            have e2 : s'.heap.get? b = some (PySem.W.tabObj (#[] ++ more)) := hok' b _ z2
            rw [e] at e1; cases e1
            have hc := (PySem.W.codeHd_of_K KX (hT1 p hp)).tab (hT3 p hp)
            rw [← z] at hc
            exact .inr (.inl ⟨hc.isCodeTable, rfl, #[], more, rfl, e2⟩)
  have tabOk : ∀ b, (∃ q ∈ tabs, b = q.2) → s₁.heap.get? b = some (PySem.W.tabObj #[]) := fun b ⟨q, hq, z⟩ => by rw [z]; exact hT3 q hq
  classical
  cases hk : K.lookup a with
  | some o =>
    have e := KX a o hk
    rw [ha] at e
    cases e
    refine core (fun b => if (∃ q ∈ tabs, b = q.2) then some (.tbl #[]) else none) (fun q hq => if_pos ⟨q, hq, rfl⟩) (.inr ⟨_, vs.toArray, _, hk, rfl, rfl, rfl, by rw [List.size_toArray, lenV]; exact hl, by simpa using rv⟩) (fun b u z => ?_) (fun b u z => ?_) fun z => absurd (if_neg fun ⟨q, hq, e⟩ => aT q hq e) z
    · by_cases hb : ∃ q ∈ tabs, b = q.2
      · have z' := (if_pos hb).symm.trans z
        cases z'
        exact tabOk b hb
      · have z' := (if_neg hb).symm.trans z
        cases z'
    · by_cases hb : ∃ q ∈ tabs, b = q.2
      · have z' := (if_pos hb).symm.trans z
        cases z'
        exact .inr ⟨hb, rfl⟩
      · have z' := (if_neg hb).symm.trans z
        cases z'
  | none =>
    have na : ¬ ∃ q ∈ tabs, a = q.2 := fun ⟨q, hq, e⟩ => aT q hq e
    refine core (fun b => if (∃ q ∈ tabs, b = q.2) then some (.tbl #[]) else if b = a then some (.frz { cls := .type "list", data := .seq vs.toArray } (.lst (ns.map V.int))) else none) (fun q hq => if_pos ⟨q, hq, rfl⟩)
      (.inl (.inr ⟨{ cls := .type "list", data := .seq vs.toArray }, (if_neg na).trans (if_pos rfl)⟩)) (fun b u z => ?_) (fun b u z => ?_) fun _ => hk
    · by_cases hb : ∃ q ∈ tabs, b = q.2
      · have z' := (if_pos hb).symm.trans z
        cases z'
        exact tabOk b hb
      · have z := (if_neg hb).symm.trans z
        by_cases hba : b = a
        · have z' := (if_pos hba).symm.trans z
          cases z'
          subst hba
          exact ⟨ha, by rw [List.length_map]; exact hl, vs, _, rv, ha⟩
        · have z' := (if_neg hba).symm.trans z
          cases z'
    · by_cases hb : ∃ q ∈ tabs, b = q.2
      · have z' := (if_pos hb).symm.trans z
        cases z'
        exact .inr ⟨hb, rfl⟩
      · have z := (if_neg hb).symm.trans z
        by_cases hba : b = a
        · have z' := (if_pos hba).symm.trans z
          cases z'
          exact .inl ⟨hba, _, rfl⟩
        · have z' := (if_neg hba).symm.trans z
          cases z'
theorem walk_T {l : PySem.W.OpenLaw} {k : Nat} {q : Program} {loose : List Str} {XP : (Str → Option Value) → Heap → Prop} {YP : World → Heap → Prop} {d : DefRec} {K : Params → PySem.W.Frag} {sp : PySem.W.Frag → Sp} {x : Str} {tabs : List (Addr × Addr)}
    (hn : l.most = some 63) (hdf : d.params.defaults = []) (hr : Room k callerA) (hY : ∀ (w : World) (h : Heap), YP w h → (K w.params).In h) (hYT : ∀ (w : World) (h : Heap), YP w h → ∀ q ∈ tabs, h.get? q.2 = some (PySem.W.tabObj #[]))
    (hT1 : ∀ P, ∀ q ∈ tabs, PySem.W.codeHdIn (K P) q.1 q.2 = true) (hT2 : ∀ P, ∀ q ∈ tabs, (K P).lookup q.2 = none)
    (F : ∀ (w : World) (mg : Str → Option Value) (fa : Addr) (h : Heap), (K w.params).In h → h.Ns mainGlobals mg → mg d.name = some (.ref fa) →
      ∃ fd : FuncData, (∀ (s : Shared) (u : Value), BindsTo s fd ⟨[u], []⟩ [(x, u)]) ∧
        ∀ base : Heap, (K w.params).In base → base.Ns mainGlobals mg → BltAt base mg → FnOk l.prog w (K w.params) mg base CX0 k fa fd [x] (sp (K w.params)))
    (hsp : ∀ (K : PySem.W.Frag) (H : Hp) (a : Addr) (ns : List Int), ns.length ≤ 63 → (∀ q ∈ tabs, H q.2 = some (.tbl #[])) → SqL K H a (ns.map V.int) → sp K [.ref a] H (fun v _ => v = .bl true) fun _ _ _ => False) :
    PySem.W.WalkO q loose XP YP l.row.toRowW d [] (fun f vs => PySem.call f vs) := by
  refine Att.attach_call hn hdf fun w s₀ s₁ mg mb fa o pm cd doc a vs ns G Y ho hd hcd hmg hobj hints hlen hg => ?_
  have KX := hY w _ Y
  obtain ⟨fd, hb, hF⟩ := F w mg fa _ KX G.T.g hmg
  exact law_callT KX G.T.g G.T.b G.T.builtins G.T.nolimit hg G.T.bmain hobj hints (Nat.le_trans hlen (by decide)) hr (hT1 _) (hT2 _) (hYT w _ Y) hF hb fun H hO hS => hsp _ H a ns hlen hO hS
end NC
/-! ### lambdas, made functions whose code stays tracked, larger bases, all tables of a text -/
namespace NC
open PySem PySem.Spec PyProof.Rows L2

def lamArgs (e : Expr) : Arguments := match e with
  | .Lambda a _ _ _ => a
  | _ => defArgs (.Pass ⟨0, 0, 0, 0⟩)
def lamBody (e : Expr) : Expr := match e with
  | .Lambda _ b _ _ => b
  | x => x
def lamScope (e : Expr) : Scope := match e with
  | .Lambda _ _ s _ => s
  | _ => defScope (.Pass ⟨0, 0, 0, 0⟩)
def lamPos (e : Expr) : Pos := match e with
  | .Lambda _ _ _ p => p
  | _ => ⟨0, 0, 0, 0⟩
/-- the j-th argument of the call that the i-th statement gives back -/
def retArg (s : Stmt) (i j : Nat) : Expr := match (defBody s).getD i (.Pass ⟨0, 0, 0, 0⟩) with
  | .Return (some (.Call f es _ _)) _ => es.getD j f
  | _ => .Name "" ⟨0, 0, 0, 0⟩
def FnObjL (f c : Addr) (qual : Str) (params : Arguments) (body : Expr) (scope : Scope) (clos : List (Str × Addr)) : HO := .ext fun h => ∃ pm ctv, h.get? f = some (PySem.W.kla_obj "<lambda>" qual params body scope clos pm c ctv)
theorem fnObjL_ok {P : Program} {w : World} {H : Hp} {h : Heap} {f c : Addr} {qual : Str} {params : Arguments} {body : Expr} {scope : Scope} {clos : List (Str × Addr)} {pm ctv : Value}
    (x : h.get? f = some (PySem.W.kla_obj "<lambda>" qual params body scope clos pm c ctv)) : ObjOk P w H h f (FnObjL f c qual params body scope clos) :=
  ⟨⟨pm, ctv, x⟩, ⟨_, x⟩, fun _ _ ⟨p, t, e⟩ k => ⟨p, t, k _ e⟩⟩
section
variable {X : Cx} {pins : List (Addr × Obj)} {σ : L2.St} {H : Hp} {s : Shared}
def tLam (P : Addr) (pos : Pos) (qual : Str) (params : Arguments) (body : Expr) (scope : Scope) (clos : List (Str × Addr)) : TE := fun _ H Q =>
  TabOk H P pos qual ∧ ∀ f c H', H f = none → SameX H H' → TabOk H' P pos qual → H' c = some (CodeX c qual) → H' f = some (FnObjL f c qual params body scope clos) →
    (∀ Q : Addr, Q ≠ P → ∀ ps, H Q = some (.tbl ps) → H' Q = some (.tbl ps)) → Q (.ref f) H'
theorem pe_lam {qual : Str} {params : Arguments} {body : Expr} {scope : Scope} {pos : Pos} {c0 P : Addr} {clos : List (Str × Addr)} (hcode : X.env.code = .ref c0) (hC : PySem.W.codeHdIn X.K c0 P = true) (BB : BltAt X.base X.mg)
    (hcl : closureFor scope X.env = pure clos) (hq : X.env.qual ++ "<lambda>" = qual) (hdef : defaultsOf params X.env = ([], []) := by rfl) :
    PE X (.Lambda params body scope pos) (tLam P pos qual params body scope clos) := by
  intro pins s σ H Q I h
  obtain ⟨ht, k⟩ := h
  refine PySem.W.kla_eval hdef ?_
  rw [hq]
  have hg : s.heap.Ns mainGlobals X.mg := I.mod.glob.keeps I.bk
  have CH : PySem.W.CodeHd s.heap c0 P := PySem.W.codeHd_of_K I.kIn hC
  obtain ⟨bm, ob, b1, b2, b3, b4, b5, b6⟩ := BB
  have trk : ∃ ps, H P = some (.tbl ps) := by
    rcases ht with t | ⟨c, t, _⟩
    · exact ⟨_, t⟩
    · exact ⟨_, t⟩
  have nP : ∀ b o, X.base.get? b = some o → b ≠ P := fun b o e z => by
    obtain ⟨ps, t⟩ := trk
    rw [z] at e
    rw [(I.bs P o e).2] at t
    cases t
  have hgP : mainGlobals ≠ P := by
    obtain ⟨o, es, ep, e, _⟩ := I.mod.glob
    exact nP _ _ e
  have hbG : bm ≠ mainGlobals := fun q => by
    obtain ⟨o, es, ep, e, hd, _⟩ := I.mod.glob
    rw [q, e] at b3
    cases b3
    rw [hd] at b6
    cases b6
  have hB : s.heap.BuiltinsAt X.mg P := ⟨bm, ob, b1, b2, hbG, nP _ _ b3, I.bk _ _ b3, b4, b5, b6⟩
  rcases ht with t | ⟨c, t, tc⟩
  · -- the first time
    have hP : s.heap.get? P = some (PySem.W.tabObj #[]) := tbl_at I t
    refine PySem.W.kla_makeFunction (mg := X.mg) hcl I.ok.glob hg hcode CH hP True.intro rfl hgP hB fun c' ctv h' tk hx' hge hlt hrec htb => ?_
    have szf : s.heap.objs.size ≤ h'.objs.size := Nat.le_trans hge (Nat.le_of_lt hlt)
    have oldP : ∀ b o, b ≠ P → s.heap.get? b = some o → (h'.push (PySem.W.kla_obj "<lambda>" qual params body scope clos ((X.mg "__name__").getD .none) c' ctv)).get? b = some o := fun b o n e => Heap.get?_push_of_some _ (hx' b o n e)
    have nc : ∀ b o, s.heap.get? b = some o → b ≠ c' := fun b o e => Nat.ne_of_lt (Nat.lt_of_lt_of_le (Heap.lt_size e) hge)
    have nf : ∀ b o, s.heap.get? b = some o → b ≠ h'.objs.size := fun b o e => Nat.ne_of_lt (Nat.lt_of_lt_of_le (Heap.lt_size e) szf)
    have tr : ∀ b u, H b = some u → ∃ o, s.heap.get? b = some o := fun b u e => objok_there (I.hok b u e)
    have hcf : c' ≠ h'.objs.size := Nat.ne_of_lt hlt
    have H'b : ∀ b o, b ≠ P → (∃ ob, s.heap.get? b = some ob) → H b = o → (upd (upd (upd H P (.tbl #[rawInt pos.line, rawInt pos.col, .ref c'])) c' (CodeX c' qual)) h'.objs.size (FnObjL h'.objs.size c' qual params body scope clos)) b = o := fun b o n ⟨ob, e⟩ q => by
      rw [upd_ne (nf b ob e), upd_ne (nc b ob e), upd_ne n, q]
    have nfree : ∀ b, H b = none → b ≠ P := fun b n z => by rw [z, t] at n; cases n
    have eP : (upd (upd (upd H P (.tbl #[rawInt pos.line, rawInt pos.col, .ref c'])) c' (CodeX c' qual)) h'.objs.size (FnObjL h'.objs.size c' qual params body scope clos)) P = some (.tbl #[rawInt pos.line, rawInt pos.col, .ref c']) := by
      rw [upd_ne (nf P _ hP), upd_ne (nc P _ hP), upd_same]
    have eC : (upd (upd (upd H P (.tbl #[rawInt pos.line, rawInt pos.col, .ref c'])) c' (CodeX c' qual)) h'.objs.size (FnObjL h'.objs.size c' qual params body scope clos)) c' = some (CodeX c' qual) := by
      rw [upd_ne hcf, upd_same]
    have I' : Inv X pins σ (upd (upd (upd H P (.tbl #[rawInt pos.line, rawInt pos.col, .ref c'])) c' (CodeX c' qual)) h'.objs.size (FnObjL h'.objs.size c' qual params body scope clos))
        { s with heap := h'.push (PySem.W.kla_obj "<lambda>" qual params body scope clos ((X.mg "__name__").getD .none) c' ctv), toks := tk } := by
      refine I.step (g' := s.gens) (d' := s.drawn) (ch := []) (fun _ z => nomatch z) (fun b o _ _ _ e n => oldP b o (nfree b n) e) (fun b o _ _ _ e n => ⟨o.slots, oldP b o (nfree b n) e⟩) (fun b o _ e n => H'b b none (nfree b n) ⟨o, e⟩ n)
        (fun b o _ e => ?_) (fun b xs e => H'b b _ (fun z => by rw [z, t] at e; cases e) (tr b _ e) e) (fun b ob u e => H'b b _ (fun z => by rw [z, t] at e; cases e) (tr b _ e) e) (fun b qs e => ?_) (fun m hm => ?_) (fun b u e => ?_) I.bare
      · by_cases hb : b = P
        · subst hb
          exact ⟨_, Heap.get?_push_of_some _ htb⟩
        · exact ⟨o, oldP b o hb e⟩
      · by_cases hb : b = P
        · subst hb
          rw [t] at e
          cases e
          exact ⟨#[rawInt pos.line, rawInt pos.col, .ref c'], by rw [eP]; simp⟩
        · exact ⟨#[], by rw [H'b b _ hb (tr b _ e) e]; simp⟩
      · obtain ⟨o, es, ep, e, r⟩ := hm
        exact ⟨o, es, ep, oldP _ o (nfree _ I.free) e, r⟩
      · by_cases h1 : b = h'.objs.size
        · subst h1
          rw [upd_same] at e
          cases e
          exact fnObjL_ok (Heap.get?_push_size _ rfl)
        · rw [upd_ne h1] at e
          by_cases h2 : b = c'
          · subst h2
            rw [upd_same] at e
            cases e
            exact codeX_ok (hrec.keeps fun b o q => Heap.get?_push_of_some _ q)
          · rw [upd_ne h2] at e
            by_cases h3 : b = P
            · subst h3
              rw [upd_same] at e
              cases e
              show (h'.push _).get? _ = some _
              exact Heap.get?_push_of_some _ htb
            · rw [upd_ne h3] at e
              refine (I.hok b u e).stay (fun d v hd q => oldP d v ?_ q) (fun d q => H'b d _ (fun z => by rw [z, t] at q; cases q) (tr d _ q) q) fun d xs q => H'b d _ (fun z => by rw [z, t] at q; cases q) (tr d _ q) q
              rcases hd with rfl | hd
              · exact h3
              · intro z; rw [z, t] at hd; cases hd
    refine ⟨.ref h'.objs.size, _, I', rfl, k h'.objs.size c' _ (I.hok.fresh szf) (fun b o n q => ?_) (.inr ⟨c', eP, eC⟩) eC upd_same fun Q hQ qs q => ?_⟩
    · exact H'b b _ (fun z => by rw [z, t] at q; cases q; exact n _ rfl) (tr b _ q) q
    · exact H'b Q _ hQ (tr Q _ q) q
  · -- its code is there
    have hP : s.heap.get? P = some (PySem.W.tabObj #[rawInt pos.line, rawInt pos.col, .ref c]) := tbl_at I t
    refine PySem.W.kla_makeFunctionHit (mg := X.mg) (cv := .ref c) hcl I.ok.glob hg hcode CH hP (by exact True.intro) (among_hit pos _) hB fun ctv h' tk hk hsz => ?_
    have hfr : H h'.objs.size = none := I.hok.fresh hsz
    have I' : Inv X pins σ (upd H h'.objs.size (FnObjL h'.objs.size c qual params body scope clos)) { s with heap := h'.push (PySem.W.kla_obj "<lambda>" qual params body scope clos ((X.mg "__name__").getD .none) c ctv), toks := tk } :=
      I.laid (fun b o e => Heap.get?_push_of_some _ (hk b o e)) hsz (fnObjL_ok (Heap.get?_push_size _ rfl))
    have sm : Same H (upd H h'.objs.size (FnObjL h'.objs.size c qual params body scope clos)) := same_new hfr
    exact ⟨.ref h'.objs.size, _, I', rfl, k h'.objs.size c _ hfr (.of sm) (.inr ⟨c, sm _ _ t, sm _ _ tc⟩) (sm _ _ tc) upd_same fun Q _ qs q => sm _ _ q⟩
end
theorem made_free {H H' : Hp} {P : Addr} {pos : Pos} {qual : Str} (sx : SameX H H') (tp : TabOk H' P pos qual) (oth : ∀ Q : Addr, Q ≠ P → ∀ ps, H Q = some (.tbl ps) → H' Q = some (.tbl ps)) {b : Addr} (n : H' b = none) : H b = none := by
  rcases sx.free n with e | ⟨ps, e⟩
  · exact e
  · by_cases hb : b = P
    · subst hb
      rcases tp with t | ⟨c, t, _⟩
      · rw [n] at t; cases t
      · rw [n] at t; cases t
    · have := oth b hb ps e
      rw [n] at this; cases this

/-! #### made functions whose code is tracked -/
section
variable {CX : CXT} {P : Program} {w : World} {K : PySem.W.Frag} {mg : Str → Option Value} {base : Heap} {k : Nat} {f c : Addr} {name qual : Str} {params : Arguments} {body : List Stmt} {bodyE : Expr} {scope : Scope} {clos : List (Str × Addr)} {doc pm ctv : Value} {ps fs : List Str} {fvs : List V} {sp : Sp}
theorem clo_inv {A : Around} {outer : List Env} {s : Shared} {H : Hp} {E : XK} {h₁ : Heap} {us : List Value} {vs : List V} {tk : Tok} (S : CloScope ps fs scope) (hc : CellsAt base clos fs fvs)
    (hclos : ∀ x c, clos.lookup x = some c → x ∈ fs) (inj : ∀ x y c, clos.lookup x = some c → clos.lookup y = some c → x = y) (hl : vs.length = ps.length) (hr : A.handled = none) (e0 : Env0 P w K mg base A outer s H) (r : Vals vs us)
    (hns : h₁.Ns s.heap.objs.size (fun x => (ps.zip us).reverse.lookup x)) (hk : ∀ b o, s.heap.get? b = some o → h₁.get? b = some o) :
    Inv (cxClo CX P w K mg base (ps ++ fs) qual scope f (.ref c) clos A outer s H E) [] ((vs ++ fvs).map some) H { s with heap := h₁, toks := tk } := by
  have ndP : ps.Nodup := (List.nodup_append.mp S.nd).1
  have noA : ∀ b : Addr, b ∉ ([] : List Addr) := fun b z => absurd z (by simp)
  have cellIn : ∀ x c, clos.lookup x = some c → ∃ u, base.IsCell c (some u) := fun x c e => by
    obtain ⟨i, hi, ex⟩ := List.getElem_of_mem (hclos x c e)
    obtain ⟨v, _, c', u, e1, e2, _⟩ := paired_get hc (show fs[i]? = some x by simp [hi, ex])
    rw [e] at e1
    cases e1
    exact ⟨u, e2⟩
  refine ⟨⟨e0.mod, S.kind, rfl, rfl, Nat.le_refl _, inj, fun y hy => ?_, fun y c h => (nomatch h), fun _ => hr, Around.frames_deeper e0.frames, .inr ⟨rfl, rfl⟩, fun b z => absurd z (noA b), e0.bs, e0.bsz, fun b _ _ => noA b, fun b z => absurd z (noA b), e0.funs, e0.frf⟩,
    rfl, e0.bare, Un.kept hk, ⟨_, hns, fun i y v h1 h2 h3 => ?_⟩, fun y c h => ?_, e0.hok.fresh (Nat.le_refl _), fun y c h => ?_, fun p hp => absurd (show p ∈ ([] : List (Addr × Obj)) from hp) (by simp), e0.hok.kept hk, ?_⟩
  · have hy' : scope.names.lookup y = some .cell ∨ scope.names.lookup y = some .free := hy
    rcases hy' with hy' | hy'
    · exact absurd rfl (S.nocell _ (PySem.mem_of_lookup hy'))
    · have hm := S.all _ (PySem.mem_of_lookup hy') rfl
      obtain ⟨i, hi, ex⟩ := List.getElem_of_mem hm
      obtain ⟨v, _, c', u, e1, _⟩ := paired_get hc (show fs[i]? = some y by simp [hi, ex])
      exact ⟨c', e1⟩
  · have h1 : (ps ++ fs)[i]? = some y := h1
    by_cases hi : i < ps.length
    · rw [List.getElem?_append_left hi] at h1
      rw [List.getElem?_map, List.getElem?_append_left (by omega)] at h2
      obtain ⟨v', ev, e2⟩ : ∃ v', vs[i]? = some v' ∧ some v' = some v := by
        cases q : vs[i]? with
        | none => rw [q] at h2; cases h2
        | some v' => rw [q] at h2; exact ⟨v', rfl, Option.some.inj h2⟩
      cases e2
      obtain ⟨u, eu, ru⟩ := r.get ev
      exact ⟨u, ru, .inl ⟨S.par y (List.mem_of_getElem? h1), zip_rev_get ndP h1 eu⟩⟩
    · rw [List.getElem?_append_right (by omega)] at h1
      rw [List.getElem?_map, List.getElem?_append_right (by omega)] at h2
      obtain ⟨v', ev, c', u, e1, e2, e3⟩ := paired_get hc h1
      rw [hl, ev] at h2
      cases (Option.some.inj h2)
      exact ⟨u, e3, .inr ⟨.inr (S.fre y (List.mem_of_getElem? h1)), c', e1, e2.keeps fun b o e => hk b o (e0.bs b o e).1⟩⟩
  · obtain ⟨u, o, e, d⟩ := cellIn y c h
    exact ⟨some u, o, hk _ _ (e0.bs _ _ e).1, d⟩
  · obtain ⟨u, o, e, d⟩ := cellIn y c h
    exact (e0.bs _ _ e).2
  · show ((vs ++ fvs).map some).length = (ps ++ fs).length
    rw [List.length_map, List.length_append, List.length_append, hl, Paired.length hc]
theorem fn_cloT (ho : base.get? f = some (fnObjX name qual params body scope clos doc pm c ctv)) (S : CloScope ps fs scope) (hc : CellsAt base clos fs fvs)
    (hclos : ∀ x c, clos.lookup x = some c → x ∈ fs) (inj : ∀ x y c, clos.lookup x = some c → clos.lookup y = some c → x = y)
    (len : ∀ vs H Q E, sp vs H Q E → vs.length = ps.length) (hcd : ∀ vs H Q E, sp vs H Q E → H c = some (CodeX c qual))
    (hbody : ∀ (A : Around) (outer : List Env) (s : Shared) (H : Hp) (vs : List V) (Q : VK) (E : XK), Room k (A.deeper (PySem.W.envX qual scope s.heap.objs.size f (.ref c) clos)) → sp vs H Q E →
      ∃ t, PSs (cxClo CX P w K mg base (ps ++ fs) qual scope f (.ref c) clos A outer s H E) body t ∧ t { nx := fun _ H' => Q .non H', rt := Q } ((vs ++ fvs).map some) H) :
    FnOk P w K mg base CX (k + 1) f (PySem.W.fnX name qual params body scope clos .none .none doc pm none (.ref c) ctv) ps sp := by
  refine ⟨len, fun A outer s H args us vs Q E hr e0 hb r hsp => ?_⟩
  have hl := len _ _ _ _ hsp
  have lim : s.heap.NoLimit := e0.mod.nolimit.keeps fun b o e => (e0.bs b o e).1
  have hcr : s.heap.CodeRec (.ref c) qual := (e0.hok c _ (hcd _ _ _ _ hsp)).1
  refine PySem.codeAny_call_def (fd := PySem.W.fnX name qual params body scope clos .none .none doc pm none (.ref c) ctv) (body := body) (binds := ps.zip us) hr.depth (e0.bs _ _ ho).1 rfl lim hcr rfl hb S.nocell
    (fun y hy => S.par y.1 (List.of_mem_zip hy).1) (fun h₁ hns hk => ?_) S.co S.gen S.kind
  obtain ⟨t, ht, hq⟩ := hbody A outer s H vs Q E (hr.deeper _) hsp
  have I : Inv (cxClo CX P w K mg base (ps ++ fs) qual scope f (.ref c) clos A outer s H E) [] ((vs ++ fvs).map some) H { s with heap := h₁, toks := s.toks + (ps.zip us).length } := clo_inv S hc hclos inj hl hr.hd e0 r hns hk
  refine wpAny_mono (ht [] _ _ H _ I hq) (fun fl s' hs => ?_) fun e s' hs => hs
  have fin : ∀ {σ' : L2.St} {H' : Hp} {v : V} {u : Value}, Inv (cxClo CX P w K mg base (ps ++ fs) qual scope f (.ref c) clos A outer s H E) [] σ' H' s' → RelV v u → Q v H' → CE outer P w H s Q u s' :=
    fun {σ' H' v u} J rv q => ⟨v, H', J.os, J.bare, J.base, J.hok, rv, q⟩
  cases fl with
  | ret u =>
    obtain ⟨v, σ', H', J, rv, q⟩ := hs
    exact fin J rv q
  | next =>
    obtain ⟨σ', H', J, q⟩ := hs
    exact fin (v := V.non) (u := Value.none) J rfl q
  | brk =>
    obtain ⟨_, _, _, q⟩ := hs
    exact False.elim q
  | cont =>
    obtain ⟨_, _, _, q⟩ := hs
    exact False.elim q
theorem fn_lamT (ho : base.get? f = some (PySem.W.kla_obj "<lambda>" qual params bodyE scope clos pm c ctv)) (S : CloScope ps fs scope) (hc : CellsAt base clos fs fvs)
    (hclos : ∀ x c, clos.lookup x = some c → x ∈ fs) (inj : ∀ x y c, clos.lookup x = some c → clos.lookup y = some c → x = y)
    (len : ∀ vs H Q E, sp vs H Q E → vs.length = ps.length) (hcd : ∀ vs H Q E, sp vs H Q E → H c = some (CodeX c qual))
    (hbody : ∀ (A : Around) (outer : List Env) (s : Shared) (H : Hp) (vs : List V) (Q : VK) (E : XK), Room k (A.deeper (PySem.W.envX qual scope s.heap.objs.size f (.ref c) clos)) → sp vs H Q E →
      ∃ t, PE (cxClo CX P w K mg base (ps ++ fs) qual scope f (.ref c) clos A outer s H E) bodyE t ∧ t ((vs ++ fvs).map some) H Q) :
    FnOk P w K mg base CX (k + 1) f (PySem.W.kla_fn "<lambda>" qual params bodyE scope clos pm (.ref c) ctv) ps sp := by
  refine ⟨len, fun A outer s H args us vs Q E hr e0 hb r hsp => ?_⟩
  have hl := len _ _ _ _ hsp
  have lim : s.heap.NoLimit := e0.mod.nolimit.keeps fun b o e => (e0.bs b o e).1
  have hcr : s.heap.CodeRec (.ref c) qual := (e0.hok c _ (hcd _ _ _ _ hsp)).1
  refine PySem.W.kla_callFunE hr.depth (e0.bs _ _ ho).1 rfl S.co S.gen rfl hcr (hb _ _ _ _ ?_)
  refine wpAny_newFunctionEnv S.nocell (fun y hy => S.par y.1 (List.of_mem_zip hy).1) (fun h₁ hns hsb => ⟨lim.fresh _ hsb, ?_⟩) S.kind
  have hk : ∀ b o, s.heap.get? b = some o → h₁.get? b = some o := fun b o e => hsb.extBut b o (Nat.ne_of_lt (Heap.lt_size e)) (Heap.get?_push_of_some _ e)
  obtain ⟨t, ht, hq⟩ := hbody A outer s H vs Q E (hr.deeper _) hsp
  have I : Inv (cxClo CX P w K mg base (ps ++ fs) qual scope f (.ref c) clos A outer s H E) [] ((vs ++ fvs).map some) H { s with heap := h₁, toks := s.toks + (ps.zip us).length } := clo_inv S hc hclos inj hl hr.hd e0 r hns hk
  show codeAny _ _ (.expr bodyE (PySem.W.envX qual scope s.heap.objs.size f (.ref c) clos)) _ _
  refine PySem.W.kla_codeExpr (wpAny_mono (ht [] _ _ H _ I hq) (fun u s' hs => ?_) fun e s' hs => hs)
  obtain ⟨v, H', J, rv, q⟩ := hs
  exact ⟨v, H', J.os, J.bare, J.base, J.hok, rv, q⟩
end

/-! #### a larger base -/
structure Larger (K : PySem.W.Frag) (mg : Str → Option Value) (base base' : Heap) : Prop where
  get : ∀ b o, base.get? b = some o → base'.get? b = some o
  sz : base.objs.size ≤ base'.objs.size
  mod : Mod K mg base
theorem FV.larger {P : Program} {w : World} {K : PySem.W.Frag} {mg : Str → Option Value} {base base' : Heap} {CX : CXT} {k : Nat} {f : Addr} {ps : List Str} {sp : Sp} (F : FV P w K mg base CX k f ps sp) (L : Larger K mg base base') : FV P w K mg base' CX k f ps sp := by
  obtain ⟨fd, oc, od, sl, F, ho, hb⟩ := F
  refine ⟨fd, oc, od, sl, ⟨F.len, fun A outer s H args us vs Q E hr e0 => F.run A outer s H args us vs Q E hr ⟨e0.frames, L.mod, fun b o e => e0.bs b o (L.get b o e), Nat.le_trans L.sz e0.bsz, ?_, e0.frf, e0.hok, e0.bare⟩⟩, L.get _ _ ho, hb⟩
  have all : ∀ l : List Env, s.heap.FunFrames base' l → s.heap.FunFrames base l := by
    intro l
    induction l with
    | nil => intro _; trivial
    | cons env r ih =>
      intro hl
      obtain ⟨hk, ⟨L', o, hf, hn, ho, hd⟩, hr⟩ := hl
      refine ⟨hk, ⟨L', o, hf, ?_, ho, hd⟩, ih hr⟩
      cases q : base.get? L' with
      | none => rfl
      | some u => rw [L.get _ _ q] at hn; cases hn
  exact all outer e0.funs
section
variable {X : Cx} {CX : CXT} {k : Nat} {ps : List Str} {E : XK} {x : Str} {p pos : Pos} {e : Expr} {es : List Expr} {t : TA}
/-- change(..), change a name that holds a made function, its parameters' names whatever they are -/
def tFvE (X : Cx) (CX : CXT) (k : Nat) (E : XK) (i : Nat) (t : TA) : TE := fun σ H Q => ∃ f ps sp, σ[i]? = some (some (.ref f)) ∧ FV X.prog X.w X.K X.mg X.base CX k f ps sp ∧ t σ H fun vs H1 => sp vs H1 Q E
theorem pe_fvE (i : Nat) (hr : Room k X.A) (hx : Passes CX X E) (ha : PA X (e :: es) t) (hN : X.N[i]? = some x := by rfl) (hv : Vis X.env.scope x := by first | exact Or.inl rfl | exact Or.inr (Or.inl rfl) | exact Or.inr (Or.inr rfl))
    (h : (e :: es).all plainE = true := by rfl) (hd : (x == ("__debug__" : Str)) = false := by decide) (hcd : (x == ("__classdict__" : Str)) = false := by decide) : PE X (.Call (.Name x p) (e :: es) [] pos) (tFvE X CX k E i t) := by
  intro pins s σ H Q I hw
  obtain ⟨f, ps, sp, hi, hF, hw⟩ := hw
  exact pe_fv (ps := ps) i hr hx ha hN hv h hd hcd pins s σ H Q I ⟨f, sp, hi, hF, hw⟩
/-- what may go into the larger base: made functions, or cells of this frame's own -/
def Goes2 (X : Cx) (H : Hp) (b : Addr) : Prop := (∃ φ, H b = some (.ext φ) ∧ ∀ h, φ h → ∃ o fd, h.get? b = some o ∧ o.data = .func fd) ∨ ∃ x, X.env.cells.lookup x = some b ∧ X.fn x = true
theorem Goes2.goes {H : Hp} {b : Addr} (g : Goes2 X H b) : Goes X H b := by
  rcases g with ⟨φ, e, _⟩ | g
  · exact .inl ⟨φ, e⟩
  · exact .inr g
theorem goes_fn {H : Hp} {f c : Addr} {name qual : Str} {params : Arguments} {body : List Stmt} {scope : Scope} {clos : List (Str × Addr)} (h : H f = some (FnObj f c name qual params body scope clos)) : Goes2 X H f :=
  .inl ⟨_, h, fun _ ⟨_, _, _, e⟩ => ⟨_, _, e, rfl⟩⟩
theorem goes_lam {H : Hp} {f c : Addr} {qual : Str} {params : Arguments} {body : Expr} {scope : Scope} {clos : List (Str × Addr)} (h : H f = some (FnObjL f c qual params body scope clos)) : Goes2 X H f :=
  .inl ⟨_, h, fun _ ⟨_, _, e⟩ => ⟨_, _, e, rfl⟩⟩
/-- what is known of the larger base -/
structure Lg (X : Cx) (σ : L2.St) (H : Hp) (L : List Addr) (base' : Heap) : Prop where
  lg : Larger X.K X.mg X.base base'
  ext : ∀ b ∈ L, ∀ φ, H b = some (.ext φ) → φ base'
  cell : ∀ (i : Nat) (y : Str) (v : V) (c : Addr), X.N[i]? = some y → σ[i]? = some (some v) → X.env.scope.names.lookup y = some .cell → X.env.cells.lookup y = some c → c ∈ L → ∃ u, base'.IsCell c (some u) ∧ RelV v u
  only : ∀ b ∈ L, ∀ o, H b = some o → ∃ φ, o = .ext φ
  nocode : ∀ b ∈ L, ∀ q, H b ≠ some (CodeX b q)
def tEx (X : Cx) (sp : Heap → Sp) (E : XK) (t : TA) : TE := fun σ H Q => t σ H fun vs H1 => ∃ L, (∀ b ∈ L, Goes2 X H1 b) ∧
  ∀ base', Lg X σ H1 L base' → sp base' vs (delH H1 L) (fun v H' => (∀ b ∈ L, H' b = none) → Q v (addH H' H1 L)) E
theorem pe_ex {sp : Heap → Sp} (G : GB X.prog X.w X.K X.mg X.base CX k x ps sp) (hr : Room k X.A) (hg : Gl X x) (hx : ∀ (L : List Addr) (pins : List (Addr × Obj)) (σ : L2.St) (H : Hp) (s : Shared) (e : Value) (s' : Shared), Inv X pins σ H s → CX X.stack (delH H L) s E e s' → X.xe e s')
    (ha : PA X (e :: es) t) (h : (e :: es).all plainE = true := by rfl) (hdb : (x == ("__debug__" : Str)) = false := by decide) : PE X (.Call (.Name x p) (e :: es) [] pos) (tEx X sp E t) := by
  intro pins s σ H Q I hw
  rw [List.all_cons, Bool.and_eq_true] at h
  obtain ⟨f, fd0, F0, hm, hk, hb0⟩ := G X.base fun _ _ e => e
  refine wpAny_Call_Name_kw (ld_glob I hg hm ?_ hdb)
  refine PySem.W.callWith_K (h₀ := X.base) I.ok.mod.kin hk (thn (ha pos pins s σ H _ I hw) fun us s1 ⟨vs, H1, I1, r, q⟩ => ⟨I1.kIn, ?_⟩) (star_plain h.1) (star_any h.2)
  obtain ⟨L, g2, q⟩ := q
  have g : ∀ b ∈ L, Goes X H1 b := fun b hb => (g2 b hb).goes
  have kb : ∀ b o, X.base.get? b = some o → (extB s1.heap X.base L).get? b = some o := fun b o e => extB_get (I1.bk b o e) (by unfold keepL; rw [e]; rfl)
  have inL : ∀ b o, b ∈ L → s1.heap.get? b = some o → (extB s1.heap X.base L).get? b = some o := fun b o hb e => extB_get e (by unfold keepL; rw [show L.contains b = true by simpa using hb, Bool.or_true])
  obtain ⟨f', fd, F, hm', hk', hb⟩ := G _ kb
  rw [hm] at hm'
  cases hm'
  have hs := q (extB s1.heap X.base L) ⟨⟨kb, by rw [show (extB s1.heap X.base L).objs.size = s1.heap.objs.size from PySem.W.hideAll_size _ _]; exact Nat.le_trans I1.ok.bsz I1.sz, I1.ok.mod⟩, fun b hb φ e => by
    obtain ⟨p, ⟨o, eo⟩, st⟩ := I1.hok b _ e
    exact st _ _ p fun o' q' => inL b o' hb q', fun i y v c h1 h2 h3 h4 hc => by
    obtain ⟨m, hn, hl⟩ := I1.loc
    obtain ⟨u, ru, lk⟩ := hl i y v h1 h2 (.inr (.inl h3))
    rcases lk with ⟨z, _⟩ | ⟨_, c', e1, o, e2, e3⟩
    · have z' : X.env.scope.names.lookup y = some .local := z
      rw [h3] at z'; cases z'
    · rw [h4] at e1
      cases e1
      exact ⟨u, ⟨o, inL c o hc e2, e3⟩, ru⟩, fun b hb o e => by
    cases o with
    | ext φ => exact ⟨φ, rfl⟩
    | _ => exact absurd hb (Goes.notup g I1 e fun _ z => by cases z), fun b hb q e => by
    rcases g2 b hb with ⟨φ, e', h'⟩ | ⟨y, e', _⟩
    · rw [e] at e'
      have hφ : φ = fun h => h.CodeRec (.ref b) q := (HO.ext.inj (Option.some.inj e')).symm
      obtain ⟨p, _, _⟩ := I1.hok b _ e
      have p : s1.heap.CodeRec (.ref b) q := p
      obtain ⟨o, fd, e1, e2⟩ := h' s1.heap (by rw [hφ]; exact p)
      obtain ⟨c, o', vs, t, a1, a2, a3, a4⟩ := p
      cases a1
      rw [e1] at a2
      cases a2
      rw [e2] at a3
      cases a3
    · rw [I1.freeC y b e'] at e; cases e⟩
  have hl : us.length = ps.length := by rw [← r.length]; exact F.len _ _ _ _ hs
  have bnd := hb s1 us I1.kIn (by rw [List.append_nil]; exact hl)
  rw [List.append_nil] at bnd
  refine wpAny_call (codeAny_mono (F.run X.A X.stack s1 (delH H1 L) ⟨us, []⟩ us vs _ E hr (env0_ext I1 g) bnd r hs) fun r' s' hq => ?_)
  cases r' with
  | error e => exact hx L pins σ H1 s1 e s' I1 hq
  | ok fl =>
    cases fl with
    | ret u => exact after_ext I1 g hq
    | next => exact False.elim hq
    | brk => exact False.elim hq
    | cont => exact False.elim hq
end

theorem tups_del {H : Hp} {L : List Addr} (h : ∀ b ∈ L, ∀ o, H b = some o → ∃ φ, o = .ext φ) : Tups H (delH H L) := fun b xs e => by
  rw [delH_ne fun z => by obtain ⟨φ, q⟩ := h b z _ e; cases q]
  exact e
/-- what was the same over the larger base is the same -/
theorem same_add {H H' : Hp} {L : List Addr} (s : Same (delH H L) H') : Same H (addH H' H L) := fun b o e => by
  by_cases hb : b ∈ L
  · rw [addH_in hb]; exact e
  · rw [addH_ne hb]; exact s b o (by rw [delH_ne hb]; exact e)
theorem tups_add {H H' : Hp} {L : List Addr} (g : ∀ b ∈ L, H' b = none) : Tups H' (addH H' H L) := fun b xs e => by
  rw [addH_ne fun z => by rw [g b z] at e; cases e]
  exact e

/-! #### all tables of a text -/
abbrev Tabs := List (Addr × Pos × Str)
def TO (L : Tabs) (H : Hp) : Prop := ∀ x ∈ L, TabOk H x.1 x.2.1 x.2.2
/-- no two tables are at one place -/
def TDis (L : Tabs) : Prop := ∀ x ∈ L, ∀ y ∈ L, x.1 = y.1 → x = y
theorem tdis_of {L : Tabs} (h : (L.map (·.1)).Nodup) : TDis L := by
  induction L with
  | nil => intro x hx; cases hx
  | cons a r ih =>
    rw [List.map_cons, List.nodup_cons] at h
    intro x hx y hy e
    rcases List.mem_cons.mp hx with h1 | h1
    · rcases List.mem_cons.mp hy with h2 | h2
      · rw [h1, h2]
      · exact absurd (List.mem_map.mpr ⟨y, h2, by rw [← e, h1]⟩) h.1
    · rcases List.mem_cons.mp hy with h2 | h2
      · exact absurd (List.mem_map.mpr ⟨x, h1, by rw [e, h2]⟩) h.1
      · exact ih h.2 x h1 y h2 e
/-- all but lists and tables stays -/
def NLX (H H' : Hp) : Prop := ∀ b o, (∀ xs, o ≠ .lst xs) → (∀ ps, o ≠ .tbl ps) → H b = some o → H' b = some o
structure ST (L : Tabs) (H H' : Hp) : Prop where
  sx : SameX H H'
  to : TO L H'
section
variable {L : Tabs} {H H1 H2 H' : Hp} {D : List Addr}
theorem TO.same (t : TO L H) (s : Same H H') : TO L H' := fun x hx => (t x hx).same s
theorem TO.nl (t : TO L H) (s : NL H H') : TO L H' := fun x hx => (t x hx).nl s
theorem TO.made {P : Addr} {pos : Pos} {q : Str} (t : TO L H) (dis : TDis L) (m : (P, pos, q) ∈ L) (sx : SameX H H') (tp : TabOk H' P pos q) (oth : ∀ Q : Addr, Q ≠ P → ∀ ps, H Q = some (.tbl ps) → H' Q = some (.tbl ps)) : TO L H' := fun x hx => by
  by_cases hP : x.1 = P
  · have e := dis x hx (P, pos, q) m hP
    rw [e]
    exact tp
  · rcases t x hx with a | ⟨c, a, b⟩
    · exact .inl (oth _ hP _ a)
    · exact .inr ⟨c, oth _ hP _ a, sx _ _ (fun _ z => by cases z) b⟩
theorem TO.del (t : TO L H) (only : ∀ b ∈ D, ∀ o, H b = some o → ∃ φ, o = .ext φ) (nocode : ∀ b ∈ D, ∀ q, H b ≠ some (CodeX b q)) : TO L (delH H D) := fun x hx => by
  have nt : ∀ ps, H x.1 = some (.tbl ps) → x.1 ∉ D := fun ps e z => by obtain ⟨φ, q⟩ := only _ z _ e; cases q
  rcases t x hx with a | ⟨c, a, b⟩
  · exact .inl (by rw [delH_ne (nt _ a)]; exact a)
  · exact .inr ⟨c, by rw [delH_ne (nt _ a)]; exact a, by rw [delH_ne fun z => nocode c z _ b]; exact b⟩
theorem TO.add (t : TO L H') (gone : ∀ b ∈ D, H' b = none) : TO L (addH H' H D) := fun x hx => by
  have nd : ∀ b o, H' b = some o → b ∉ D := fun b o e z => by rw [gone b z] at e; cases e
  rcases t x hx with a | ⟨c, a, b⟩
  · exact .inl (by rw [addH_ne (nd _ _ a)]; exact a)
  · exact .inr ⟨c, by rw [addH_ne (nd _ _ a)]; exact a, by rw [addH_ne (nd _ _ b)]; exact b⟩
theorem SameX.addd (s : SameX (delH H D) H') : SameX H (addH H' H D) := fun b o n e => by
  by_cases hb : b ∈ D
  · rw [addH_in hb]; exact e
  · rw [addH_ne hb]; exact s b o n (by rw [delH_ne hb]; exact e)
theorem ST.refl (t : TO L H) : ST L H H := ⟨.refl _, t⟩
theorem ST.trans (a : ST L H H1) (b : ST L H1 H2) : ST L H H2 := ⟨a.sx.trans b.sx, b.to⟩
theorem ST.of_same (t : TO L H) (s : Same H H') : ST L H H' := ⟨.of s, t.same s⟩
theorem ST.same (a : ST L H H1) (s : Same H1 H2) : ST L H H2 := a.trans (.of_same a.to s)
theorem ST.tups (a : ST L H H') : Tups H H' := a.sx.tups
theorem ST.addd (a : ST L (delH H D) H') (gone : ∀ b ∈ D, H' b = none) : ST L H (addH H' H D) := ⟨a.sx.addd, a.to.add gone⟩
theorem NLX.refl (H : Hp) : NLX H H := fun _ _ _ _ h => h
theorem NLX.trans (a : NLX H H1) (b : NLX H1 H2) : NLX H H2 := fun x o n m h => b x o n m (a x o n m h)
theorem NLX.of_nl (n : NL H H') : NLX H H' := fun b o a _ h => n b o a h
theorem NLX.of_same (s : Same H H') : NLX H H' := fun b o _ _ h => s b o h
theorem NLX.of_sx (s : SameX H H') : NLX H H' := fun b o _ m h => s b o m h
theorem NLX.of_keep {l : Addr} {xs : List V} (k : Keep [l] H H') (h : H l = some (.lst xs)) : NLX H H' := .of_nl (.of_keep k h)
end
end NC
namespace NC
open PySem PySem.Spec PyProof.Rows L2
/-- all but A and tables stays -/
def KA (A : List Addr) (H H' : Hp) : Prop := ∀ b o, b ∉ A → (∀ ps, o ≠ .tbl ps) → H b = some o → H' b = some o
section
variable {A D : List Addr} {L : Tabs} {H H1 H2 H' : Hp} {p : Addr}
theorem KA.refl (A : List Addr) (H : Hp) : KA A H H := fun _ _ _ _ h => h
theorem KA.trans (a : KA A H H1) (b : KA A H1 H2) : KA A H H2 := fun x o n m h => b x o n m (a x o n m h)
theorem KA.of_same (s : Same H H') : KA A H H' := fun b o _ _ h => s b o h
theorem KA.of_sx (s : SameX H H') : KA A H H' := fun b o _ m h => s b o m h
theorem KA.sx (a : KA [] H H') : SameX H H' := fun b o m h => a b o (by simp) m h
theorem KA.addd (s : KA A (delH H D) H') : KA A H (addH H' H D) := fun b o n m e => by
  by_cases hb : b ∈ D
  · rw [addH_in hb]; exact e
  · rw [addH_ne hb]; exact s b o n m (by rw [delH_ne hb]; exact e)
theorem KA.keep (a : KA A H H1) (k : Keep [p] H1 H2) (n : H p = none) : KA A H H2 := fun b o nb m h => k b o (fun z => by rw [List.mem_singleton.mp z, n] at h; cases h) (a b o nb m h)
/-- own ones are dicts -/
def OwnD (A : List Addr) (H : Hp) : Prop := ∀ b ∈ A, ∃ kvs, H b = some (.dK kvs)
theorem KA.lst (a : KA A H H') (d : OwnD A H) {b : Addr} {xs : List V} (h : H b = some (.lst xs)) : H' b = some (.lst xs) := a b _ (fun z => by obtain ⟨_, q⟩ := d b z; rw [h] at q; cases q) (fun _ z => by cases z) h
theorem KA.tups (a : KA A H H') (d : OwnD A H) : Tups H H' := fun b xs h => a b _ (fun z => by obtain ⟨_, q⟩ := d b z; rw [h] at q; cases q) (fun _ z => by cases z) h
theorem nlx_add (gone : ∀ b ∈ D, H' b = none) : NLX H' (addH H' H D) := fun b o _ _ h => by
  rw [addH_ne fun z => by rw [gone b z] at h; cases h]
  exact h
/-- from the entry to behind a made function, without it -/
theorem nlx_del (s : SameX H H1) (sx : SameX H1 H2) (n : ∀ b ∈ D, H1 b = none) : NLX H (delH H2 D) := fun b o _ m h => by
  have e := s b o m h
  rw [delH_ne fun z => by rw [n b z] at e; cases e]
  exact sx b o m e
theorem ka_del (s : SameX H H1) (sx : SameX H1 H2) (n : ∀ b ∈ D, H1 b = none) : SameX H (delH H2 D) := fun b o m h => by
  have e := s b o m h
  rw [delH_ne fun z => by rw [n b z] at e; cases e]
  exact sx b o m e
end
end NC
/-! ### paths and pairs in the heap, while some local lists change -/
namespace NC
open PySem PySem.Spec PyProof.Rows L2
def PathN (L : List Addr) (H : Hp) (v : V) (p : List Int) : Prop := ∃ l, v = .ref l ∧ l ∉ L ∧ H l = some (.lst (p.map V.int))
def ItemN (L : List Addr) (H : Hp) (v : V) (q : Tm × List Int) : Prop := ∃ a tv pv, v = .ref a ∧ H a = some (.tup [tv, pv]) ∧ TermAt H tv q.1 ∧ PathN L H pv q.2
/-- all of L are lists -/
def Lists (L : List Addr) (H : Hp) : Prop := ∀ x ∈ L, ∃ ys, H x = some (.lst ys)
theorem lists2 {H : Hp} {f d : Addr} {xs ys : List V} (h1 : H f = some (.lst xs)) (h2 : H d = some (.lst ys)) : Lists [f, d] H := fun x hx => by
  rcases List.mem_cons.mp hx with e | hx
  · exact ⟨xs, e ▸ h1⟩
  · exact ⟨ys, List.mem_singleton.mp hx ▸ h2⟩
theorem PathN.keep {L : List Addr} {H H' : Hp} {v : V} {p : List Int} (h : PathN L H v p) (k : Keep L H H') : PathN L H' v p := let ⟨l, e, n, q⟩ := h; ⟨l, e, n, k _ _ n q⟩
theorem ItemN.keep {L : List Addr} {H H' : Hp} {v : V} {q : Tm × List Int} (h : ItemN L H v q) (k : Keep L H H') (hL : Lists L H) : ItemN L H' v q :=
  let ⟨a, tv, pv, e, h1, h2, h3⟩ := h
  ⟨a, tv, pv, e, k.tups hL _ _ h1, h2.mono (k.tups hL), h3.keep k⟩
theorem PathN.path {L : List Addr} {H : Hp} {v : V} {p : List Int} (h : PathN L H v p) : PathV H v p := let ⟨l, e, _, q⟩ := h; ⟨l, e, q⟩
/-- what is still to do: the last one first -/
def pend (its : List (Tm × List Int)) : List (List Int) := its.reverse.flatMap fun q => under q.2 q.1
theorem pend_snoc (its : List (Tm × List Int)) (q : Tm × List Int) : pend (its ++ [q]) = under q.2 q.1 ++ pend its := by
  unfold pend
  rw [List.reverse_append]
  rfl
def sizes (its : List (Tm × List Int)) : Nat := (its.map fun q => q.1.size).sum
theorem sizes_snoc (its : List (Tm × List Int)) (q : Tm × List Int) : sizes (its ++ [q]) = sizes its + q.1.size := by
  unfold sizes
  rw [List.map_append, List.sum_append]
  simp
theorem len_sizes : ∀ its : List (Tm × List Int), its.length ≤ sizes its
  | [] => Nat.le_refl _
  | q :: r => by
    have := len_sizes r
    have h := q.1.size_pos
    show r.length + 1 ≤ q.1.size + sizes r
    omega
/-- todo.append((part[j], path + [c])) -/
theorem rd_push {K : PySem.W.Frag} {σ : L2.St} {H : Hp} {Q : VK} {i2 i4 i5 : Nat} {d a l : Addr} {ys xs : List V} {bv : V} {j c : Int} {p : List Int} (h2 : σ[i2]? = some (some (.ref d))) (h4 : σ[i4]? = some (some (.ref a))) (h5 : σ[i5]? = some (some (.ref l)))
    (ha : H a = some (.tup ys)) (hj : atI ys j = some bv) (hl : H l = some (.lst (p.map V.int))) (hd : H d = some (.lst xs)) (hx : xs.length ≤ 900000) (hp : p.length ≤ 900000)
    (cont : ∀ b8 b9 H10, Keep [d] H H10 → H10 d = some (.lst (xs ++ [.ref b9])) → H b9 = none → H b8 = none → H10 b9 = some (.tup [bv, .ref b8]) → H10 b8 = some (.lst ((p ++ [c]).map V.int)) → Q .non H10) :
    tApp K (tVar i2) (tTp (tCons (tOp (rIxT K) (tVar i4) (tC (.int j))) (tCons (tOp rCt (tVar i5) (tLs (tCons (tC (.int c)) tNil))) tNil))) σ H Q := by
  refine ⟨_, h2, Or.inl ⟨rfl, _, SqL.of hd⟩, _, h4, _, _, _, _, rfl, rfl, SqT.of ha, hj, _, h5, small' (by show 1 ≤ 1000000; decide), fun b7 H7 n7 s7 h7 => ?_⟩
  refine ⟨_, _, _, _, rfl, rfl, s7 _ _ hl, h7, small' (by rw [List.length_map]; show p.length + 1 ≤ _; omega), fun b8 H8 n8 s8 h8 => ⟨small' (by show 2 ≤ 1000000; decide), fun b9 H9 n9 s9 h9 => ?_⟩⟩
  have S9 : Same H H9 := (s7.trans s8).trans s9
  refine ⟨_, _, _, rfl, rfl, S9 _ _ hd, small (by omega), fun H10 k10 h10 => ?_⟩
  have n8d : b8 ≠ d := (ne_of_none (s7 _ _ hd) n8).symm
  refine cont b8 b9 H10 ((Keep.of_same S9).trans k10) h10 ((s7.trans s8).free n9) (s7.free n8) (k10.tup1 (S9 _ _ hd) _ _ h9) ?_
  have q := k10.at (s9 _ _ h8) n8d
  rw [List.map_append]
  exact q
end NC
/-! ### pairs of a part and a number in the heap -/
namespace NC
open PySem PySem.Spec PyProof.Rows L2
def PairAt (H : Hp) (v : V) (q : Tm × Nat) : Prop := ∃ a tv, v = .ref a ∧ H a = some (.tup [tv, .int (q.2 : Int)]) ∧ TermAt H tv q.1
theorem PairAt.mono {H H' : Hp} {v : V} {q : Tm × Nat} (h : PairAt H v q) (k : Tups H H') : PairAt H' v q := let ⟨a, tv, e, h1, h2⟩ := h; ⟨a, tv, e, k _ _ h1, h2.mono k⟩
def pendP (its : List (Tm × Nat)) : List (Tm × Nat) := its.reverse.flatMap fun q => q.1.parts q.2
theorem pendP_snoc (its : List (Tm × Nat)) (q : Tm × Nat) : pendP (its ++ [q]) = q.1.parts q.2 ++ pendP its := by
  unfold pendP
  rw [List.reverse_append]
  rfl
def pendL (its : List (Tm × Nat)) : List (Tm × Nat) := its.reverse.flatMap fun q => q.1.lparts q.2
theorem pendL_snoc (its : List (Tm × Nat)) (q : Tm × Nat) : pendL (its ++ [q]) = q.1.lparts q.2 ++ pendL its := by
  unfold pendL
  rw [List.reverse_append]
  rfl
def sizesP (its : List (Tm × Nat)) : Nat := (its.map fun q => q.1.size).sum
theorem sizesP_snoc (its : List (Tm × Nat)) (q : Tm × Nat) : sizesP (its ++ [q]) = sizesP its + q.1.size := by
  unfold sizesP
  rw [List.map_append, List.sum_append]
  simp
theorem len_sizesP : ∀ its : List (Tm × Nat), its.length ≤ sizesP its
  | [] => Nat.le_refl _
  | q :: r => by
    have := len_sizesP r
    have h := q.1.size_pos
    show r.length + 1 ≤ q.1.size + sizesP r
    omega
/-- lists and tuples stay -/
def LT (H H' : Hp) : Prop := (∀ b xs, H b = some (.lst xs) → H' b = some (.lst xs)) ∧ Tups H H'
theorem LT.refl (H : Hp) : LT H H := ⟨fun _ _ h => h, fun _ _ h => h⟩
theorem LT.trans {H H1 H2 : Hp} (a : LT H H1) (b : LT H1 H2) : LT H H2 := ⟨fun x xs h => b.1 _ _ (a.1 _ _ h), fun x xs h => b.2 _ _ (a.2 _ _ h)⟩
theorem LT.of {H H' : Hp} (s : Same H H') : LT H H' := ⟨fun b xs h => s _ _ h, fun b xs h => s _ _ h⟩
theorem same_lt {H H' : Hp} (a : LT H H') (n : NL H H') : Same H H' := fun b o h => by
  cases o with
  | lst xs => exact a.1 _ _ h
  | _ => exact n b _ (fun _ z => by cases z) h
end NC
/-! ### terms as data; parts of the script -/
namespace NC
open PySem PySem.Spec PyProof.Rows L2
/-- a term as data -/
def termD : Tm → Dt
  | .name w => .tup [.str "name", .str w]
  | .place n => .tup [.str "place", .int n]
  | .form b => .tup [.str "form", termD b]
  | .call a b => .tup [.str "call", termD a, termD b]
theorem term_dat {K : PySem.W.Frag} {H : Hp} {v : V} {t : Tm} (h : TermAt H v t) : DAt K H (termD t) v := by
  induction h with
  | name h => exact ⟨_, _, rfl, SqT.of h, _, _, rfl, rfl, _, _, rfl, rfl, rfl⟩
  | place h => exact ⟨_, _, rfl, SqT.of h, _, _, rfl, rfl, _, _, rfl, rfl, rfl⟩
  | form h _ ih => exact ⟨_, _, rfl, SqT.of h, _, _, rfl, rfl, _, _, rfl, ih, rfl⟩
  | call h _ _ ih1 ih2 => exact ⟨_, _, rfl, SqT.of h, _, _, rfl, rfl, _, _, rfl, ih1, _, _, rfl, ih2, rfl⟩
theorem term_lim : ∀ (t : Tm) (n : Nat), t.deep ≤ n → Dt.Lim n (termD t)
  | .name _, n + 1, _ => ⟨by unfold Dt.Lim; trivial, by unfold Dt.Lim; trivial, trivial⟩
  | .place _, n + 1, _ => ⟨by unfold Dt.Lim; trivial, by unfold Dt.Lim; trivial, trivial⟩
  | .form b, n + 1, h => ⟨by unfold Dt.Lim; trivial, term_lim b n (by have h' : b.deep + 1 ≤ n + 1 := h; omega), trivial⟩
  | .call a b, n + 1, h => by
    have h' : max a.deep b.deep + 1 ≤ n + 1 := h
    exact ⟨by unfold Dt.Lim; trivial, term_lim a n (by omega), term_lim b n (by omega), trivial⟩
  | .name _, 0, h => by have h' : 1 ≤ 0 := h; omega
  | .place _, 0, h => by have h' : 1 ≤ 0 := h; omega
  | .form b, 0, h => by have h' : b.deep + 1 ≤ 0 := h; omega
  | .call a b, 0, h => by have h' : max a.deep b.deep + 1 ≤ 0 := h; omega
theorem TermAt.ref {H : Hp} {v : V} {t : Tm} (h : TermAt H v t) : ∃ a, v = .ref a := let ⟨a, _, _, e, _⟩ := h.tup; ⟨a, e⟩
theorem sql_same {K : PySem.W.Frag} {H H' : Hp} {a : Addr} {xs : List V} (h : SqL K H a xs) (s : Same H H') : SqL K H' a xs := by
  rcases h with (h | ⟨o, h⟩) | h
  · exact .inl (.inl (s _ _ h))
  · exact .inl (.inr ⟨o, s _ _ h⟩)
  · exact .inr h
/-- a part of a list of ints -/
theorem cut_ints (ns : List Int) (lo hi : Option Int) : ∃ ms : List Int, cutV (ns.map V.int) lo hi = ms.map V.int ∧ ms.length ≤ ns.length := by
  refine ⟨(ns.drop (HT.sIx (ns.map V.int).length 0 lo)).take (HT.sIx (ns.map V.int).length (ns.map V.int).length hi - HT.sIx (ns.map V.int).length 0 lo), ?_, ?_⟩
  · unfold cutV
    rw [List.map_take, List.map_drop]
  · rw [List.length_take, List.length_drop]
    omega
theorem cut_at {H : Hp} {p : Addr} {ns : List Int} {lo hi : Option Int} (h : H p = some (.lst (cutV (ns.map V.int) lo hi))) : ∃ ms : List Int, H p = some (.lst (ms.map V.int)) ∧ ms.length ≤ ns.length := by
  obtain ⟨ms, e, hl⟩ := cut_ints ns lo hi
  rw [e] at h
  exact ⟨ms, h, hl⟩
theorem cut_atB {H : Hp} {p : Addr} {ns : List Int} (lo hi : Nat) (h : H p = some (.lst (cutV (ns.map V.int) (some (lo : Int)) (some (hi : Int))))) : ∃ ms : List Int, H p = some (.lst (ms.map V.int)) ∧ ms.length ≤ hi - lo := by
  refine ⟨(ns.drop (HT.sIx (ns.map V.int).length 0 (some (lo : Int)))).take (HT.sIx (ns.map V.int).length (ns.map V.int).length (some (hi : Int)) - HT.sIx (ns.map V.int).length 0 (some (lo : Int))), ?_, ?_⟩
  · rw [h]
    unfold cutV
    rw [List.map_take, List.map_drop]
  · rw [List.length_take, HT.sIx_nat, HT.sIx_nat]
    omega
theorem cut_at0 {H : Hp} {p : Addr} {ns : List Int} (hi : Nat) (h : H p = some (.lst (cutV (ns.map V.int) none (some (hi : Int))))) : ∃ ms : List Int, H p = some (.lst (ms.map V.int)) ∧ ms.length ≤ hi := by
  refine ⟨(ns.drop (HT.sIx (ns.map V.int).length 0 none)).take (HT.sIx (ns.map V.int).length (ns.map V.int).length (some (hi : Int)) - HT.sIx (ns.map V.int).length 0 none), ?_, ?_⟩
  · rw [h]
    unfold cutV
    rw [List.map_take, List.map_drop]
  · rw [List.length_take, HT.sIx_nat]
    omega
end NC
/-! ### named terms, their lines, and what is begun while a line is read -/
namespace NC
open PySem
inductive NT where
  | name (w : Str)
  | form (w : Str) (b : NT)
  | call (a b : NT)
def NT.size : NT → Nat
  | .name _ => 1
  | .form _ b => b.size + 1
  | .call a b => a.size + b.size + 1
def NT.deep : NT → Nat
  | .name _ => 1
  | .form _ b => b.deep + 1
  | .call a b => max a.deep b.deep + 1
theorem NT.deep_le : ∀ t : NT, t.deep ≤ t.size
  | .name _ => Nat.le_refl _
  | .form _ b => Nat.succ_le_succ b.deep_le
  | .call a b => by
    have h1 := a.deep_le
    have h2 := b.deep_le
    simp only [NT.deep, NT.size]
    omega
theorem NT.size_pos : ∀ t : NT, 1 ≤ t.size
  | .name _ => Nat.le_refl _
  | .form _ b => by simp only [NT.size]; omega
  | .call a b => by simp only [NT.size]; omega
/-- a word of letters -/
def Wd (w : Str) : Prop := w.cps.toList ≠ [] ∧ w.cps.toList.length ≤ 100 ∧ ∀ c ∈ w.cps.toList, 97 ≤ c ∧ c ≤ 122
def NT.ok : NT → Prop
  | .name w => Wd w
  | .form w b => Wd w ∧ b.ok
  | .call a b => a.ok ∧ b.ok
def NT.line : NT → List Nat
  | .name w => w.cps.toList
  | .form w b => w.cps.toList ++ 58 :: b.line
  | .call a b => 40 :: (a.line ++ 32 :: (b.line ++ [41]))
theorem NT.line_len : ∀ t : NT, t.ok → t.line.length ≤ 103 * t.size
  | .name w, h => by
    have := h.2.1
    simp only [NT.line, NT.size]
    omega
  | .form w b, h => by
    have h1 := h.1.2.1
    have h2 := b.line_len h.2
    simp only [NT.line, NT.size, List.length_append, List.length_cons]
    omega
  | .call a b, h => by
    have h1 := a.line_len h.1
    have h2 := b.line_len h.2
    simp only [NT.line, NT.size, List.length_append, List.length_cons, List.length_nil]
    omega
/-- what is begun: a form, a call whose one is read, a call whose other is read -/
inductive Bg where
  | form (w : Str)
  | one (b : NT)
  | two (a : NT)
/-- what is still to come behind the term that is read now, the innermost first -/
def rem : List Bg → List Nat
  | [] => []
  | .form _ :: S => rem S
  | .one b :: S => 32 :: (b.line ++ 41 :: rem S)
  | .two _ :: S => 41 :: rem S
def plug : NT → List Bg → NT
  | t, [] => t
  | t, .form w :: S => plug (.form w t) S
  | t, .one b :: S => plug (.call t b) S
  | t, .two a :: S => plug (.call a t) S
def Bg.ok : Bg → Prop
  | .form w => Wd w
  | .one b => b.ok
  | .two a => a.ok
/-- behind a term there is no letter and no colon -/
theorem rem_head : ∀ (S : List Bg) (c : Nat), (rem S)[0]? = some c → c = 32 ∨ c = 41
  | [], c, h => by simp [rem] at h
  | .form _ :: S, c, h => rem_head S c h
  | .one b :: S, c, h => by
    simp only [rem, List.getElem?_cons_zero, Option.some.injEq] at h
    exact .inl h.symm
  | .two _ :: S, c, h => by
    simp only [rem, List.getElem?_cons_zero, Option.some.injEq] at h
    exact .inr h.symm
end NC
/-! ### the words and piles of a law's named terms -/
namespace NC
open PySem
/-- the word with that number -/
def goW (m : Nat) (w : Str) : Str := if h : m = 0 then w else goW ((m - 1) / 26) (⟨#[97 + (m - 1) % 26]⟩ ++ w)
termination_by m
decreasing_by omega
theorem goW_zero (w : Str) : goW 0 w = w := by rw [goW, dif_pos rfl]
theorem goW_pos {m : Nat} (h : m ≠ 0) (w : Str) : goW m w = goW ((m - 1) / 26) (⟨#[97 + (m - 1) % 26]⟩ ++ w) := by
  conv => lhs; rw [goW, dif_neg h]
def anyW (c : Int) : Str := goW (((if c < 0 then -c else c) % (10 : Int) ^ ((39 : Int).toNat)).toNat + 1) (Str.ofString "")
def letterS (c : Int) : Str := ⟨#[97 + (c % 26).toNat]⟩
def menuS (l : Str) (k : Int) : Str := ([Str.ofString "sab", Str.ofString "tab", Str.ofString "sat", Str.ofString "sob", l][(k % 5).toNat]?).getD l
def wordAt (ns : List Int) (j : Nat) : Str :=
  if ns.getD j 0 % 11 = 7 then anyW (ns.getD j 0 / 11) else menuS (letterS (ns.getD ((j + 1) % ns.length) 0)) (ns.getD j 0 / 5)
/-- one cell more, the top of the pile first -/
def stepN (S : List NT) (way : Int) (w : Str) : List NT :=
  match S with
  | [] => [.name w]
  | [t] => if way = 2 ∨ way = 3 then [.form w t] else [.name w, t]
  | b :: a :: r => if way = 2 ∨ way = 3 then .form w b :: a :: r else if way = 4 then .call a b :: r else .name w :: b :: a :: r
def pileN (ns : List Int) : Nat → List NT
  | 0 => []
  | j + 1 => stepN (pileN ns j) (ns.getD j 0 % 5) (wordAt ns j)
/-- what is left called one by the other -/
def closeN : List NT → NT
  | [] => .name (Str.ofString "sab")
  | b :: r => r.foldl (fun acc a => .call a acc) b
def wordyT (ns : List Int) : NT := closeN (pileN ns ns.length)
theorem stepN_form {t : NT} {r : List NT} {way : Int} {w : Str} (h : way = 2 ∨ way = 3) : stepN (t :: r) way w = .form w t :: r := by
  cases r with
  | nil => show (if way = 2 ∨ way = 3 then _ else _) = _; rw [if_pos h]
  | cons a r => show (if way = 2 ∨ way = 3 then _ else _) = _; rw [if_pos h]
theorem stepN_call {a b : NT} {r : List NT} {way : Int} {w : Str} (h : way = 4) : stepN (b :: a :: r) way w = .call a b :: r := by
  show (if way = 2 ∨ way = 3 then _ else if way = 4 then _ else _) = _
  rw [if_neg (by omega), if_pos h]
theorem stepN_name {S : List NT} {way : Int} {w : Str} (h1 : (way = 2 ∨ way = 3) → S = []) (h2 : way = 4 → S.length ≤ 1) : stepN S way w = .name w :: S := by
  cases S with
  | nil => rfl
  | cons b r =>
    have n1 : ¬ (way = 2 ∨ way = 3) := fun z => by cases h1 z
    cases r with
    | nil => show (if way = 2 ∨ way = 3 then _ else _) = _; rw [if_neg n1]
    | cons a r =>
      show (if way = 2 ∨ way = 3 then _ else if way = 4 then _ else _) = _
      rw [if_neg n1, if_neg fun z => by have := h2 z; simp at this]
theorem closeN_call (a b : NT) (r : List NT) : closeN (b :: a :: r) = closeN (.call a b :: r) := rfl
def sizesN (S : List NT) : Nat := (S.map NT.size).sum
theorem wd_any {w : Str} (c : Nat) (h1 : 97 ≤ c) (h2 : c ≤ 122) (hw : ∀ c ∈ w.cps.toList, 97 ≤ c ∧ c ≤ 122) : ∀ z ∈ ((⟨#[c]⟩ : Str) ++ w).cps.toList, 97 ≤ z ∧ z ≤ 122 := fun z hz => by
  have e : ((⟨#[c]⟩ : Str) ++ w).cps.toList = c :: w.cps.toList := by
    show (#[c] ++ w.cps).toList = _
    simp
  rw [e] at hz
  rcases List.mem_cons.mp hz with rfl | hz
  · exact ⟨h1, h2⟩
  · exact hw z hz
theorem wd_sab : Wd (Str.ofString "sab") := by
  have e : (Str.ofString "sab").cps.toList = [115, 97, 98] := by decide +kernel
  unfold Wd
  rw [e]
  decide
theorem wd_menu {l : Str} (h : Wd l) (k : Int) : Wd (menuS l k) := by
  have all : ∀ w ∈ [Str.ofString "sab", Str.ofString "tab", Str.ofString "sat", Str.ofString "sob", l], Wd w := by
    intro w hw
    have e2 : (Str.ofString "tab").cps.toList = [116, 97, 98] := by decide +kernel
    have e3 : (Str.ofString "sat").cps.toList = [115, 97, 116] := by decide +kernel
    have e4 : (Str.ofString "sob").cps.toList = [115, 111, 98] := by decide +kernel
    simp only [List.mem_cons, List.not_mem_nil, or_false] at hw
    rcases hw with rfl | rfl | rfl | rfl | rfl
    · exact wd_sab
    · unfold Wd; rw [e2]; decide
    · unfold Wd; rw [e3]; decide
    · unfold Wd; rw [e4]; decide
    · exact h
  unfold menuS
  cases q : [Str.ofString "sab", Str.ofString "tab", Str.ofString "sat", Str.ofString "sob", l][(k % 5).toNat]? with
  | none => exact h
  | some w => exact all w (List.mem_of_getElem? q)
theorem wd_letter (c : Int) : Wd (letterS c) := by
  refine ⟨by simp [letterS], by simp [letterS], fun z hz => ?_⟩
  have e : (letterS c).cps.toList = [97 + (c % 26).toNat] := rfl
  rw [e] at hz
  rw [List.mem_singleton.mp hz]
  omega
theorem goW_wd : ∀ (m : Nat) (w : Str), (∀ z ∈ w.cps.toList, 97 ≤ z ∧ z ≤ 122) → (1 ≤ w.cps.toList.length ∨ 1 ≤ m) → 26 ^ w.cps.toList.length * m ≤ 10 ^ 39 → w.cps.toList.length ≤ 50 → Wd (goW m w) := by
  intro m
  induction m using Nat.strongRecOn with
  | _ m ih =>
    intro w h1 h2 h3 h4
    by_cases hm : m = 0
    · subst hm
      rw [goW_zero]
      refine ⟨fun z => ?_, by omega, h1⟩
      rw [z] at h2
      simp at h2
    · rw [goW_pos hm]
      have e : ((⟨#[97 + (m - 1) % 26]⟩ : Str) ++ w).cps.toList = (97 + (m - 1) % 26) :: w.cps.toList := by
        show (#[97 + (m - 1) % 26] ++ w.cps).toList = _
        simp
      have hb : w.cps.toList.length ≤ 28 := by
        refine Nat.le_of_not_lt fun z => ?_
        have g1 : 26 ^ 28 ≤ 26 ^ w.cps.toList.length := Nat.pow_le_pow_right (by decide) (by omega)
        have g2 : 26 ^ w.cps.toList.length * 1 ≤ 26 ^ w.cps.toList.length * m := Nat.mul_le_mul_left _ (by omega)
        have g3 : ¬ (26 ^ 28 ≤ 10 ^ 39) := by decide +kernel
        omega
      refine ih ((m - 1) / 26) (by omega) _ (wd_any _ (by omega) (by omega) h1) ?_ ?_ ?_
      · rw [e]; left; simp
      · rw [e, List.length_cons]
        have g1 : 26 ^ (w.cps.toList.length + 1) * ((m - 1) / 26) = 26 ^ w.cps.toList.length * (26 * ((m - 1) / 26)) := by rw [Nat.pow_succ, Nat.mul_assoc]
        rw [g1]
        exact Nat.le_trans (Nat.mul_le_mul_left _ (by omega)) h3
      · rw [e, List.length_cons]; omega
theorem wd_anyW (c : Int) : Wd (anyW c) := by
  have e : (Str.ofString "").cps.toList = [] := by decide +kernel
  have hM1 : (if c < 0 then -c else c) % (10 : Int) ^ ((39 : Int).toNat) < 10 ^ 39 := Int.emod_lt_of_pos _ (by decide +kernel)
  refine goW_wd _ _ (by rw [e]; intro z hz; cases hz) (.inr (by omega)) ?_ (by rw [e]; decide)
  rw [e]
  show 1 * _ ≤ _
  omega
theorem wd_wordAt (ns : List Int) (j : Nat) : Wd (wordAt ns j) := by
  unfold wordAt
  split
  · exact wd_anyW _
  · exact wd_menu (wd_letter _) _
theorem stepN_ok {S : List NT} {way : Int} {w : Str} (h : ∀ t ∈ S, t.ok) (hw : Wd w) : ∀ t ∈ stepN S way w, t.ok := by
  intro t ht
  match S, h, ht with
  | [], _, ht =>
    rw [List.mem_singleton.mp ht]
    exact hw
  | [x], h, ht =>
    change t ∈ (if way = 2 ∨ way = 3 then [NT.form w x] else [NT.name w, x]) at ht
    split at ht
    · rw [List.mem_singleton.mp ht]
      exact ⟨hw, h x (by simp)⟩
    · rcases List.mem_cons.mp ht with rfl | ht
      · exact hw
      · exact h t ht
  | b :: a :: r, h, ht =>
    change t ∈ (if way = 2 ∨ way = 3 then NT.form w b :: a :: r else if way = 4 then NT.call a b :: r else NT.name w :: b :: a :: r) at ht
    split at ht
    · rcases List.mem_cons.mp ht with rfl | ht
      · exact ⟨hw, h b (by simp)⟩
      · exact h t (List.mem_cons_of_mem _ ht)
    · split at ht
      · rcases List.mem_cons.mp ht with rfl | ht
        · exact ⟨h a (by simp), h b (by simp)⟩
        · exact h t (List.mem_cons_of_mem _ (List.mem_cons_of_mem _ ht))
      · rcases List.mem_cons.mp ht with rfl | ht
        · exact hw
        · exact h t ht
theorem stepN_size (S : List NT) (way : Int) (w : Str) : sizesN (stepN S way w) ≤ sizesN S + 1 := by
  match S with
  | [] => exact Nat.le_refl _
  | [x] =>
    show sizesN (if way = 2 ∨ way = 3 then [NT.form w x] else [NT.name w, x]) ≤ _
    split <;> simp only [sizesN, List.map_cons, List.map_nil, List.sum_cons, List.sum_nil, NT.size] <;> omega
  | b :: a :: r =>
    show sizesN (if way = 2 ∨ way = 3 then NT.form w b :: a :: r else if way = 4 then NT.call a b :: r else NT.name w :: b :: a :: r) ≤ _
    split
    · simp only [sizesN, List.map_cons, List.sum_cons, NT.size]; omega
    · split <;> simp only [sizesN, List.map_cons, List.sum_cons, NT.size] <;> omega
theorem pile_ok (ns : List Int) : ∀ j, ∀ t ∈ pileN ns j, t.ok
  | 0, t, h => by cases h
  | j + 1, t, h => stepN_ok (pile_ok ns j) (wd_wordAt ns j) t h
theorem pile_size (ns : List Int) : ∀ j, sizesN (pileN ns j) ≤ j
  | 0 => Nat.le_refl _
  | j + 1 => Nat.le_trans (stepN_size _ _ _) (Nat.succ_le_succ (pile_size ns j))
theorem len_sizesN : ∀ S : List NT, S.length ≤ sizesN S
  | [] => Nat.le_refl _
  | t :: r => by
    have h1 := len_sizesN r
    have h2 := t.size_pos
    show r.length + 1 ≤ t.size + sizesN r
    omega
theorem closeN_ok : ∀ (n : Nat) (S : List NT), S.length = n → (∀ t ∈ S, t.ok) → (closeN S).ok
  | _, [], _, _ => wd_sab
  | _, [t], _, h => h t (by simp)
  | n + 1, b :: a :: r, hn, h => by
    rw [closeN_call]
    refine closeN_ok n (.call a b :: r) (by simp at hn ⊢; omega) fun t ht => ?_
    rcases List.mem_cons.mp ht with rfl | ht
    · exact ⟨h a (by simp), h b (by simp)⟩
    · exact h t (List.mem_cons_of_mem _ (List.mem_cons_of_mem _ ht))
theorem closeN_size : ∀ (n : Nat) (S : List NT), S.length = n → (closeN S).size ≤ sizesN S + S.length + 1
  | _, [], _ => by show 1 ≤ _; omega
  | _, [t], _ => by show t.size ≤ t.size + 0 + 1 + 1; omega
  | n + 1, b :: a :: r, hn => by
    rw [closeN_call]
    have := closeN_size n (.call a b :: r) (by simp at hn ⊢; omega)
    simp only [sizesN, List.map_cons, List.sum_cons, NT.size, List.length_cons] at this ⊢
    omega
theorem wordyT_ok (ns : List Int) : (wordyT ns).ok := closeN_ok _ _ rfl (pile_ok ns _)
theorem wordyT_size (ns : List Int) : (wordyT ns).size ≤ 2 * ns.length + 1 := by
  have h1 := closeN_size _ (pileN ns ns.length) rfl
  have h2 := pile_size ns ns.length
  have h3 := len_sizesN (pileN ns ns.length)
  unfold wordyT
  omega
def lineS (t : NT) : Str := ⟨t.line.toArray⟩
end NC
/-! ### texts: join, parts, the signs one by one; raise where it is not reached -/
namespace NC
open PySem PySem.Spec PyProof.Rows L2
theorem ps_never {X : Cx} {st : Stmt} : PS X st (fun _ _ _ => False) := fun _ _ _ _ _ _ h => h.elim
theorem strs_of : ∀ {ws : List Str} {its : List Value}, Vals (ws.map V.str) its → StrsAre its ws
  | [], _, .nil => .nil
  | w :: ws, _, .cons r t => by
    obtain ⟨tk, rfl⟩ := r
    exact .cons w tk (strs_of t)
section
variable {X : Cx}
def rJoin (K : PySem.W.Frag) : V → List V → Hp → VK → Prop := fun x xs H Q => ∃ sep a, ∃ ws : List Str, x = .str sep ∧ xs = [.ref a] ∧ SqL K H a (ws.map V.str) ∧ sep.length ≤ 64 ∧ (ws.map (·.length)).sum + ws.length * 64 ≤ 16777216 ∧ Q (.str (Txt.join sep ws)) H
theorem mt_join : MtR X "str.join" (rJoin X.K) := by
  intro pins s σ H x xs v us Q I rx rs h
  obtain ⟨sep, a, ws, rfl, rfl, hq, h1, h2, q⟩ := h
  obtain ⟨t, rfl⟩ := rx
  obtain ⟨u, rfl, ru⟩ := vals1 rs
  cases (show u = Value.ref a from ru)
  obtain ⟨its, rv, p, hz⟩ := I.list hq
  exact join_listC p.isList (strs_of rv) h1 h2 fun t' k => ⟨.str _, H, I.tok _, ⟨_, rfl⟩, q⟩
/-- ''.join(xs) -/
theorem pe_join {o e : Expr} {to te : TE} {apos cpos : Pos} (ho : PE X o to) (he : PE X e te)
    (hbase : attributeBase o "join" X.env (eval o X.env) = eval o X.env := by rfl)
    (hfew : ((backTo cpos (starEach [e] X.env)).all (fun x => !x.1) && (backToKw cpos (keywordEach [] X.env)).all (fun x => x.1.isSome)
      && decide ([e].length + ([] : List Keyword).length + (if ([] : List Keyword).isEmpty then 0 else 1) < 30)) = true := by rfl)
    (hline : (apos.endLine == cpos.line) = true := by rfl) (h : plainE e = true := by rfl) :
    PE X (.Call (.Attribute o "join" apos) [e] [] cpos) (tBM X.K "str" (rJoin X.K) to (tCons te tNil)) :=
  pe_bm F.plainAttrs_str F.slot_str_join F.type_str_join mt_join ho (pa_c he pa_nil h) hbase hfew hline (star_plain h) rfl
/-- x[lo:hi] -/
def rSlS : V → Option Int → Option Int → Hp → VK → Prop := fun x lo hi H Q => ∃ z : Str, x = .str z ∧ z.length ≤ sizeLine ∧ Q (.str (Txt.slice z lo hi)) H
theorem part_tok {v : Value} {o : Option Int} (h : IsPart v o) : ∃ l : Option (Int × Tok), o = l.map (·.1) ∧ v = (match l with | none => Value.none | some (i, t) => .int i t) := by
  cases h with
  | none => exact ⟨none, rfl, rfl⟩
  | int i t => exact ⟨some (i, t), rfl, rfl⟩
theorem sl_str : SlR X rSlS := by
  intro pins s σ H x v vl vu lo hi sl Q I rx hs pl pu h
  obtain ⟨z, rfl, hz, q⟩ := h
  obtain ⟨t, rfl⟩ := rx
  obtain ⟨l, rfl, rfl⟩ := part_tok pl
  obtain ⟨u, rfl, rfl⟩ := part_tok pu
  refine ⟨"str", _, F.slot_str_getitem.lookup, typeIs_str _ _ _, wpAny_getItem_str_slice (l := l) (u := u) (st := none) ?_ rfl ?_⟩
  · obtain ⟨o, e1, e2, e3⟩ := hs
    exact ⟨o, e1, e2, e3⟩
  · exact post_val_or_str ⟨Nat.le_trans (Txt.slice_le z _ _) hz, fun t' k => ⟨.str _, H, I.tok _, ⟨_, rfl⟩, q⟩⟩
end
/-- the signs of a text -/
def Its (x : Str) : It := ⟨fun i _ => i < x.cps.size, fun i H v H' => H' = H ∧ ∃ c, x.cps[i]? = some c ∧ v = .str ⟨#[c]⟩, fun i _ => x.cps.size ≤ i⟩
theorem turn_text {P : Program} {w : World} {K : PySem.W.Frag} {tg : Expr} (it : Addr) (x : Str) (t : Tok) : Turn P w K tg (Its x) [it] it (fun i h => i ≤ x.cps.size ∧ h.IsStrIter it "str_ascii_iterator" x t i) where
  mem := by simp
  obj := fun i h st b hb => by
    have e : b = it := by simpa using hb
    subst e
    obtain ⟨_, o, e, c, d⟩ := st
    exact ⟨o, e, fun v z => by rw [d] at z; cases z⟩
  keep := fun i h h' st k => ⟨st.1, by
    obtain ⟨o, e, c, d⟩ := st.2
    exact ⟨o, k it (by simp) _ e, c, d⟩⟩
  item := by
    intro X hP hw hK hc i pins s σ H E I hf st hg
    subst hP hw hK
    obtain ⟨f0, f1, f2, f3, f4, f5⟩ := hf it (by simp)
    have W := Walks.strAscii (prog := X.prog) (w := X.w) (A := X.A) (I.ok.hd hc) it x t
    refine W.item i s _ _ hg st.2 fun v h' tk hv st' kk => ?_
    obtain ⟨c, u, hcx, rfl⟩ := hv
    have I1 : Inv X pins σ H { s with heap := h', toks := tk } := I.turned (fun b o hb e => kk b o (by simpa using hb) e) f0 f1 f3 f4 f5
    obtain ⟨o, e, cc, d⟩ := id st'
    exact ⟨_, rfl, go_of (s := { s with heap := h', toks := tk }) e cc d (by decide) ⟨.str ⟨#[c]⟩, H, I1, ⟨u, rfl⟩, ⟨rfl, c, hcx, rfl⟩, ⟨hg, st'⟩, fun b hb => (hf b hb).1⟩⟩
  done := by
    intro X hP hw hK hc i pins s σ H E I hf st hg
    subst hP hw hK
    obtain ⟨f0, f1, f2, f3, f4, f5⟩ := hf it (by simp)
    have W := Walks.strAscii (prog := X.prog) (w := X.w) (A := X.A) (I.ok.hd hc) it x t
    have hi : i = x.cps.size := Nat.le_antisymm st.1 hg
    subst hi
    refine W.done s _ _ st.2 fun h' tk kk => ⟨rfl, I.turned (fun b o hb e => kk b o (by simpa using hb) e) f0 f1 f3 f4 f5⟩
  self := fun _ _ _ _ _ st h => wpAny_pyIter_striter_ascii st.2 h
section
variable {X : Cx} {tg : Expr}
def iText (te : TE) : TI := fun σ H R => te σ H fun x H1 => ∃ z : Str, x = .str z ∧ z.cps.all (· < 128) = true ∧ R (Its z) H1
/-- for c in a text -/
theorem pi_text {e : Expr} {te : TE} (he : PE X e te) : PI X tg e (iText te) := by
  intro pins s σ H R I h
  refine thn (he pins s σ H _ I h) fun v s1 ⟨x, H1, I1, r1, z, ez, ha, q⟩ => ?_
  subst ez
  obtain ⟨t, rfl⟩ := r1
  refine wpAny_pyIter_ascii ha ?_
  refine ⟨s1.heap.objs.size, [s1.heap.objs.size], _, _, H1, rfl, I1.kept (t' := s1.toks) fun b o e => Heap.get?_push_of_some _ e, turn_text _ z t, ⟨Nat.zero_le _, ⟨_, Heap.get?_push_size _ rfl, rfl, rfl⟩⟩, fun b hb => ?_, q⟩
  have e : b = s1.heap.objs.size := by simpa using hb
  subst e
  exact I1.fpOk (Nat.le_refl _) (I1.hok.fresh (Nat.le_refl _))
end
end NC
namespace NC
open PySem PySem.Spec PyProof.Rows L2
section
variable {X : Cx} {CX : CXT} {k : Nat} {C : Addr} {m : Str} {ps : List Str} {sp : Sp} {E : XK} {o : Expr} {ta : TE} {apos pos : Pos}
theorem pe_gm0 {pl : Sem Bool} (he : PE X o ta) (c : Cls X.K C) (G : GM X.prog X.w X.K X.mg X.base CX k C m ps sp) (hr : Room k X.A) (hx : Passes CX X E)
    (ht : eval (.Call (.Attribute o m apos) [] [] pos) X.env = (do
      let ov ← eval o X.env
      standAt apos.atName
      let (f, first) ← holding [ov] (getMethod ov m pl)
      callWith pos f first (backTo pos (starEach [] X.env)) (backToKw pos (keywordEach [] X.env))) := by rfl) : PE X (.Call (.Attribute o m apos) [] [] pos) (tMeth C m sp [] E ta tNil) := by
  obtain ⟨f, fd, F, M, hb⟩ := G
  exact pe_meth0 he c M F hr hb .nil hx ht
end
end NC
namespace NC
open PySem PySem.Spec PyProof.Rows L2
section
variable {X : Cx} {o e : Expr} {to te : TE} {apos cpos : Pos}
def rEx : V → List V → Hp → VK → Prop := fun x vs H Q => ∃ l b xs zs, x = .ref l ∧ vs = [.ref b] ∧ H l = some (.lst xs) ∧ H b = some (.lst zs) ∧ xs.length + zs.length ≤ sizeLine ∧ ∀ H', Keep [l] H H' → H' l = some (.lst (xs ++ zs)) → Q .non H'
theorem mt_ex : MtM X "list.extend" rEx := MtM.imp mt_extend fun _ _ _ _ ⟨l, b, xs, zs, e1, e2, h1, h2, h3, q⟩ => ⟨l, b, xs, zs, e1, e2, h1, h2, h3, q _ (keep_set (by simp)) upd_same⟩
/-- xs.extend(e) -/
theorem pExt (ho : PE X o to) (he : PE X e te) (h : plainE e = true := by rfl) (hbase : attributeBase o "extend" X.env (eval o X.env) = eval o X.env := by rfl) (hline : (apos.endLine == cpos.line) = true := by rfl) :
    PE X (.Call (.Attribute o "extend" apos) [e] [] cpos) (tBM X.K "list" rEx to (tCons te tNil)) :=
  pe_bm PySem.F.plainAttrs_list PySem.F.slot_list_extend PySem.F.type_list_extend mt_ex ho (pa_c he pa_nil h) hbase (by
    rw [star_all (es := [e]) (by simp [h])]
    rfl) hline (star_plain h) rfl
end
theorem cps_append (a b : Str) : (a ++ b).cps.toList = a.cps.toList ++ b.cps.toList := by
  show (a.cps ++ b.cps).toList = _
  simp
theorem sjoin_cps (ws : List Str) : (Str.join (Str.ofString "") ws).cps.toList = ws.flatMap (·.cps.toList) := by
  have z : (Str.ofString "").cps.toList = [] := by decide +kernel
  induction ws with
  | nil => rfl
  | cons x r ih =>
    cases r with
    | nil => simp [Str.join]
    | cons y r =>
      rw [List.flatMap_cons, ← ih]
      show (x ++ Str.ofString "" ++ Str.join (Str.ofString "") (y :: r)).cps.toList = _
      rw [cps_append, cps_append, z, List.append_nil]
theorem join_cps (ws : List Str) : (Txt.join (Str.ofString "") ws).cps.toList = ws.flatMap (·.cps.toList) := by
  show (Builtin.Str.glued (Str.ofString "") ws).cps.toList = _
  rw [StrLaws.glued_eq_join, sjoin_cps]
theorem str_ext {a b : Str} (h : a.cps.toList = b.cps.toList) : a = b := by
  obtain ⟨x⟩ := a
  obtain ⟨y⟩ := b
  exact congrArg Str.mk (Array.toList_inj.mp h)
theorem slice_cps {z : Str} {i j : Nat} (h1 : i ≤ j) (h2 : j ≤ z.length) : (Txt.slice z (some (i : Int)) (some (j : Int))).cps.toList = (z.cps.toList.drop i).take (j - i) := by
  have e := beq_iff_eq.mp (slice_closesL (x := z) (i := (i : Int)) (j := (j : Int)) (by omega) (by omega) (by omega))
  rw [e]
  show ((z.cps.toList.drop (i : Int).toNat).take ((j : Int) - (i : Int)).toNat).toArray.toList = _
  rw [List.toList_toArray, show (i : Int).toNat = i by omega, show ((j : Int) - (i : Int)).toNat = j - i by omega]
/-- a sign among the letters -/
theorem in_letters : ∀ c : Nat, c < 128 → (!(Builtin.Str.occurrences (Str.ofString "abcdefghijklmnopqrstuvwxyz") ⟨#[c]⟩ 0 (Str.ofString "abcdefghijklmnopqrstuvwxyz").length 1).isEmpty) = decide (97 ≤ c ∧ c ≤ 122) := by
  decide +kernel
end NC
/-! ### named terms in the heap -/
namespace NC
open PySem PySem.Spec PyProof.Rows L2
inductive NamedAt (H : Hp) : V → NT → Prop where
  | name {a : Addr} {w : Str} (h : H a = some (.tup [.str "name", .str w])) : NamedAt H (.ref a) (.name w)
  | form {a : Addr} {w : Str} {v : V} {b : NT} (h : H a = some (.tup [.str "form", .str w, v])) (hb : NamedAt H v b) : NamedAt H (.ref a) (.form w b)
  | call {a : Addr} {v u : V} {x y : NT} (h : H a = some (.tup [.str "call", v, u])) (hx : NamedAt H v x) (hy : NamedAt H u y) : NamedAt H (.ref a) (.call x y)
theorem NamedAt.mono {H H' : Hp} {v : V} {t : NT} (h : NamedAt H v t) (k : Tups H H') : NamedAt H' v t := by
  induction h with
  | name h => exact .name (k _ _ h)
  | form h _ ih => exact .form (k _ _ h) ih
  | call h _ _ i1 i2 => exact .call (k _ _ h) i1 i2
theorem NamedAt.same {H H' : Hp} {v : V} {t : NT} (h : NamedAt H v t) (k : Same H H') : NamedAt H' v t := h.mono (.of_same k)
theorem NamedAt.ref {H : Hp} {v : V} {t : NT} (h : NamedAt H v t) : ∃ a, v = .ref a := by
  cases h with
  | name _ => exact ⟨_, rfl⟩
  | form _ _ => exact ⟨_, rfl⟩
  | call _ _ _ => exact ⟨_, rfl⟩
def namedD : NT → Dt
  | .name w => .tup [.str "name", .str w]
  | .form w b => .tup [.str "form", .str w, namedD b]
  | .call a b => .tup [.str "call", namedD a, namedD b]
theorem named_dat {K : PySem.W.Frag} {H : Hp} {v : V} {t : NT} (h : NamedAt H v t) : DAt K H (namedD t) v := by
  induction h with
  | name h => exact ⟨_, _, rfl, SqT.of h, _, _, rfl, rfl, _, _, rfl, rfl, rfl⟩
  | form h _ ih => exact ⟨_, _, rfl, SqT.of h, _, _, rfl, rfl, _, _, rfl, rfl, _, _, rfl, ih, rfl⟩
  | call h _ _ ih1 ih2 => exact ⟨_, _, rfl, SqT.of h, _, _, rfl, rfl, _, _, rfl, ih1, _, _, rfl, ih2, rfl⟩
theorem named_lim : ∀ (t : NT) (n : Nat), t.deep ≤ n → Dt.Lim n (namedD t)
  | .name _, n + 1, _ => ⟨by unfold Dt.Lim; trivial, by unfold Dt.Lim; trivial, trivial⟩
  | .form _ b, n + 1, h => ⟨by unfold Dt.Lim; trivial, by unfold Dt.Lim; trivial, named_lim b n (by have h' : b.deep + 1 ≤ n + 1 := h; omega), trivial⟩
  | .call a b, n + 1, h => by
    have h' : max a.deep b.deep + 1 ≤ n + 1 := h
    exact ⟨by unfold Dt.Lim; trivial, named_lim a n (by omega), named_lim b n (by omega), trivial⟩
  | .name _, 0, h => by have h' : 1 ≤ 0 := h; omega
  | .form _ b, 0, h => by have h' : b.deep + 1 ≤ 0 := h; omega
  | .call a b, 0, h => by have h' : max a.deep b.deep + 1 ≤ 0 := h; omega
theorem nameds_mono {H H' : Hp} {vs : List V} {ts : List NT} (h : Paired (NamedAt H) vs ts) (k : Tups H H') : Paired (NamedAt H') vs ts := paired_imp (fun _ _ z => z.mono k) h
/-- what is begun, in the heap -/
def BgAt (H : Hp) (v : V) : Bg → Prop
  | .form w => ∃ a, v = .ref a ∧ H a = some (.tup [.str "form", .str w])
  | .one _ => ∃ a, v = .ref a ∧ H a = some (.tup [.str "call"])
  | .two t => ∃ a u, v = .ref a ∧ H a = some (.tup [.str "call", u]) ∧ NamedAt H u t
theorem BgAt.mono {H H' : Hp} {v : V} {b : Bg} (h : BgAt H v b) (k : Tups H H') : BgAt H' v b := by
  cases b with
  | form w => obtain ⟨a, e, q⟩ := h; exact ⟨a, e, k _ _ q⟩
  | one t => obtain ⟨a, e, q⟩ := h; exact ⟨a, e, k _ _ q⟩
  | two t => obtain ⟨a, u, e, q, r⟩ := h; exact ⟨a, u, e, k _ _ q, r.mono k⟩
theorem bgs_mono {H H' : Hp} {vs : List V} {S : List Bg} (h : Paired (BgAt H) vs S) (k : Tups H H') : Paired (BgAt H') vs S := paired_imp (fun _ _ z => z.mono k) h
theorem kp1_tups {H H' : Hp} {l : Addr} {xs : List V} (k : Keep [l] H H') (h : H l = some (.lst xs)) : Tups H H' := fun b ys e => k b _ (fun z => by rw [List.mem_singleton.mp z, h] at e; cases e) e
end NC
/-! ### the defs of the text -/
namespace NC
open PySem PySem.Spec PyProof.Rows L2
def top (i : Nat) : Stmt := PySem.Challenge.pw_namecall_k09_whole_written_and_read.main.body.getD i (.Pass ⟨0, 0, 0, 0⟩)
/-- the built-in names that the text leaves alone -/
structure NoNames (mg : Str → Option Value) : Prop where
  len : mg "len" = none
  abs : mg "abs" = none
  isinstance : mg "isinstance" = none
  tuple : mg "tuple" = none
  str : mg "str" = none
  range : mg "range" = none
section
variable {P : Program} {w : World} {K : PySem.W.Frag} {mg : Str → Option Value} {base : Heap}
seal L2.PE L2.PA L2.PT L2.PS L2.PSs L2.PW L2.PG L2.PGs L2.PI L2.PO L2.OpR L2.UnR L2.CallR L2.TruR L2.IxR L2.SlR
abbrev s__law_any_word : Stmt := top 13
theorem sc__law_any_word : FnScope ["_law_cell", "_law_left", "_law_word"] ["_law_cell"] (defScope s__law_any_word) := ⟨rfl, rfl, rfl, by decide +kernel, rfl, by decide +kernel, by decide +kernel⟩
def sp_any_word : Sp := fun vs H Q _ => ∃ c, vs = [.int c] ∧ ∀ w : Str, Q (.str w) H
theorem word_bound {k L : Nat} (h : 26 ^ k * L ≤ 10 ^ 39) (hL : 1 ≤ L) : k ≤ 28 := by
  refine Nat.le_of_not_lt fun z => ?_
  have h1 : 26 ^ 28 ≤ 26 ^ k := Nat.pow_le_pow_right (by decide) (by omega)
  have h2 : 26 ^ k * 1 ≤ 26 ^ k * L := Nat.mul_le_mul_left _ hL
  have h3 : ¬ (26 ^ 28 ≤ 10 ^ 39) := by decide +kernel
  omega
theorem ok__law_any_word {f : Addr} {fd : FuncData} (F : Fun K "_law_any_word" "_law_any_word" s__law_any_word f fd) (N_ : NoNames mg) : FnOk P w K mg base CX0 1 f fd ["_law_cell"] sp_any_word := by
  refine F.ok sc__law_any_word (fun vs H Q E h => ?_) (fun cdv A outer s H vs Q E hr h => ?_)
  · obtain ⟨c, rfl, _⟩ := h
    rfl
  · obtain ⟨c, rfl, k⟩ := h
    refine ⟨_, (pss_cons (ps_set (i := 1) sc__law_any_word.nd rfl (Or.inl rfl) (pe_op op_mod (pCB call_abs (by rfl) N_.abs boot_abs (pa_c (pv 0) pa_nil)) (pe_op op_pow pe_int pe_int)))
      (pss_cons (ps_set (i := 2) sc__law_any_word.nd rfl (Or.inl rfl) pe_str)
      (pss_cons (ps_while PassesOwn.never (pt_cmpR op_ge (pv 1) pe_int (nomark _)) (pss_cons (ps_set (i := 2) sc__law_any_word.nd rfl (Or.inl rfl) (pe_op op_add_str (pe_ix ix_str pe_str (pe_op op_mod (pv 1) pe_int) (fun _ _ => rfl)) (pv 2)))
      (pss_one (ps_set (i := 1) sc__law_any_word.nd rfl (Or.inl rfl) (pe_op op_sub (pe_op op_fdiv (pv 1) pe_int) pe_int)))))
      (pss_one (ps_ret (pv 2)))))), ?_⟩
    refine ⟨_, rfl, _, rfl, _, _, rfl, rfl, ⟨by decide, by decide, by decide⟩, _, _, rfl, rfl, (show (0 : Int) < 10 ^ (39 : Int).toNat by decide +kernel), ?_⟩
    obtain ⟨M, hM⟩ : ∃ M, ((if c < 0 then -c else c) % (10 : Int) ^ ((39 : Int).toNat)) = M := ⟨_, rfl⟩
    have hM0 : 0 ≤ M := by rw [← hM]; exact Int.emod_nonneg _ (by decide +kernel)
    have hM1 : M < 10 ^ 39 := by rw [← hM]; exact Int.emod_lt_of_pos _ (by decide +kernel)
    refine ⟨fun m σ H' => ∃ (n : Nat) (w : Str), σ = [some (.int c), some (.int ((m : Int) - 1)), some (.str w)] ∧ H' = H ∧ w.length = n ∧ 26 ^ n * m ≤ 10 ^ 39, ⟨M.toNat + 1, 0, "", ?_, rfl, rfl, ?_⟩, ?_⟩
    · have e : ((M.toNat + 1 : Nat) : Int) - 1 = M := by omega
      rw [e, ← hM]
      rfl
    · have : M.toNat + 1 ≤ 10 ^ 39 := by omega
      simpa using this
    · rintro m σ H' ⟨n, w, rfl, rfl, hn, hb⟩
      refine ⟨_, rfl, _, _, rfl, rfl, _, rfl, ifD (fun hc => ?_) (fun hc => ⟨_, rfl, k w⟩)⟩
      have hm : 1 ≤ m := by omega
      have hn28 := word_bound hb hm
      refine ⟨fun σ' H'' => ∃ m', m' < m ∧ ∃ (n : Nat) (w : Str), σ' = [some (.int c), some (.int ((m' : Int) - 1)), some (.str w)] ∧ H'' = H' ∧ w.length = n ∧ 26 ^ n * m' ≤ 10 ^ 39, fun _ _ h => h, ?_⟩
      obtain ⟨ch, hch, _⟩ := atL (xs := (Str.ofString "abcdefghijklmnopqrstuvwxyz").cps.toList) (i := ((m : Int) - 1) % 26) (by omega) (by
        rw [show (Str.ofString "abcdefghijklmnopqrstuvwxyz").cps.toList.length = 26 by decide +kernel]; omega)
      refine ⟨_, rfl, _, _, rfl, rfl, (show (0 : Int) < 26 by decide), _, _, _, rfl, rfl, small' (by decide +kernel), hch, _, rfl, _, _, rfl, rfl, small' (by rw [hn]; show 1 + n ≤ _; omega), ?_⟩
      refine ⟨_, rfl, _, _, rfl, rfl, ⟨by decide, by decide⟩, _, _, rfl, rfl, ?_⟩
      refine ⟨(m - 1) / 26, by omega, n + 1, ⟨#[ch]⟩ ++ w, ?_, rfl, ?_, ?_⟩
      · have e : ((m : Int) - 1) / 26 - 1 = (((m - 1) / 26 : Nat) : Int) - 1 := by omega
        rw [← e]
        rfl
      · rw [Str.length_append, hn]
        show 1 + n = n + 1
        omega
      · have h1 : 26 ^ (n + 1) * ((m - 1) / 26) = 26 ^ n * (26 * ((m - 1) / 26)) := by rw [Nat.pow_succ, Nat.mul_assoc]
        rw [h1]
        refine Nat.le_trans (Nat.mul_le_mul_left _ ?_) hb
        omega
end
end NC
/-! ### named terms written as lines -/
namespace NC
open PySem PySem.Spec PyProof.Rows L2
def NT.cost : NT → Nat
  | .name _ => 1
  | .form _ b => b.cost + 3
  | .call a b => a.cost + b.cost + 4
theorem NT.cost_le : ∀ t : NT, t.cost ≤ 4 * t.size
  | .name _ => by simp [NT.cost, NT.size]
  | .form _ b => by have := b.cost_le; simp only [NT.cost, NT.size]; omega
  | .call a b => by have h1 := a.cost_le; have h2 := b.cost_le; simp only [NT.cost, NT.size]; omega
theorem NT.cost_pos : ∀ t : NT, 1 ≤ t.cost
  | .name _ => Nat.le_refl _
  | .form _ b => by simp only [NT.cost]; omega
  | .call a b => by simp only [NT.cost]; omega
abbrev Pc := Sum Str NT
def pcAt (H : Hp) (v : V) : Pc → Prop
  | .inl s => v = .str s
  | .inr t => NamedAt H v t
theorem pcAt.mono {H H' : Hp} {v : V} {p : Pc} (h : pcAt H v p) (k : Tups H H') : pcAt H' v p := by
  cases p with
  | inl s => exact h
  | inr t => exact NamedAt.mono h k
def pcL : Pc → List Nat
  | .inl s => s.cps.toList
  | .inr t => t.line
def pcC : Pc → Nat
  | .inl _ => 1
  | .inr t => t.cost
theorem pcC_pos (p : Pc) : 1 ≤ pcC p := by
  cases p with
  | inl s => exact Nat.le_refl _
  | inr t => exact t.cost_pos
def pendT (its : List Pc) : List Nat := its.reverse.flatMap pcL
theorem pendT_snoc (its : List Pc) (q : Pc) : pendT (its ++ [q]) = pcL q ++ pendT its := by
  unfold pendT
  rw [List.reverse_append]
  rfl
def costs (its : List Pc) : Nat := (its.map pcC).sum
theorem costs_snoc (its : List Pc) (q : Pc) : costs (its ++ [q]) = costs its + pcC q := by
  unfold costs
  rw [List.map_append, List.sum_append]
  simp
theorem len_costs : ∀ its : List Pc, its.length ≤ costs its
  | [] => Nat.le_refl _
  | q :: r => by
    have := len_costs r
    have h := pcC_pos q
    show r.length + 1 ≤ pcC q + costs r
    omega
theorem sum_flat : ∀ ws : List Str, (ws.map (·.length)).sum = (ws.flatMap (·.cps.toList)).length
  | [] => rfl
  | w :: ws => by
    rw [List.map_cons, List.sum_cons, List.flatMap_cons, List.length_append, sum_flat ws]
    rfl
theorem s_col : (Str.ofString ":").cps.toList = [58] := by decide +kernel
theorem s_opn : (Str.ofString "(").cps.toList = [40] := by decide +kernel
theorem s_cls : (Str.ofString ")").cps.toList = [41] := by decide +kernel
theorem s_blk : (Str.ofString " ").cps.toList = [32] := by decide +kernel
theorem kit_ts (K : PySem.W.Frag) : PySem.W.kitOne K (.type "tuple") (.type "str") = some false := by first | rfl | kernel_rfl
section
variable {P : Program} {w : World} {K : PySem.W.Frag} {mg : Str → Option Value} {base : Heap}
seal L2.PE L2.PA L2.PT L2.PS L2.PSs L2.PW L2.PG L2.PGs L2.PI L2.PO L2.OpR L2.UnR L2.CallR L2.TruR L2.IxR L2.SlR
abbrev s_shown : Stmt := top 5
theorem sc_shown : FnScope ["term", "pieces", "todo", "part"] ["term"] (defScope s_shown) := ⟨rfl, rfl, rfl, by decide +kernel, rfl, by decide +kernel, by decide +kernel⟩
def sp_shown : Sp := fun vs H Q _ => ∃ v, ∃ t : NT, vs = [v] ∧ NamedAt H v t ∧ t.ok ∧ t.size ≤ 1000 ∧ ∀ L H', Same H H' → L.cps.toList = t.line → Q (.str L) H'
def InvShown (H : Hp) (v : V) (t : NT) (f d : Addr) (m : Nat) (σ : L2.St) (H' : Hp) : Prop :=
  ∃ its xs, ∃ ws : List Str, ∃ x3, σ = [some v, some (.ref f), some (.ref d), x3] ∧ Same H H' ∧ H' f = some (.lst (ws.map V.str)) ∧ H' d = some (.lst xs) ∧
    Paired (pcAt H') xs its ∧ ws.flatMap (·.cps.toList) ++ pendT its = t.line ∧ m = costs its ∧ ws.length + costs its ≤ t.cost
theorem ok_shown {f : Addr} {fd : FuncData} (F : Fun K "shown" "shown" s_shown f fd) (N_ : NoNames mg) : FnOk P w K mg base CX0 1 f fd ["term"] sp_shown := by
  refine F.ok sc_shown (fun vs H Q E h => ?_) (fun cdv A outer s H vs Q E hr h => ?_)
  · obtain ⟨v, t, rfl, _⟩ := h
    rfl
  · obtain ⟨v, t, rfl, ht, hok, hsz, k⟩ := h
    have hcost : t.cost ≤ 4000 := by have := t.cost_le; omega
    have hline : t.line.length ≤ 103000 := by have := t.line_len hok; omega
    refine ⟨_, (pss_cons (ps_set (i := 1) sc_shown.nd rfl (Or.inl rfl) (pLst pa_nil))
      (pss_cons (ps_set (i := 2) sc_shown.nd rfl (Or.inl rfl) (pLst (pa_c (pv 0) pa_nil)))
      (pss_cons (ps_while PassesOwn.never (pt_truth (pv 2) (fun _ => rfl)) (pss_cons (ps_set (i := 3) sc_shown.nd rfl (Or.inl rfl) (pPop (pv 2)))
      (pss_one (ps_if (pt_val (pCB call_isi (by rfl) N_.isinstance boot_isinstance (pa_c (pv 3) (pa_c (pe_bltn (v := V.ty "str") rfl N_.str boot_str rfl) pa_nil)))) (pss_one (ps_expr (pApp (pv 1) (pv 3)))) (pss_one (ps_if (pt_cmpR op_eq (pe_ix ix_tup (pv 3) pe_int (fun _ _ => rfl)) pe_str (nomark _)) (pss_one (ps_expr (pApp (pv 1) (pe_ix ix_tup (pv 3) pe_int (fun _ _ => rfl))))) (pss_one (ps_if (pt_cmpR op_eq (pe_ix ix_tup (pv 3) pe_int (fun _ _ => rfl)) pe_str (nomark _)) (pss_one (ps_expr (pExt (pv 2) (pLst (pa_c (pe_ix ix_tup (pv 3) pe_int (fun _ _ => rfl)) (pa_c pe_str (pa_c (pe_ix ix_tup (pv 3) pe_int (fun _ _ => rfl)) pa_nil))))))) (pss_one (ps_expr (pExt (pv 2) (pLst (pa_c pe_str (pa_c (pe_ix ix_tup (pv 3) pe_int (fun _ _ => rfl)) (pa_c pe_str (pa_c (pe_ix ix_tup (pv 3) pe_int (fun _ _ => rfl)) (pa_c pe_str pa_nil)))))))))))))))))
      (pss_one (ps_ret (pe_join pe_str (pv 1))))))), ?_⟩
    refine ⟨small' (by simp), fun f H1 nf s1 hf1 => ⟨_, rfl, small' (by simp), fun d H4 nd s4 hd4 => ?_⟩⟩
    have s04 : Same H H4 := s1.trans s4
    have hf4 : H4 f = some (.lst []) := s4 _ _ hf1
    have nfd : f ≠ d := ne_of_none hf1 nd
    have n_d : H d = none := s1.free nd
    have nL : ∀ x ∈ [f, d], H x = none := fun x hx => by
      rcases List.mem_cons.mp hx with e | hx
      · rw [e]; exact nf
      · rw [List.mem_singleton.mp hx]; exact n_d
    refine ⟨InvShown H v t f d, ⟨costs [.inr t], ?_⟩, ?_⟩
    · refine ⟨[.inr t], [v], [], none, rfl, s04, hf4, hd4, .cons (show pcAt H4 v (.inr t) from ht.same s04) .nil, ?_, rfl, ?_⟩
      · show [] ++ (t.line ++ []) = _
        rw [List.append_nil, List.nil_append]
      · show 0 + (t.cost + 0) ≤ t.cost
        omega
    · rintro m σ H5 ⟨its, xs, ws, x3, rfl, s5, hf5, hd5, hit, heq, rfl, hsum⟩
      by_cases hnil : its = []
      · subst hnil
        cases paired_nil hit
        have e : ws.flatMap (·.cps.toList) = t.line := by rw [← heq]; unfold pendT; simp
        refine ⟨_, rfl, false, Or.inl ⟨_, SqL.of hd5, rfl⟩, iteF ⟨rfl, _, rfl, _, f, ws, rfl, rfl, SqL.of hf5, by decide +kernel, ?_, ?_⟩⟩
        · rw [sum_flat, e]
          omega
        · exact k _ H5 s5 ((join_cps ws).trans e)
      · obtain ⟨its', q1, rfl⟩ := snoc_of hnil
        obtain ⟨xs', x, rfl, hit', hx0⟩ := paired_snoc_inv hit
        refine ⟨_, rfl, true, Or.inl ⟨_, SqL.of hd5, by simp⟩, iteT ⟨fun σ' H' => ∃ m', m' < costs (its' ++ [q1]) ∧ InvShown H v t f d m' σ' H', fun _ _ h => h, ?_⟩⟩
        refine ⟨_, rfl, Or.inl ⟨rfl, _, SqL.of hd5⟩, d, xs', x, rfl, rfl, hd5, fun H6 k6 hd6 => ?_⟩
        have hL := lists2 hf5 hd5
        have K6 : Keep [f, d] H5 H6 := k6.sub (by simp)
        have tu6 := K6.tups hL
        have hx6 := pcAt.mono hx0 tu6
        clear hx0
        have hf6 : H6 f = some (.lst (ws.map V.str)) := k6.at hf5 nfd
        have s6 : Same H H6 := same_keep s5 K6 nL
        have it6 := paired_imp (fun a b h => pcAt.mono h tu6) hit'
        have hL6 := lists2 hf6 hd6
        rw [pendT_snoc] at heq
        rw [costs_snoc] at hsum
        rw [costs_snoc]
        have hxl : xs'.length ≤ t.cost := by
          rw [Paired.length it6]
          have := len_costs its'
          omega
        have hwl : ws.length ≤ t.cost := by omega
        cases q1 with
        | inl w1 =>
          have e : x = .str w1 := hx6
          subst e
          have hc : pcC (.inl w1) = 1 := rfl
          refine ⟨_, rfl, _, _, _, _, rfl, .str _, kit_ss K, _, rfl, iteT ⟨_, rfl, Or.inl ⟨rfl, _, SqL.of hf6⟩, _, rfl, _, _, _, rfl, rfl, hf6, small (by rw [List.length_map]; omega), fun H7 k7 hf7 => ?_⟩⟩
          have K7 : Keep [f, d] H6 H7 := k7.sub (by simp)
          have tu7 := K7.tups hL6
          refine ⟨costs its', by omega, its', xs', ws ++ [w1], _, rfl, same_keep s6 K7 nL, by rw [List.map_append]; exact hf7, k7.at hd6 nfd.symm, paired_imp (fun a b h => pcAt.mono h tu7) it6, ?_, rfl, by rw [List.length_append, List.length_singleton]; omega⟩
          rw [List.flatMap_append, List.append_assoc]
          show _ ++ ((w1.cps.toList ++ []) ++ pendT its') = _
          rw [List.append_nil]
          exact heq
        | inr t1 =>
          have hx6 : NamedAt H6 x t1 := hx6
          cases hx6 with
          | @name a1 w1 h =>
            have hc : pcC (.inr (.name w1)) = 1 := rfl
            refine ⟨_, rfl, _, _, _, _, rfl, .tup h, kit_ts K, _, rfl, iteF ⟨_, rfl, _, _, _, _, rfl, rfl, SqT.of h, at0, rfl, _, rfl, ifT rfl ?_⟩⟩
            refine ⟨_, rfl, Or.inl ⟨rfl, _, SqL.of hf6⟩, _, rfl, _, _, _, _, rfl, rfl, SqT.of h, at1, _, _, _, rfl, rfl, hf6, small (by rw [List.length_map]; omega), fun H7 k7 hf7 => ?_⟩
            have K7 : Keep [f, d] H6 H7 := k7.sub (by simp)
            have tu7 := K7.tups hL6
            refine ⟨costs its', by omega, its', xs', ws ++ [w1], _, rfl, same_keep s6 K7 nL, by rw [List.map_append]; exact hf7, k7.at hd6 nfd.symm, paired_imp (fun a b h => pcAt.mono h tu7) it6, ?_, rfl, by rw [List.length_append, List.length_singleton]; omega⟩
            rw [List.flatMap_append, List.append_assoc]
            show _ ++ ((w1.cps.toList ++ []) ++ pendT its') = _
            rw [List.append_nil]
            exact heq
          | @form a1 w1 bv b h hb =>
            have hc : pcC (.inr (.form w1 b)) = b.cost + 3 := rfl
            refine ⟨_, rfl, _, _, _, _, rfl, .tup h, kit_ts K, _, rfl, iteF ⟨_, rfl, _, _, _, _, rfl, rfl, SqT.of h, at0, rfl, _, rfl, ifF n_fn ⟨_, rfl, _, _, _, _, rfl, rfl, SqT.of h, at0, rfl, _, rfl, ifT rfl ?_⟩⟩⟩
            refine ⟨_, rfl, Or.inl ⟨rfl, _, SqL.of hd6⟩, _, rfl, _, _, _, _, rfl, rfl, SqT.of h, at2, _, rfl, _, _, _, _, rfl, rfl, SqT.of h, at1, small' (by show 3 ≤ 1000000; decide), fun b9 H9 n9 s9 h9 => ⟨_, _, _, _, rfl, rfl, s9 _ _ hd6, h9, small' (by show xs'.length + 3 ≤ _; omega), fun H10 k10 hd10 => ?_⟩⟩
            have K10 : Keep [f, d] H6 H10 := (Keep.of_same s9).trans (k10.sub (by simp))
            have tu10 := K10.tups hL6
            refine ⟨_, ?_, ((its' ++ [.inr b]) ++ [.inl (Str.ofString ":")]) ++ [.inl w1], xs' ++ [bv, .str ":", .str w1], ws, _, rfl, same_keep s6 K10 nL, k10.at (s9 _ _ hf6) nfd, hd10, ?_, ?_, rfl, ?_⟩
            · rw [costs_snoc, costs_snoc, costs_snoc]
              show costs its' + b.cost + 1 + 1 < costs its' + (b.cost + 3)
              omega
            · rw [show xs' ++ [bv, V.str ":", V.str w1] = ((xs' ++ [bv]) ++ [V.str ":"]) ++ [V.str w1] by simp]
              exact paired_snoc (show pcAt H10 (.str w1) (.inl w1) from rfl) (paired_snoc (show pcAt H10 (.str ":") (.inl (Str.ofString ":")) from rfl) (paired_snoc (show pcAt H10 bv (.inr b) from hb.mono tu10) (paired_imp (fun a b h => pcAt.mono h tu10) it6)))
            · rw [pendT_snoc, pendT_snoc, pendT_snoc]
              show _ ++ (w1.cps.toList ++ ((Str.ofString ":").cps.toList ++ (b.line ++ pendT its'))) = _
              rw [s_col, ← heq]
              show _ = _ ++ ((w1.cps.toList ++ 58 :: b.line) ++ pendT its')
              simp
            · rw [costs_snoc, costs_snoc, costs_snoc]
              show ws.length + (costs its' + b.cost + 1 + 1) ≤ _
              omega
          | @call a1 xv yv x y h hx hy =>
            have hc : pcC (.inr (.call x y)) = x.cost + y.cost + 4 := rfl
            refine ⟨_, rfl, _, _, _, _, rfl, .tup h, kit_ts K, _, rfl, iteF ⟨_, rfl, _, _, _, _, rfl, rfl, SqT.of h, at0, rfl, _, rfl, ifF n_cn ⟨_, rfl, _, _, _, _, rfl, rfl, SqT.of h, at0, rfl, _, rfl, ifF n_cf ?_⟩⟩⟩
            refine ⟨_, rfl, Or.inl ⟨rfl, _, SqL.of hd6⟩, _, rfl, _, _, _, _, rfl, rfl, SqT.of h, at2, _, rfl, _, _, _, _, rfl, rfl, SqT.of h, at1, small' (by show 5 ≤ 1000000; decide), fun b9 H9 n9 s9 h9 => ⟨_, _, _, _, rfl, rfl, s9 _ _ hd6, h9, small' (by show xs'.length + 5 ≤ _; omega), fun H10 k10 hd10 => ?_⟩⟩
            have K10 : Keep [f, d] H6 H10 := (Keep.of_same s9).trans (k10.sub (by simp))
            have tu10 := K10.tups hL6
            refine ⟨_, ?_, ((((its' ++ [.inl (Str.ofString ")")]) ++ [.inr y]) ++ [.inl (Str.ofString " ")]) ++ [.inr x]) ++ [.inl (Str.ofString "(")], xs' ++ [.str ")", yv, .str " ", xv, .str "("], ws, _, rfl, same_keep s6 K10 nL, k10.at (s9 _ _ hf6) nfd, hd10, ?_, ?_, rfl, ?_⟩
            · rw [costs_snoc, costs_snoc, costs_snoc, costs_snoc, costs_snoc]
              show costs its' + 1 + y.cost + 1 + x.cost + 1 < costs its' + (x.cost + y.cost + 4)
              omega
            · rw [show xs' ++ [V.str ")", yv, V.str " ", xv, V.str "("] = ((((xs' ++ [V.str ")"]) ++ [yv]) ++ [V.str " "]) ++ [xv]) ++ [V.str "("] by simp]
              exact paired_snoc (show pcAt H10 (.str "(") (.inl (Str.ofString "(")) from rfl) (paired_snoc (show pcAt H10 xv (.inr x) from hx.mono tu10) (paired_snoc (show pcAt H10 (.str " ") (.inl (Str.ofString " ")) from rfl) (paired_snoc (show pcAt H10 yv (.inr y) from hy.mono tu10) (paired_snoc (show pcAt H10 (.str ")") (.inl (Str.ofString ")")) from rfl) (paired_imp (fun a b h => pcAt.mono h tu10) it6)))))
            · rw [pendT_snoc, pendT_snoc, pendT_snoc, pendT_snoc, pendT_snoc]
              show _ ++ ((Str.ofString "(").cps.toList ++ (x.line ++ ((Str.ofString " ").cps.toList ++ (y.line ++ ((Str.ofString ")").cps.toList ++ pendT its'))))) = _
              rw [s_opn, s_blk, s_cls, ← heq]
              show _ = _ ++ ((40 :: (x.line ++ 32 :: (y.line ++ [41]))) ++ pendT its')
              simp
            · rw [costs_snoc, costs_snoc, costs_snoc, costs_snoc, costs_snoc]
              show ws.length + (costs its' + 1 + y.cost + 1 + x.cost + 1) ≤ _
              omega
end
end NC
/-! ### lines read -/
namespace NC
open PySem PySem.Spec PyProof.Rows L2
theorem length_putF_in (f : Str) (v : V) : ∀ (fs : List (Str × V)) (x : V), fs.lookup f = some x → (putF f v fs).length = fs.length
  | [], x, h => by cases h
  | (g, y) :: r, x, h => by
    unfold putF
    split
    · rfl
    · rename_i hne
      rw [List.lookup_cons] at h
      have : (f == g) = false := by simpa using fun z => hne z.symm
      rw [this] at h
      show (putF f v r).length + 1 = r.length + 1
      rw [length_putF_in f v r x h]
def rdMeths : List Str := ["is_over", "take", "need", "take_word", "next_name", "ended"]
structure RdCls (K : PySem.W.Frag) (C : Addr) : Prop where
  cl : Cls K C
  nL : NoAttr K C "line"
  nA : NoAttr K C "at"
  nB : NoAttr K C "begun"
/-- the object alone -/
structure RdO (C x bg : Addr) (L : Str) (p : Nat) (dx : Addr) (fs : List (Str × V)) (H : Hp) : Prop where
  ins : H x = some (.ins C dx fs)
  line : fs.lookup ("line" : Str) = some (.str L)
  at_ : fs.lookup ("at" : Str) = some (.int (p : Int))
  begun : fs.lookup ("begun" : Str) = some (.ref bg)
  meth : ∀ m ∈ rdMeths, fs.lookup m = none
  few : fs.length < 900
def RdAt (C x bg : Addr) (L : Str) (p : Nat) (S : List Bg) (H : Hp) : Prop := ∃ dx fs vs, RdO C x bg L p dx fs H ∧ H bg = some (.lst vs) ∧ Paired (BgAt H) vs S.reverse
theorem RdO.keep {C x bg : Addr} {L : Str} {p : Nat} {dx : Addr} {fs : List (Str × V)} {H H' : Hp} (h : RdO C x bg L p dx fs H) (e : H' x = H x) : RdO C x bg L p dx fs H' := ⟨e.trans h.ins, h.line, h.at_, h.begun, h.meth, h.few⟩
/-- one further -/
theorem RdO.step {C x bg : Addr} {L : Str} {p : Nat} {dx : Addr} {fs : List (Str × V)} {H : Hp} (h : RdO C x bg L p dx fs H) : RdO C x bg L (p + 1) dx (putF ("at" : Str) (.int ((p : Int) + 1)) fs) (upd H x (.ins C dx (putF ("at" : Str) (.int ((p : Int) + 1)) fs))) := by
  refine ⟨upd_same, ?_, ?_, ?_, fun m hm => ?_, ?_⟩
  · rw [lookup_putF, if_neg (by decide +kernel)]; exact h.line
  · rw [lookup_putF, if_pos rfl]; rfl
  · rw [lookup_putF, if_neg (by decide +kernel)]; exact h.begun
  · rw [lookup_putF, if_neg ?_]
    · exact h.meth m hm
    · intro z
      rw [z] at hm
      exact absurd hm (by decide +kernel)
  · rw [length_putF_in _ _ _ _ h.at_]; exact h.few
theorem bg_ne {C x bg : Addr} {L : Str} {p : Nat} {dx : Addr} {fs : List (Str × V)} {H : Hp} {vs : List V} (h : RdO C x bg L p dx fs H) (hb : H bg = some (.lst vs)) : bg ≠ x := fun z => by
  have := h.ins
  rw [← z, hb] at this
  cases this
theorem upd_tups {H : Hp} {x C dx : Addr} {fs fs' : List (Str × V)} (h : H x = some (.ins C dx fs)) : Tups H (upd H x (.ins C dx fs')) := fun b xs e => by
  rw [upd_ne fun z => by rw [z, h] at e; cases e]
  exact e
/-- the reader one further, all else as it was -/
theorem RdAt.step {C x bg : Addr} {L : Str} {p : Nat} {S : List Bg} {dx : Addr} {fs : List (Str × V)} {vs : List V} {H : Hp} (h : RdO C x bg L p dx fs H) (hb : H bg = some (.lst vs)) (hp : Paired (BgAt H) vs S.reverse) :
    RdAt C x bg L (p + 1) S (upd H x (.ins C dx (putF ("at" : Str) (.int ((p : Int) + 1)) fs))) ∧ Keep [x] H (upd H x (.ins C dx (putF ("at" : Str) (.int ((p : Int) + 1)) fs))) :=
  ⟨⟨dx, _, vs, h.step, by rw [upd_ne (bg_ne h hb)]; exact hb, bgs_mono hp (upd_tups h.ins)⟩, fun b o nb e => by rw [upd_ne fun z => nb (by simp [z])]; exact e⟩
theorem one_eq {c c' : Nat} {sg : Str} (h : sg.cps.toList = [c]) : (V.str ⟨#[c']⟩ = V.str sg) ↔ c' = c := by
  constructor
  · intro z
    have := V.str.inj z
    rw [← this] at h
    have h' : [c'] = [c] := h
    exact (List.cons.inj h').1
  · intro z
    congr 1
    refine str_ext ?_
    rw [h, z]
section
variable {P : Program} {w : World} {K : PySem.W.Frag} {mg : Str → Option Value} {base : Heap}
seal L2.PE L2.PA L2.PT L2.PS L2.PSs L2.PW L2.PG L2.PGs L2.PI L2.PO L2.OpR L2.UnR L2.CallR L2.TruR L2.IxR L2.SlR
abbrev s_Reader___init__ : Stmt := inClass (top 6) 0
theorem sc_Reader___init__ : FnScope ["self", "line"] ["self", "line"] (defScope s_Reader___init__) := ⟨rfl, rfl, rfl, by decide +kernel, rfl, by decide +kernel, by decide +kernel⟩
abbrev s_Reader_is_over : Stmt := inClass (top 6) 1
theorem sc_Reader_is_over : FnScope ["self"] ["self"] (defScope s_Reader_is_over) := ⟨rfl, rfl, rfl, by decide +kernel, rfl, by decide +kernel, by decide +kernel⟩
abbrev s_Reader_take : Stmt := inClass (top 6) 2
theorem sc_Reader_take : FnScope ["self", "sign"] ["self", "sign"] (defScope s_Reader_take) := ⟨rfl, rfl, rfl, by decide +kernel, rfl, by decide +kernel, by decide +kernel⟩
abbrev s_Reader_need : Stmt := inClass (top 6) 3
theorem sc_Reader_need : FnScope ["self", "sign"] ["self", "sign"] (defScope s_Reader_need) := ⟨rfl, rfl, rfl, by decide +kernel, rfl, by decide +kernel, by decide +kernel⟩
abbrev s_Reader_take_word : Stmt := inClass (top 6) 4
theorem sc_Reader_take_word : FnScope ["self", "start"] ["self"] (defScope s_Reader_take_word) := ⟨rfl, rfl, rfl, by decide +kernel, rfl, by decide +kernel, by decide +kernel⟩
abbrev s_Reader_next_name : Stmt := inClass (top 6) 5
theorem sc_Reader_next_name : FnScope ["self", "word"] ["self"] (defScope s_Reader_next_name) := ⟨rfl, rfl, rfl, by decide +kernel, rfl, by decide +kernel, by decide +kernel⟩
abbrev s_Reader_ended : Stmt := inClass (top 6) 6
theorem sc_Reader_ended : FnScope ["self", "part", "over"] ["self", "part"] (defScope s_Reader_ended) := ⟨rfl, rfl, rfl, by decide +kernel, rfl, by decide +kernel, by decide +kernel⟩
abbrev s_read : Stmt := top 7
theorem sc_read : FnScope ["line", "reader", "term"] ["line"] (defScope s_read) := ⟨rfl, rfl, rfl, by decide +kernel, rfl, by decide +kernel, by decide +kernel⟩
def sp_rinit (C : Addr) : Sp := fun vs H Q _ => ∃ x dx L, vs = [.ref x, .str L] ∧ H x = some (.ins C dx []) ∧ ∀ bg H', H bg = none → RdAt C x bg L 0 [] H' → (∀ b o, b ≠ x → H b = some o → H' b = some o) → Q .non H'
theorem ok_rinit {f C : Addr} {fd : FuncData} (F : Fun K "__init__" "Reader.__init__" s_Reader___init__ f fd) (R : RdCls K C) : FnOk P w K mg base CX0 1 f fd ["self", "line"] (sp_rinit C) := by
  refine F.ok sc_Reader___init__ (fun vs H Q E h => ?_) (fun cdv A outer s H vs Q E hr h => ?_)
  · obtain ⟨x, dx, L, rfl, _⟩ := h
    rfl
  · obtain ⟨x, dx, L, rfl, hx, k⟩ := h
    refine ⟨_, (pss_cons (ps_fld (pv 0) (pv 1) rfl)
      (pss_cons (ps_fld (pv 0) pe_int rfl)
      (pss_one (ps_fld (pv 0) (pLst pa_nil) rfl)))), ?_⟩
    refine ⟨_, rfl, _, rfl, x, C, dx, [], rfl, hx, R.cl, R.nL, by decide, ?_⟩
    refine ⟨_, rfl, x, C, dx, _, rfl, upd_same, R.cl, R.nA, by show 1 < 1000; decide, ?_⟩
    refine ⟨small' (by simp), fun bg H3 nb s3 hb3 => ⟨_, rfl, x, C, dx, _, rfl, s3 _ _ upd_same, R.cl, R.nB, by show 2 < 1000; decide, ?_⟩⟩
    have hbx : bg ≠ x := fun z => by rw [z, upd_same] at nb; cases nb
    refine k bg _ ?_ ⟨dx, _, [], ⟨upd_same, ?_, ?_, ?_, ?_, ?_⟩, by rw [upd_ne hbx]; exact hb3, .nil⟩ fun b o n e => ?_
    · rw [upd_ne hbx, upd_ne hbx] at nb; exact nb
    · rw [lookup_putF, if_neg (by decide +kernel), lookup_putF, if_neg (by decide +kernel), lookup_putF, if_pos rfl]
    · rw [lookup_putF, if_neg (by decide +kernel), lookup_putF, if_pos rfl]; rfl
    · rw [lookup_putF, if_pos rfl]
    · intro m hm
      have ne : ∀ z ∈ rdMeths, z ≠ "begun" ∧ z ≠ "at" ∧ z ≠ "line" := by decide +kernel
      obtain ⟨h1, h2, h3⟩ := ne m hm
      rw [lookup_putF, if_neg h1, lookup_putF, if_neg h2, lookup_putF, if_neg h3]
      rfl
    · refine Nat.lt_of_le_of_lt (length_putF _ _ _) (Nat.succ_lt_succ ?_ : _ < 899 + 1)
      refine Nat.lt_of_le_of_lt (length_putF _ _ _) (Nat.succ_lt_succ ?_ : _ < 898 + 1)
      refine Nat.lt_of_le_of_lt (length_putF _ _ _) (by decide)
    · rw [upd_ne n]
      refine s3 _ _ ?_
      rw [upd_ne n, upd_ne n]
      exact e
def sp_rover (C : Addr) : Sp := fun vs H Q _ => ∃ x bg L p dx fs, vs = [.ref x] ∧ RdO C x bg L p dx fs H ∧ L.length ≤ 500000 ∧ Q (.bl (decide (p = L.length))) H
theorem ok_rover {f C : Addr} {fd : FuncData} (F : Fun K "is_over" "Reader.is_over" s_Reader_is_over f fd) (N_ : NoNames mg) (R : RdCls K C) : FnOk P w K mg base CX0 1 f fd ["self"] (sp_rover C) := by
  refine F.ok sc_Reader_is_over (fun vs H Q E h => ?_) (fun cdv A outer s H vs Q E hr h => ?_)
  · obtain ⟨x, bg, L, p, dx, fs, rfl, _⟩ := h
    rfl
  · obtain ⟨x, bg, L, p, dx, fs, rfl, hx, hL, k⟩ := h
    refine ⟨_, (pss_one (ps_ret (pe_cmpR op_eq (pe_fld (pv 0) rfl) (pCB call_len_str (by rfl) N_.len boot_len (pa_c (pe_fld (pv 0) rfl) pa_nil)) (nomark _)))), ?_⟩
    refine ⟨_, rfl, x, C, dx, fs, _, rfl, hx.ins, R.cl, R.nA, hx.at_, _, rfl, x, C, dx, fs, _, rfl, hx.ins, R.cl, R.nL, hx.line, L, rfl, small' (by omega), rfl, ?_⟩
    have e : decide (V.int (p : Int) = V.int (L.length : Int)) = decide (p = L.length) := by
      by_cases q : p = L.length
      · rw [decide_eq_true q, decide_eq_true (by rw [q])]
      · rw [decide_eq_false q, decide_eq_false fun z => q (by have := V.int.inj z; omega)]
    rw [e]
    exact k
def sp_rtake (C : Addr) : Sp := fun vs H Q _ => ∃ x bg L p S sg c, vs = [.ref x, .str sg] ∧ sg.cps.toList = [c] ∧ RdAt C x bg L p S H ∧ p ≤ L.length ∧ L.length ≤ 500000 ∧
  (L.cps.toList[p]? = some c → ∀ H', Keep [x] H H' → RdAt C x bg L (p + 1) S H' → Q (.bl true) H') ∧ (L.cps.toList[p]? ≠ some c → Q (.bl false) H)
theorem ok_rtake {f C : Addr} {fd : FuncData} (F : Fun K "take" "Reader.take" s_Reader_take f fd) (R : RdCls K C) (G_Reader_is_over : GM P w K mg base CX0 1 C "is_over" ["self"] (sp_rover C)) : FnOk P w K mg base CX0 2 f fd ["self", "sign"] (sp_rtake C) := by
  refine F.ok sc_Reader_take (fun vs H Q E h => ?_) (fun cdv A outer s H vs Q E hr h => ?_)
  · obtain ⟨x, bg, L, p, S, sg, c, rfl, _⟩ := h
    rfl
  · obtain ⟨x, bg, L, p, S, sg, c, rfl, hsg, ⟨dx, fs, vs, hx, hb, hp⟩, hpl, hL, k1, k2⟩ := h
    have hlen : L.cps.toList.length = L.length := by simp [Str.length]
    refine ⟨_, (pss_cons (ps_if (PW.pt (pw_or (pt_val (pe_gm0 (pv 0) R.cl G_Reader_is_over (hr.mono (by decide)) pass0)) (pw_or1 (pt_cmpR op_ne (pe_ix ix_str (pe_fld (pv 0) rfl) (pe_fld (pv 0) rfl) (fun _ _ => rfl)) (pv 1) (nomark _))))) (pss_one (ps_ret pe_bl)) pss_nil)
      (pss_cons (ps_fldaug (pv 0) pe_int in_add)
      (pss_one (ps_ret pe_bl)))), ?_⟩
    refine ⟨_, rfl, x, dx, fs, rfl, hx.ins, hx.meth _ (by decide +kernel), x, bg, L, p, dx, fs, rfl, hx, hL, _, rfl, ?_⟩
    by_cases e : p = L.length
    · rw [decide_eq_true e]
      refine iteT (iteT (k2 ?_))
      rw [List.getElem?_eq_none (by omega)]
      simp
    · rw [decide_eq_false e]
      obtain ⟨c', hc'⟩ : ∃ c', L.cps.toList[p]? = some c' := ⟨_, List.getElem?_eq_getElem (by omega)⟩
      refine iteF ⟨_, rfl, x, C, dx, fs, _, rfl, hx.ins, R.cl, R.nL, hx.line, _, rfl, x, C, dx, fs, _, rfl, hx.ins, R.cl, R.nA, hx.at_, L, (p : Int), c', rfl, rfl, small' (by omega), atI_nat hc', _, rfl, rfl, _, rfl, ?_⟩
      by_cases ec : c' = c
      · subst ec
        refine ifNF ((one_eq hsg).mpr rfl) ?_
        refine ⟨_, rfl, x, C, dx, fs, _, rfl, hx.ins, R.cl, R.nA, hx.at_, _, _, rfl, rfl, dx, fs, hx.ins, Nat.lt_trans hx.few (by decide), ?_⟩
        obtain ⟨q1, q2⟩ := RdAt.step hx hb hp
        exact k1 hc' _ q2 q1
      · refine ifNT (fun z => ec ((one_eq hsg).mp z)) (k2 ?_)
        rw [hc']
        exact fun z => ec (Option.some.inj z)
def sp_rneed (C : Addr) : Sp := fun vs H Q _ => ∃ x bg L p S sg c, vs = [.ref x, .str sg] ∧ sg.cps.toList = [c] ∧ RdAt C x bg L p S H ∧ p ≤ L.length ∧ L.length ≤ 500000 ∧ L.cps.toList[p]? = some c ∧ ∀ H', Keep [x] H H' → RdAt C x bg L (p + 1) S H' → Q .non H'
theorem ok_rneed {f C : Addr} {fd : FuncData} (F : Fun K "need" "Reader.need" s_Reader_need f fd) (R : RdCls K C) (G_Reader_take : GM P w K mg base CX0 2 C "take" ["self", "sign"] (sp_rtake C)) : FnOk P w K mg base CX0 3 f fd ["self", "sign"] (sp_rneed C) := by
  refine F.ok sc_Reader_need (fun vs H Q E h => ?_) (fun cdv A outer s H vs Q E hr h => ?_)
  · obtain ⟨x, bg, L, p, S, sg, c, rfl, _⟩ := h
    rfl
  · obtain ⟨x, bg, L, p, S, sg, c, rfl, hsg, hR, hpl, hL, hc, k⟩ := h
    obtain ⟨dx, fs, vs, hx, hb, hp⟩ := id hR
    refine ⟨_, (pss_one (ps_if (pt_not (pt_val (pe_gm (pv 0) R.cl G_Reader_take (hr.mono (by decide)) pass0 (pa_c (pv 1) pa_nil)))) (pss_one ps_never) pss_nil)), ?_⟩
    exact ⟨_, rfl, x, dx, fs, rfl, hx.ins, hx.meth _ (by decide +kernel), _, rfl, x, bg, L, p, S, sg, c, rfl, hsg, hR, hpl, hL, fun _ H' kp r => ⟨_, rfl, iteF (k H' kp r)⟩, fun n => absurd hc n⟩
theorem drop_get {l u r : List Nat} {p i : Nat} (h : l.drop p = u ++ r) : l[p + i]? = (u ++ r)[i]? := by rw [← h, List.getElem?_drop]
theorem drop_len {l u r : List Nat} {p : Nat} (h : l.drop p = u ++ r) (hp : p ≤ l.length) : p + u.length + r.length = l.length := by
  have := congrArg List.length h
  rw [List.length_drop, List.length_append] at this
  omega
theorem drop_more {l u r : List Nat} {p : Nat} (h : l.drop p = u ++ r) : l.drop (p + u.length) = r := by
  rw [← List.drop_drop, h, List.drop_left]
def sp_rword (C : Addr) : Sp := fun vs H Q _ => ∃ x bg, ∃ L : Str, ∃ p S, ∃ wd : Str, ∃ rest, vs = [.ref x] ∧ RdAt C x bg L p S H ∧ p ≤ L.length ∧ L.length ≤ 500000 ∧ (∀ c ∈ L.cps.toList, c < 128) ∧ L.cps.toList.drop p = wd.cps.toList ++ rest ∧ Wd wd ∧ (∀ c, rest[0]? = some c → ¬ (97 ≤ c ∧ c ≤ 122)) ∧
  ∀ H', Keep [x] H H' → RdAt C x bg L (p + wd.cps.toList.length) S H' → Q (.str wd) H'
theorem ok_rword {f C : Addr} {fd : FuncData} {tk : Tok} (F : Fun K "take_word" "Reader.take_word" s_Reader_take_word f fd) (R : RdCls K C) (hLet : mg "LETTERS" = some (.str (Str.ofString "abcdefghijklmnopqrstuvwxyz") tk)) (G_Reader_is_over : GM P w K mg base CX0 1 C "is_over" ["self"] (sp_rover C)) : FnOk P w K mg base CX0 2 f fd ["self"] (sp_rword C) := by
  refine F.ok sc_Reader_take_word (fun vs H Q E h => ?_) (fun cdv A outer s H vs Q E hr h => ?_)
  · obtain ⟨x, bg, L, p, S, wd, rest, rfl, _⟩ := h
    rfl
  · obtain ⟨x, bg, L, p, S, wd, rest, rfl, hR, hpl, hL, hasc, hdr, hwd, hrest, k⟩ := h
    have hlen : L.cps.toList.length = L.length := by simp [Str.length]
    have hdl := drop_len hdr (by rw [hlen]; exact hpl)
    rw [hlen] at hdl
    have hpos : 1 ≤ wd.cps.toList.length := by
      have := hwd.1
      cases q : wd.cps.toList with
      | nil => exact absurd q this
      | cons a r => simp
    obtain ⟨dx0, fs0, vs0, hx0, _⟩ := id hR
    refine ⟨_, (pss_cons (ps_set (i := 1) sc_Reader_take_word.nd rfl (Or.inl rfl) (pe_fld (pv 0) rfl))
      (pss_cons (ps_while PassesOwn.never (PW.pt (pw_and (pt_not (pt_val (pe_gm0 (pv 0) R.cl G_Reader_is_over (hr.mono (by decide)) pass0))) (pw_and1 (pt_cmpR op_in_str (pe_ix ix_str (pe_fld (pv 0) rfl) (pe_fld (pv 0) rfl) (fun _ _ => rfl)) (pe_glob (v := .str (Str.ofString "abcdefghijklmnopqrstuvwxyz")) rfl hLet ⟨_, rfl⟩) rfl)))) (pss_one (ps_fldaug (pv 0) pe_int in_add)))
      (pss_cons (ps_if (pt_cmpR op_eq (pe_fld (pv 0) rfl) (pv 1) (nomark _)) (pss_one ps_never) pss_nil)
      (pss_one (ps_ret (pe_slice sl_str (pe_fld (pv 0) rfl) (po_some (pv 1)) (po_some (pe_fld (pv 0) rfl)))))))), ?_⟩
    refine ⟨_, rfl, x, C, dx0, fs0, _, rfl, hx0.ins, R.cl, R.nA, hx0.at_, ?_⟩
    refine ⟨fun m σ H' => ∃ i, m = wd.cps.toList.length - i ∧ i ≤ wd.cps.toList.length ∧ σ = [some (.ref x), some (.int (p : Int))] ∧ Keep [x] H H' ∧ RdAt C x bg L (p + i) S H', ⟨_, 0, rfl, Nat.zero_le _, rfl, Keep.refl _ _, hR⟩, ?_⟩
    rintro m σ H1 ⟨i, rfl, hi, rfl, k1, hR1⟩
    obtain ⟨dx, fs, vs, hx, hb, hp⟩ := id hR1
    refine ⟨_, rfl, x, dx, fs, rfl, hx.ins, hx.meth _ (by decide +kernel), x, bg, L, p + i, dx, fs, rfl, hx, hL, _, rfl, ?_⟩
    have out : i = wd.cps.toList.length → Q (.str (Txt.slice L (some (p : Int)) (some ((p + i : Nat) : Int)))) H1 := fun e => by
      rw [show Txt.slice L (some (p : Int)) (some ((p + i : Nat) : Int)) = wd from str_ext (by
        rw [slice_cps (by omega) (by omega), hdr, show p + i - p = wd.cps.toList.length by omega, List.take_left])]
      rw [e] at hR1
      exact k H1 k1 hR1
    by_cases e : i = wd.cps.toList.length
    · -- behind the word
      by_cases hr0 : p + i = L.length
      · rw [decide_eq_true hr0]
        refine iteF (iteF ?_)
        refine ⟨_, rfl, x, C, dx, fs, _, rfl, hx.ins, R.cl, R.nA, hx.at_, _, rfl, rfl, _, rfl, ifF (fun z => by have := V.int.inj z; omega) ?_⟩
        refine ⟨_, rfl, x, C, dx, fs, _, rfl, hx.ins, R.cl, R.nL, hx.line, _, rfl, _, rfl, _, rfl, x, C, dx, fs, _, rfl, hx.ins, R.cl, R.nA, hx.at_, _, rfl, L, rfl, small' (by omega), out e⟩
      · rw [decide_eq_false hr0]
        obtain ⟨c, hc⟩ : ∃ c, L.cps.toList[p + i]? = some c := ⟨_, List.getElem?_eq_getElem (by omega)⟩
        have hcr : rest[0]? = some c := by
          rw [drop_get hdr, e, List.getElem?_append_right (Nat.le_refl _), Nat.sub_self] at hc
          exact hc
        refine iteT ⟨_, rfl, x, C, dx, fs, _, rfl, hx.ins, R.cl, R.nL, hx.line, _, rfl, x, C, dx, fs, _, rfl, hx.ins, R.cl, R.nA, hx.at_, L, ((p + i : Nat) : Int), c, rfl, rfl, small' (by omega), atI_nat hc, _, _, rfl, rfl, _, rfl, ?_⟩
        rw [in_letters c (hasc c (List.mem_of_getElem? hc)), decide_eq_false (hrest c hcr)]
        refine iteF ?_
        refine ⟨_, rfl, x, C, dx, fs, _, rfl, hx.ins, R.cl, R.nA, hx.at_, _, rfl, rfl, _, rfl, ifF (fun z => by have := V.int.inj z; omega) ?_⟩
        refine ⟨_, rfl, x, C, dx, fs, _, rfl, hx.ins, R.cl, R.nL, hx.line, _, rfl, _, rfl, _, rfl, x, C, dx, fs, _, rfl, hx.ins, R.cl, R.nA, hx.at_, _, rfl, L, rfl, small' (by omega), out e⟩
    · have hlt : i < wd.cps.toList.length := by omega
      rw [decide_eq_false (by omega)]
      obtain ⟨c, hc0⟩ : ∃ c, wd.cps.toList[i]? = some c := ⟨_, List.getElem?_eq_getElem hlt⟩
      have hc : L.cps.toList[p + i]? = some c := by rw [drop_get hdr, List.getElem?_append_left hlt]; exact hc0
      refine iteT ⟨_, rfl, x, C, dx, fs, _, rfl, hx.ins, R.cl, R.nL, hx.line, _, rfl, x, C, dx, fs, _, rfl, hx.ins, R.cl, R.nA, hx.at_, L, ((p + i : Nat) : Int), c, rfl, rfl, small' (by omega), atI_nat hc, _, _, rfl, rfl, _, rfl, ?_⟩
      rw [in_letters c (hasc c (List.mem_of_getElem? hc)), decide_eq_true (hwd.2.2 c (List.mem_of_getElem? hc0))]
      refine iteT ⟨fun σ' H' => ∃ m', m' < wd.cps.toList.length - i ∧ ∃ i, m' = wd.cps.toList.length - i ∧ i ≤ wd.cps.toList.length ∧ σ' = [some (.ref x), some (.int (p : Int))] ∧ Keep [x] H H' ∧ RdAt C x bg L (p + i) S H', fun _ _ h => h, ?_⟩
      refine ⟨_, rfl, x, C, dx, fs, _, rfl, hx.ins, R.cl, R.nA, hx.at_, _, _, rfl, rfl, dx, fs, hx.ins, Nat.lt_trans hx.few (by decide), ?_⟩
      obtain ⟨q1, q2⟩ := RdAt.step hx hb hp
      exact ⟨_, by omega, i + 1, rfl, hlt, rfl, k1.trans q2, q1⟩
/-- something more is begun, or done with -/
theorem RdAt.begin {C x bg : Addr} {L : Str} {p : Nat} {S : List Bg} {dx : Addr} {fs : List (Str × V)} {vs : List V} {b : Bg} {u : V} {H H1 H2 : Hp} (h : RdO C x bg L p dx fs H) (hb : H bg = some (.lst vs)) (hp : Paired (BgAt H) vs S.reverse) (s1 : Same H H1) (hu : BgAt H1 u b) (k : Keep [bg] H1 H2) (h2 : H2 bg = some (.lst (vs ++ [u]))) : RdAt C x bg L p (b :: S) H2 := by
  have nb := bg_ne h hb
  have tu : Tups H1 H2 := kp1_tups k (s1 _ _ hb)
  refine ⟨dx, fs, _, h.keep ?_, h2, ?_⟩
  · rw [k _ _ (by simp [nb.symm]) (s1 _ _ h.ins), h.ins]
  · rw [List.reverse_cons]
    exact paired_snoc (hu.mono tu) (bgs_mono (bgs_mono hp (.of_same s1)) tu)
end
end NC
/-! ### lines read: names, ends, and the whole -/
namespace NC
open PySem PySem.Spec PyProof.Rows L2
section
variable {P : Program} {w : World} {K : PySem.W.Frag} {mg : Str → Option Value} {base : Heap}
seal L2.PE L2.PA L2.PT L2.PS L2.PSs L2.PW L2.PG L2.PGs L2.PI L2.PO L2.OpR L2.UnR L2.CallR L2.TruR L2.IxR L2.SlR
/-- what is to be read: a term, and what is begun round it -/
structure ToRead (L : Str) (p : Nat) (t : NT) (S : List Bg) : Prop where
  line : L.cps.toList.drop p = t.line ++ rem S
  ok : t.ok
  oks : ∀ b ∈ S, b.ok
  le : p ≤ L.length
  few : S.length ≤ p
structure LineOk (L : Str) : Prop where
  len : L.length ≤ 500000
  asc : ∀ c ∈ L.cps.toList, c < 128
theorem len_cps (L : Str) : L.cps.toList.length = L.length := by simp [Str.length]
def sp_rname (C : Addr) : Sp := fun vs H Q _ => ∃ x bg L p S, ∃ t : NT, vs = [.ref x] ∧ RdAt C x bg L p S H ∧ LineOk L ∧ ToRead L p t S ∧
  ∀ v wd S' p' H', Keep [x, bg] H H' → RdAt C x bg L p' S' H' → NamedAt H' v (.name wd) → Wd wd → L.cps.toList.drop p' = rem S' → plug (.name wd) S' = plug t S → (∀ b ∈ S', b.ok) → p < p' → p' ≤ L.length → S'.length ≤ p' → Q v H'
def InvName (C x bg : Addr) (L : Str) (p : Nat) (S : List Bg) (t : NT) (H : Hp) (m : Nat) (σ : L2.St) (H' : Hp) : Prop :=
  ∃ xw S' p' t', σ = [some (.ref x), xw] ∧ Keep [x, bg] H H' ∧ RdAt C x bg L p' S' H' ∧ ToRead L p' t' S' ∧ plug t' S' = plug t S ∧ p ≤ p' ∧ m = t'.size
theorem wd_pos {wd : Str} (h : Wd wd) : 1 ≤ wd.cps.toList.length := by
  cases q : wd.cps.toList with
  | nil => exact absurd q h.1
  | cons a r => simp
theorem wd_head {wd : Str} (h : Wd wd) (r : List Nat) : ∃ c, (wd.cps.toList ++ r)[0]? = some c ∧ 97 ≤ c ∧ c ≤ 122 := by
  have hp := wd_pos h
  obtain ⟨c, hc⟩ : ∃ c, wd.cps.toList[0]? = some c := ⟨_, List.getElem?_eq_getElem (by omega)⟩
  exact ⟨c, by rw [List.getElem?_append_left (by omega)]; exact hc, h.2.2 c (List.mem_of_getElem? hc)⟩
theorem ok_rname {f C : Addr} {fd : FuncData} (F : Fun K "next_name" "Reader.next_name" s_Reader_next_name f fd) (R : RdCls K C) (G_Reader_take : GM P w K mg base CX0 2 C "take" ["self", "sign"] (sp_rtake C)) (G_Reader_take_word : GM P w K mg base CX0 2 C "take_word" ["self"] (sp_rword C)) : FnOk P w K mg base CX0 3 f fd ["self"] (sp_rname C) := by
  refine F.ok sc_Reader_next_name (fun vs H Q E h => ?_) (fun cdv A outer s H vs Q E hr h => ?_)
  · obtain ⟨x, bg, L, p, S, t, rfl, _⟩ := h
    rfl
  · obtain ⟨x, bg, L, p, S, t, rfl, hR, hL, hT, k⟩ := h
    have hlen := len_cps L
    refine ⟨_, (pss_one (ps_while PassesOwn.never (pt_val pe_bl) (pss_one (ps_if (pt_val (pe_gm (pv 0) R.cl G_Reader_take (hr.mono (by decide)) pass0 (pa_c pe_str pa_nil))) (pss_one (ps_expr (pApp (pe_fld (pv 0) rfl) (pTup (pa_c pe_str pa_nil))))) (pss_cons (ps_set (i := 1) sc_Reader_next_name.nd rfl (Or.inl rfl) (pe_gm0 (pv 0) R.cl G_Reader_take_word (hr.mono (by decide)) pass0))
      (pss_cons (ps_if (pt_not (pt_val (pe_gm (pv 0) R.cl G_Reader_take (hr.mono (by decide)) pass0 (pa_c pe_str pa_nil)))) (pss_one (ps_ret (pTup (pa_c pe_str (pa_c (pv 1) pa_nil))))) pss_nil)
      (pss_one (ps_expr (pApp (pe_fld (pv 0) rfl) (pTup (pa_c pe_str (pa_c (pv 1) pa_nil)))))))))))), ?_⟩
    refine ⟨InvName C x bg L p S t H, ⟨t.size, none, S, p, t, rfl, Keep.refl _ _, hR, hT, rfl, Nat.le_refl _, rfl⟩, ?_⟩
    rintro m σ H1 ⟨xw, S1, p1, t1, rfl, k1, hR1, hT1, hpl, hpp, rfl⟩
    refine ⟨_, rfl, iteT ⟨fun σ' H' => ∃ m', m' < t1.size ∧ InvName C x bg L p S t H m' σ' H', fun _ _ h => h, ?_⟩⟩
    obtain ⟨dx, fs, vs, hx, hb, hp⟩ := id hR1
    have h0 : L.cps.toList[p1]? = (t1.line ++ rem S1)[0]? := by
      have := drop_get (i := 0) hT1.line
      rw [Nat.add_zero] at this
      exact this
    refine ⟨_, rfl, x, dx, fs, rfl, hx.ins, hx.meth _ (by decide +kernel), x, bg, L, p1, S1, _, 40, rfl, s_opn, hR1, hT1.le, hL.len, fun hc H2 k2 hR2 => ⟨_, rfl, iteT ?_⟩, fun hc => ⟨_, rfl, iteF ?_⟩⟩
    · -- a call begins
      cases t1 with
      | name wd =>
        obtain ⟨c, h1, h2, _⟩ := wd_head (show Wd wd from hT1.ok) (rem S1)
        rw [h0, show (NT.name wd).line = wd.cps.toList from rfl, h1] at hc
        have := Option.some.inj hc
        omega
      | form wd b =>
        obtain ⟨c, h1, h2, _⟩ := wd_head (show Wd wd from hT1.ok.1) (58 :: b.line ++ rem S1)
        rw [h0, show (NT.form wd b).line ++ rem S1 = wd.cps.toList ++ (58 :: b.line ++ rem S1) by simp [NT.line], h1] at hc
        have := Option.some.inj hc
        omega
      | call a b =>
        obtain ⟨dx2, fs2, vs2, hx2, hb2, hp2⟩ := id hR2
        have K12 : Keep [x, bg] H1 H2 := k2.sub (by simp)
        refine ⟨_, rfl, x, C, dx2, fs2, _, rfl, hx2.ins, R.cl, R.nB, hx2.begun, Or.inl ⟨rfl, _, SqL.of hb2⟩, small' (by show 1 ≤ 1000000; decide), fun b9 H9 n9 s9 h9 => ⟨_, _, _, rfl, rfl, s9 _ _ hb2, ?_, fun H10 k10 h10 => ?_⟩⟩
        · have := Paired.length hp2
          rw [List.length_reverse] at this
          have h1 := hT1.few
          have h2 := hT1.le
          have h3 := hL.len
          exact small (by omega)
        · have K29 : Keep [x, bg] H2 H10 := (Keep.of_same s9).trans (k10.sub (by simp))
          refine ⟨a.size, by show a.size < a.size + b.size + 1; omega, _, .one b :: S1, p1 + 1, a, rfl, (k1.trans K12).trans K29, RdAt.begin hx2 hb2 hp2 s9 ⟨b9, rfl, h9⟩ k10 h10, ⟨?_, hT1.ok.1, ?_, ?_, by have := hT1.few; rw [List.length_cons]; omega⟩, hpl, by omega, rfl⟩
          · have e := hT1.line
            have e' : L.cps.toList.drop p1 = [40] ++ (a.line ++ 32 :: (b.line ++ [41]) ++ rem S1) := by rw [e]; simp [NT.line]
            rw [show p1 + 1 = p1 + [40].length from rfl, drop_more e']
            show _ = a.line ++ 32 :: (b.line ++ 41 :: rem S1)
            simp
          · intro z hz
            rcases List.mem_cons.mp hz with rfl | hz
            · exact hT1.ok.2
            · exact hT1.oks z hz
          · have := (List.getElem?_eq_some_iff.mp hc).1
            omega
    · -- a word
      obtain ⟨wd, rest, hdr, hwd, hrest, hcase⟩ : ∃ wd : Str, ∃ rest, L.cps.toList.drop p1 = wd.cps.toList ++ rest ∧ Wd wd ∧ (∀ c, rest[0]? = some c → ¬ (97 ≤ c ∧ c ≤ 122)) ∧ ((∃ b, t1 = .form wd b ∧ rest = 58 :: (b.line ++ rem S1)) ∨ (t1 = .name wd ∧ rest = rem S1)) := by
        cases t1 with
        | name wd =>
          refine ⟨wd, rem S1, hT1.line, hT1.ok, fun c hc => ?_, .inr ⟨rfl, rfl⟩⟩
          rcases rem_head S1 c hc with rfl | rfl <;> omega
        | form wd b =>
          refine ⟨wd, 58 :: (b.line ++ rem S1), by rw [hT1.line]; simp [NT.line], hT1.ok.1, fun c hc => ?_, .inl ⟨b, rfl, rfl⟩⟩
          have := Option.some.inj hc
          omega
        | call a b =>
          exact absurd (by rw [h0]; rfl) hc
      have hpos := wd_pos hwd
      have hdl := drop_len hdr (by rw [hlen]; exact hT1.le)
      rw [hlen] at hdl
      refine ⟨_, rfl, x, dx, fs, rfl, hx.ins, hx.meth _ (by decide +kernel), x, bg, L, p1, S1, wd, rest, rfl, hR1, hT1.le, hL.len, hL.asc, hdr, hwd, hrest, fun H2 k2 hR2 => ?_⟩
      obtain ⟨dx2, fs2, vs2, hx2, hb2, hp2⟩ := id hR2
      have K12 : Keep [x, bg] H1 H2 := k2.sub (by simp)
      have hafter := drop_more hdr
      have h58 : L.cps.toList[p1 + wd.cps.toList.length]? = rest[0]? := by
        rw [drop_get hdr, List.getElem?_append_right (Nat.le_refl _), Nat.sub_self]
      refine ⟨_, rfl, x, dx2, fs2, rfl, hx2.ins, hx2.meth _ (by decide +kernel), x, bg, L, p1 + wd.cps.toList.length, S1, _, 58, rfl, s_col, hR2, by omega, hL.len, fun hc2 H3 k3 hR3 => ⟨_, rfl, iteF ?_⟩, fun hc2 => ⟨_, rfl, iteT ?_⟩⟩
      · -- a form begins
        rcases hcase with ⟨b, rfl, rfl⟩ | ⟨rfl, rfl⟩
        · obtain ⟨dx3, fs3, vs3, hx3, hb3, hp3⟩ := id hR3
          have K23 : Keep [x, bg] H2 H3 := k3.sub (by simp)
          refine ⟨_, rfl, x, C, dx3, fs3, _, rfl, hx3.ins, R.cl, R.nB, hx3.begun, Or.inl ⟨rfl, _, SqL.of hb3⟩, _, rfl, small' (by show 2 ≤ 1000000; decide), fun b9 H9 n9 s9 h9 => ⟨_, _, _, rfl, rfl, s9 _ _ hb3, ?_, fun H10 k10 h10 => ?_⟩⟩
          · have := Paired.length hp3
            rw [List.length_reverse] at this
            have h1 := hT1.few
            have h2 := hT1.le
            have h3 := hL.len
            exact small (by omega)
          · have K39 : Keep [x, bg] H3 H10 := (Keep.of_same s9).trans (k10.sub (by simp))
            rw [List.length_cons] at hdl
            refine ⟨b.size, by show b.size < b.size + 1; omega, _, .form wd :: S1, p1 + wd.cps.toList.length + 1, b, rfl, ((k1.trans K12).trans K23).trans K39, RdAt.begin hx3 hb3 hp3 s9 ⟨b9, rfl, h9⟩ k10 h10, ⟨?_, hT1.ok.2, ?_, by omega, by have := hT1.few; rw [List.length_cons]; omega⟩, hpl, by omega, rfl⟩
            · rw [show p1 + wd.cps.toList.length + 1 = p1 + wd.cps.toList.length + [58].length from rfl, drop_more (u := [58]) (r := b.line ++ rem S1) hafter]
              rfl
            · intro z hz
              rcases List.mem_cons.mp hz with rfl | hz
              · exact hwd
              · exact hT1.oks z hz
        · rw [h58] at hc2
          rcases rem_head S1 58 hc2 with z | z <;> omega
      · -- a name
        rcases hcase with ⟨b, rfl, rfl⟩ | ⟨rfl, rfl⟩
        · exact absurd (by rw [h58]; rfl) hc2
        · refine ⟨_, rfl, small' (by show 2 ≤ 1000000; decide), fun b9 H9 n9 s9 h9 => ?_⟩
          refine k _ wd S1 _ H9 ((k1.trans K12).trans (.of_same s9)) ?_ (.name h9) hwd hafter hpl hT1.oks (by omega) (by omega) (by have := hT1.few; omega)
          exact ⟨dx2, fs2, vs2, hx2.keep (by rw [s9 _ _ hx2.ins, hx2.ins]), s9 _ _ hb2, bgs_mono hp2 (.of_same s9)⟩
def sp_rended (C : Addr) : Sp := fun vs H Q _ => ∃ x bg, ∃ L : Str, ∃ p S v, ∃ t : NT, vs = [.ref x, v] ∧ RdAt C x bg L p S H ∧ LineOk L ∧ NamedAt H v t ∧ t.ok ∧ L.cps.toList.drop p = rem S ∧ (∀ b ∈ S, b.ok) ∧ p ≤ L.length ∧ S.length ≤ p ∧
  (∀ S' p' t' H', Keep [x, bg] H H' → RdAt C x bg L p' S' H' → ToRead L p' t' S' → plug t' S' = plug t S → p < p' → Q .non H') ∧
  (∀ v' H', Keep [x, bg] H H' → RdAt C x bg L L.length [] H' → NamedAt H' v' (plug t S) → Q v' H')
def InvEnded (C x bg : Addr) (L : Str) (p : Nat) (S : List Bg) (t : NT) (H : Hp) (m : Nat) (σ : L2.St) (H' : Hp) : Prop :=
  ∃ xo v S' p' t', σ = [some (.ref x), some v, xo] ∧ Keep [x, bg] H H' ∧ RdAt C x bg L p' S' H' ∧ NamedAt H' v t' ∧ t'.ok ∧ L.cps.toList.drop p' = rem S' ∧ (∀ b ∈ S', b.ok) ∧ p' ≤ L.length ∧ S'.length ≤ p' ∧ plug t' S' = plug t S ∧ p ≤ p' ∧ m = S'.length
theorem kp2_tups {C x bg : Addr} {L : Str} {p : Nat} {dx : Addr} {fs : List (Str × V)} {vs : List V} {H H' : Hp} (h : RdO C x bg L p dx fs H) (hb : H bg = some (.lst vs)) (k : Keep [x, bg] H H') : Tups H H' := fun b xs e => k b _ (fun z => by
  rcases List.mem_cons.mp z with z | z
  · rw [z, h.ins] at e; cases e
  · rw [List.mem_singleton.mp z, hb] at e; cases e) e
theorem ok_rended {f C : Addr} {fd : FuncData} (F : Fun K "ended" "Reader.ended" s_Reader_ended f fd) (N_ : NoNames mg) (R : RdCls K C) (G_Reader_need : GM P w K mg base CX0 3 C "need" ["self", "sign"] (sp_rneed C)) : FnOk P w K mg base CX0 4 f fd ["self", "part"] (sp_rended C) := by
  refine F.ok sc_Reader_ended (fun vs H Q E h => ?_) (fun cdv A outer s H vs Q E hr h => ?_)
  · obtain ⟨x, bg, L, p, S, v, t, rfl, _⟩ := h
    rfl
  · obtain ⟨x, bg, L, p, S, v, t, rfl, hR, hL, hv, hok, hdr, hoks, hle, hfew, k1, k2⟩ := h
    have hlen := len_cps L
    refine ⟨_, (pss_cons (ps_while PassesOwn.never (pt_truth (pe_fld (pv 0) rfl) (fun _ => rfl)) (pss_cons (ps_set (i := 2) sc_Reader_ended.nd rfl (Or.inl rfl) (pPop (pe_fld (pv 0) rfl)))
      (pss_one (ps_if (pt_cmpR op_eq (pe_ix ix_tup (pv 2) pe_int (fun _ _ => rfl)) pe_str (nomark _)) (pss_one (ps_set (i := 1) sc_Reader_ended.nd rfl (Or.inl rfl) (pTup (pa_c pe_str (pa_c (pe_ix ix_tup (pv 2) pe_int (fun _ _ => rfl)) (pa_c (pv 1) pa_nil)))))) (pss_one (ps_if (pt_cmpR op_eq (pCB call_len_seq (by rfl) N_.len boot_len (pa_c (pv 2) pa_nil)) pe_int (nomark _)) (pss_cons (ps_expr (pe_gm (pv 0) R.cl G_Reader_need (hr.mono (by decide)) pass0 (pa_c pe_str pa_nil)))
      (pss_one (ps_set (i := 1) sc_Reader_ended.nd rfl (Or.inl rfl) (pTup (pa_c pe_str (pa_c (pe_ix ix_tup (pv 2) pe_int (fun _ _ => rfl)) (pa_c (pv 1) pa_nil))))))) (pss_cons (ps_expr (pe_gm (pv 0) R.cl G_Reader_need (hr.mono (by decide)) pass0 (pa_c pe_str pa_nil)))
      (pss_cons (ps_expr (pApp (pe_fld (pv 0) rfl) (pTup (pa_c pe_str (pa_c (pv 1) pa_nil)))))
      (pss_one (ps_ret pe_non))))))))))
      (pss_one (ps_ret (pv 1)))), ?_⟩
    refine ⟨InvEnded C x bg L p S t H, ⟨S.length, none, v, S, p, t, rfl, Keep.refl _ _, hR, hv, hok, hdr, hoks, hle, hfew, rfl, Nat.le_refl _, rfl⟩, ?_⟩
    rintro m σ H1 ⟨xo, v1, S1, p1, t1, rfl, kk1, hR1, hv1, hok1, hdr1, hoks1, hle1, hfew1, hpl, hpp, rfl⟩
    obtain ⟨dx, fs, vs, hx, hb, hp⟩ := id hR1
    have hvl := Paired.length hp
    rw [List.length_reverse] at hvl
    cases S1 with
    | nil =>
      have e : vs = [] := List.length_eq_zero_iff.mp hvl
      subst e
      refine ⟨_, rfl, x, C, dx, fs, _, rfl, hx.ins, R.cl, R.nB, hx.begun, false, Or.inl ⟨_, SqL.of hb, rfl⟩, iteF ⟨_, rfl, ?_⟩⟩
      have ep : p1 = L.length := by
        have := congrArg List.length hdr1
        rw [List.length_drop, hlen] at this
        have h2 : L.length - p1 = 0 := this
        omega
      rw [ep] at hR1
      exact k2 v1 H1 kk1 hR1 (by rw [← hpl]; exact hv1)
    | cons b S2 =>
      rw [List.reverse_cons] at hp
      have hne : vs ≠ [] := fun z => by rw [z] at hvl; cases hvl
      obtain ⟨vs', u, rfl, hp', hu⟩ := paired_snoc_inv hp
      refine ⟨_, rfl, x, C, dx, fs, _, rfl, hx.ins, R.cl, R.nB, hx.begun, true, Or.inl ⟨_, SqL.of hb, by simp⟩, iteT ⟨fun σ' H' => ∃ m', m' < (b :: S2).length ∧ InvEnded C x bg L p S t H m' σ' H', fun _ _ h => h, ?_⟩⟩
      refine ⟨_, rfl, x, C, dx, fs, _, rfl, hx.ins, R.cl, R.nB, hx.begun, Or.inl ⟨rfl, _, SqL.of hb⟩, bg, vs', u, rfl, rfl, hb, fun H6 k6 hb6 => ?_⟩
      have nb := bg_ne hx hb
      have tu6 := kp1_tups k6 hb
      have hx6 : RdO C x bg L p1 dx fs H6 := hx.keep (by rw [k6 _ _ (by simp [nb.symm]) hx.ins, hx.ins])
      have hp6 := bgs_mono hp' tu6
      have hu6 := BgAt.mono hu tu6
      have hv6 := hv1.mono tu6
      have K6 : Keep [x, bg] H1 H6 := k6.sub (by simp)
      rw [List.length_cons] at hfew1
      cases b with
      | form wd =>
        obtain ⟨a, rfl, ha⟩ := hu6
        refine ⟨_, rfl, _, _, _, _, rfl, rfl, SqT.of ha, at0, rfl, _, rfl, ifT rfl ⟨_, rfl, _, _, _, _, rfl, rfl, SqT.of ha, at1, _, rfl, small' (by show 3 ≤ 1000000; decide), fun b9 H9 n9 s9 h9 => ?_⟩⟩
        refine ⟨S2.length, by simp, _, _, S2, p1, .form wd t1, rfl, (kk1.trans K6).trans (.of_same s9), ⟨dx, fs, vs', hx6.keep (by rw [s9 _ _ hx6.ins, hx6.ins]), s9 _ _ hb6, bgs_mono hp6 (.of_same s9)⟩, .form h9 (hv6.same s9), ⟨hoks1 _ List.mem_cons_self, hok1⟩, hdr1, fun z hz => hoks1 z (List.mem_cons_of_mem _ hz), hle1, by omega, hpl, hpp, rfl⟩
      | two a0 =>
        obtain ⟨a, u0, rfl, ha, hu0⟩ := hu6
        refine ⟨_, rfl, _, _, _, _, rfl, rfl, SqT.of ha, at0, rfl, _, rfl, ifF n_cf ⟨_, rfl, _, _, rfl, Or.inr (SqT.of ha), rfl, _, rfl, ifT rfl ?_⟩⟩
        have hdr2 : L.cps.toList.drop p1 = [41] ++ rem S2 := hdr1
        have hc : L.cps.toList[p1]? = some 41 := by
          have := drop_get (i := 0) hdr2
          rw [Nat.add_zero] at this
          exact this
        have hdl := drop_len hdr2 (by rw [hlen]; exact hle1)
        rw [hlen] at hdl
        have hdl : p1 + 1 + (rem S2).length = L.length := hdl
        refine ⟨_, rfl, x, dx, fs, rfl, hx6.ins, hx6.meth _ (by decide +kernel), x, bg, L, p1, S2, _, 41, rfl, s_cls, ⟨dx, fs, vs', hx6, hb6, hp6⟩, hle1, hL.len, hc, fun H7 k7 hR7 => ?_⟩
        have K7 : Keep [x, bg] H6 H7 := k7.sub (by simp)
        have tu7 := kp2_tups hx6 hb6 K7
        refine ⟨_, rfl, _, _, _, _, rfl, rfl, SqT.of (tu7 _ _ ha), at1, _, rfl, small' (by show 3 ≤ 1000000; decide), fun b9 H9 n9 s9 h9 => ?_⟩
        obtain ⟨dx7, fs7, vs7, hx7, hb7, hp7⟩ := id hR7
        refine ⟨S2.length, by simp, _, _, S2, p1 + 1, .call a0 t1, rfl, ((kk1.trans K6).trans K7).trans (.of_same s9), ⟨dx7, fs7, vs7, hx7.keep (by rw [s9 _ _ hx7.ins, hx7.ins]), s9 _ _ hb7, bgs_mono hp7 (.of_same s9)⟩, .call h9 ((hu0.mono tu7).same s9) ((hv6.mono tu7).same s9), ⟨hoks1 _ List.mem_cons_self, hok1⟩, drop_more (u := [41]) hdr2, fun z hz => hoks1 z (List.mem_cons_of_mem _ hz), by omega, by omega, hpl, by omega, rfl⟩
      | one b0 =>
        obtain ⟨a, rfl, ha⟩ := hu6
        refine ⟨_, rfl, _, _, _, _, rfl, rfl, SqT.of ha, at0, rfl, _, rfl, ifF n_cf ⟨_, rfl, _, _, rfl, Or.inr (SqT.of ha), rfl, _, rfl, ifF (by decide) ?_⟩⟩
        have hdr2 : L.cps.toList.drop p1 = [32] ++ (b0.line ++ 41 :: rem S2) := hdr1
        have hc : L.cps.toList[p1]? = some 32 := by
          have := drop_get (i := 0) hdr2
          rw [Nat.add_zero] at this
          exact this
        have hdl := drop_len hdr2 (by rw [hlen]; exact hle1)
        rw [hlen] at hdl
        have hdl : p1 + 1 + (b0.line ++ 41 :: rem S2).length = L.length := hdl
        refine ⟨_, rfl, x, dx, fs, rfl, hx6.ins, hx6.meth _ (by decide +kernel), x, bg, L, p1, S2, _, 32, rfl, s_blk, ⟨dx, fs, vs', hx6, hb6, hp6⟩, hle1, hL.len, hc, fun H7 k7 hR7 => ?_⟩
        have K7 : Keep [x, bg] H6 H7 := k7.sub (by simp)
        have tu7 := kp2_tups hx6 hb6 K7
        obtain ⟨dx7, fs7, vs7, hx7, hb7, hp7⟩ := id hR7
        refine ⟨_, rfl, x, C, dx7, fs7, _, rfl, hx7.ins, R.cl, R.nB, hx7.begun, Or.inl ⟨rfl, _, SqL.of hb7⟩, _, rfl, small' (by show 2 ≤ 1000000; decide), fun b9 H9 n9 s9 h9 => ⟨_, _, _, rfl, rfl, s9 _ _ hb7, ?_, fun H10 k10 h10 => ?_⟩⟩
        · have := Paired.length hp7
          rw [List.length_reverse] at this
          have h3 := hL.len
          exact small (by omega)
        · have K79 : Keep [x, bg] H7 H10 := (Keep.of_same s9).trans (k10.sub (by simp))
          refine k1 (.two t1 :: S2) (p1 + 1) b0 H10 (((kk1.trans K6).trans K7).trans K79) (RdAt.begin hx7 hb7 hp7 s9 ⟨b9, _, rfl, h9, (hv6.mono tu7).same s9⟩ k10 h10) ⟨drop_more (u := [32]) hdr2, hoks1 _ List.mem_cons_self, fun z hz => ?_, by omega, by rw [List.length_cons]; omega⟩ hpl (by omega)
          rcases List.mem_cons.mp hz with rfl | hz
          · exact hok1
          · exact hoks1 z (List.mem_cons_of_mem _ hz)
def sp_read : Sp := fun vs H Q _ => ∃ L : Str, ∃ t : NT, vs = [.str L] ∧ L.cps.toList = t.line ∧ t.ok ∧ t.size ≤ 1000 ∧ ∀ v' H', Same H H' → NamedAt H' v' t → Q v' H'
theorem line_asc : ∀ t : NT, t.ok → ∀ c ∈ t.line, c < 128
  | .name w, h, c, hc => by have := h.2.2 c hc; omega
  | .form w b, h, c, hc => by
    rcases List.mem_append.mp hc with hc | hc
    · have := h.1.2.2 c hc; omega
    · rcases List.mem_cons.mp hc with rfl | hc
      · decide
      · exact line_asc b h.2 c hc
  | .call a b, h, c, hc => by
    rcases List.mem_cons.mp hc with rfl | hc
    · decide
    · rcases List.mem_append.mp hc with hc | hc
      · exact line_asc a h.1 c hc
      · rcases List.mem_cons.mp hc with rfl | hc
        · decide
        · rcases List.mem_append.mp hc with hc | hc
          · exact line_asc b h.2 c hc
          · rw [List.mem_singleton.mp hc]; decide
/-- a line is read on, or read -/
def InvRead (C x bg : Addr) (L : Str) (T : NT) (H : Hp) (m : Nat) (σ : L2.St) (H' : Hp) : Prop :=
  ∃ tv, σ = [some (.str L), some (.ref x), some tv] ∧ Keep [x, bg] H H' ∧ ((tv = .non ∧ ∃ p S t, RdAt C x bg L p S H' ∧ ToRead L p t S ∧ plug t S = T ∧ m = L.length - p + 1) ∨ (tv ≠ .non ∧ RdAt C x bg L L.length [] H' ∧ NamedAt H' tv T ∧ m = 0))
theorem ok_read {f C : Addr} {fd : FuncData} (F : Fun K "read" "read" s_read f fd) (R : RdCls K C) (G_Reader : GK P w K mg base CX0 1 C "Reader" ["self", "line"] (sp_rinit C)) (G_Reader_is_over : GM P w K mg base CX0 1 C "is_over" ["self"] (sp_rover C))
    (G_Reader_next_name : GM P w K mg base CX0 3 C "next_name" ["self"] (sp_rname C)) (G_Reader_ended : GM P w K mg base CX0 4 C "ended" ["self", "part"] (sp_rended C)) : FnOk P w K mg base CX0 5 f fd ["line"] sp_read := by
  refine F.ok sc_read (fun vs H Q E h => ?_) (fun cdv A outer s H vs Q E hr h => ?_)
  · obtain ⟨L, t, rfl, _⟩ := h
    rfl
  · obtain ⟨L, T, rfl, hT, hok, hsz, k⟩ := h
    have hlen := len_cps L
    have hLl : L.length ≤ 103000 := by
      have := T.line_len hok
      rw [← hlen, hT]
      omega
    have hL : LineOk L := ⟨by omega, by rw [hT]; exact line_asc T hok⟩
    refine ⟨_, (pss_cons (ps_set (i := 1) sc_read.nd rfl (Or.inl rfl) (pe_gk G_Reader (hr.mono (by decide)) rfl pass0 (pa_c (pv 0) pa_nil)))
      (pss_cons (ps_set (i := 2) sc_read.nd rfl (Or.inl rfl) pe_non)
      (pss_cons (ps_while PassesOwn.never (pt_cmpR op_isN (pv 2) pe_non (nomark _)) (pss_one (ps_set (i := 2) sc_read.nd rfl (Or.inl rfl) (pe_gm (pv 1) R.cl G_Reader_ended (hr.mono (by decide)) pass0 (pa_c (pe_gm0 (pv 1) R.cl G_Reader_next_name (hr.mono (by decide)) pass0) pa_nil)))))
      (pss_cons (ps_if (pt_not (pt_val (pe_gm0 (pv 1) R.cl G_Reader_is_over (hr.mono (by decide)) pass0))) (pss_one ps_never) pss_nil)
      (pss_one (ps_ret (pv 2))))))), ?_⟩
    refine ⟨_, rfl, fun x dx nx ndx nxd => ⟨x, dx, L, rfl, upd_same, fun bg H1 nb hR1 kp1 => ⟨rfl, ?_⟩⟩⟩
    have n_bg : H bg = none := by
      cases q : H bg with
      | none => rfl
      | some o =>
        have b1 : bg ≠ x := fun z => by rw [z, nx] at q; cases q
        have b2 : bg ≠ dx := fun z => by rw [z, ndx] at q; cases q
        rw [upd_ne b1, upd_ne b2, q] at nb
        cases nb
    have same01 : Same H H1 := fun b o e => by
      have b1 : b ≠ x := fun z => by rw [z, nx] at e; cases e
      have b2 : b ≠ dx := fun z => by rw [z, ndx] at e; cases e
      exact kp1 b o b1 (by rw [upd_ne b1, upd_ne b2]; exact e)
    have nL : ∀ z ∈ [x, bg], H z = none := fun z hz => by
      rcases List.mem_cons.mp hz with e | hz
      · rw [e]; exact nx
      · rw [List.mem_singleton.mp hz]; exact n_bg
    refine ⟨InvRead C x bg L T H1, ⟨L.length - 0 + 1, .non, rfl, Keep.refl _ _, .inl ⟨rfl, 0, [], T, hR1, ⟨by rw [List.drop_zero, hT]; simp [rem], hok, (fun b hb => nomatch hb), Nat.zero_le _, Nat.le_refl _⟩, rfl, rfl⟩⟩, ?_⟩
    rintro m σ H2 ⟨tv, rfl, k2, hcase⟩
    rcases hcase with ⟨rfl, p, S, t, hR2, hTo, hpl, rfl⟩ | ⟨hnn, hR2, hv, rfl⟩
    · refine ⟨_, rfl, rfl, _, rfl, ifT rfl ⟨fun σ' H' => ∃ m', m' < L.length - p + 1 ∧ InvRead C x bg L T H1 m' σ' H', fun _ _ h => h, ?_⟩⟩
      obtain ⟨dx2, fs2, vs2, hx2, hb2, hp2⟩ := id hR2
      refine ⟨_, rfl, x, dx2, fs2, rfl, hx2.ins, hx2.meth _ (by decide +kernel), _, rfl, x, dx2, fs2, rfl, hx2.ins, hx2.meth _ (by decide +kernel), x, bg, L, p, S, t, rfl, hR2, hL, hTo, fun v wd S' p' H3 k3 hR3 hv3 hwd hdr3 hpl3 hoks3 hpp3 hle3 hfew3 => ?_⟩
      refine ⟨x, bg, L, p', S', v, .name wd, rfl, hR3, hL, hv3, hwd, hdr3, hoks3, hle3, hfew3, fun S4 p4 t4 H4 k4 hR4 hTo4 hpl4 hpp4 => ?_, fun v4 H4 k4 hR4 hv4 => ?_⟩
      · exact ⟨_, by have := hTo4.le; omega, .non, rfl, (k2.trans k3).trans k4, .inl ⟨rfl, p4, S4, t4, hR4, hTo4, hpl4.trans (hpl3.trans hpl), rfl⟩⟩
      · refine ⟨0, by omega, v4, rfl, (k2.trans k3).trans k4, .inr ⟨fun z => ?_, hR4, by rw [← hpl, ← hpl3]; exact hv4, rfl⟩⟩
        obtain ⟨a, e⟩ := hv4.ref
        rw [e] at z
        cases z
    · obtain ⟨dx2, fs2, vs2, hx2, hb2, hp2⟩ := id hR2
      refine ⟨_, rfl, rfl, _, rfl, ifF hnn ⟨_, rfl, x, dx2, fs2, rfl, hx2.ins, hx2.meth _ (by decide +kernel), x, bg, L, L.length, dx2, fs2, rfl, hx2, hL.len, _, rfl, ?_⟩⟩
      rw [decide_eq_true rfl]
      refine iteF ⟨_, rfl, k tv H2 (same_keep same01 k2 nL) hv⟩
end
end NC
/-! ### a law's named terms and their lines -/
namespace NC
open PySem PySem.Spec PyProof.Rows L2
section
variable {P : Program} {w : World} {K : PySem.W.Frag} {mg : Str → Option Value} {base : Heap}
seal L2.PE L2.PA L2.PT L2.PS L2.PSs L2.PW L2.PG L2.PGs L2.PI L2.PO L2.OpR L2.UnR L2.CallR L2.TruR L2.IxR L2.SlR
def sp_any_wordF : Sp := fun vs H Q _ => ∃ c, vs = [.int c] ∧ Q (.str (anyW c)) H
theorem letters_at {i : Nat} (h : i < 26) : (Str.ofString "abcdefghijklmnopqrstuvwxyz").cps.toList[i]? = some (97 + i) := by
  have : ∀ i : Fin 26, (Str.ofString "abcdefghijklmnopqrstuvwxyz").cps.toList[i.val]? = some (97 + i.val) := by decide +kernel
  exact this ⟨i, h⟩
theorem ok_any_wordF {f : Addr} {fd : FuncData} (F : Fun K "_law_any_word" "_law_any_word" s__law_any_word f fd) (N_ : NoNames mg) : FnOk P w K mg base CX0 1 f fd ["_law_cell"] sp_any_wordF := by
  refine F.ok sc__law_any_word (fun vs H Q E h => ?_) (fun cdv A outer s H vs Q E hr h => ?_)
  · obtain ⟨c, rfl, _⟩ := h
    rfl
  · obtain ⟨c, rfl, k⟩ := h
    refine ⟨_, (pss_cons (ps_set (i := 1) sc__law_any_word.nd rfl (Or.inl rfl) (pe_op op_mod (pCB call_abs (by rfl) N_.abs boot_abs (pa_c (pv 0) pa_nil)) (pe_op op_pow pe_int pe_int)))
      (pss_cons (ps_set (i := 2) sc__law_any_word.nd rfl (Or.inl rfl) pe_str)
      (pss_cons (ps_while PassesOwn.never (pt_cmpR op_ge (pv 1) pe_int (nomark _)) (pss_cons (ps_set (i := 2) sc__law_any_word.nd rfl (Or.inl rfl) (pe_op op_add_str (pe_ix ix_str pe_str (pe_op op_mod (pv 1) pe_int) (fun _ _ => rfl)) (pv 2)))
      (pss_one (ps_set (i := 1) sc__law_any_word.nd rfl (Or.inl rfl) (pe_op op_sub (pe_op op_fdiv (pv 1) pe_int) pe_int)))))
      (pss_one (ps_ret (pv 2)))))), ?_⟩
    refine ⟨_, rfl, _, rfl, _, _, rfl, rfl, ⟨by decide, by decide, by decide⟩, _, _, rfl, rfl, (show (0 : Int) < 10 ^ (39 : Int).toNat by decide +kernel), ?_⟩
    obtain ⟨M, hM⟩ : ∃ M, ((if c < 0 then -c else c) % (10 : Int) ^ ((39 : Int).toNat)) = M := ⟨_, rfl⟩
    have hM0 : 0 ≤ M := by rw [← hM]; exact Int.emod_nonneg _ (by decide +kernel)
    have hM1 : M < 10 ^ 39 := by rw [← hM]; exact Int.emod_lt_of_pos _ (by decide +kernel)
    have hany : anyW c = goW (M.toNat + 1) (Str.ofString "") := by unfold anyW; rw [hM]
    refine ⟨fun m σ H' => ∃ (n : Nat) (w : Str), σ = [some (.int c), some (.int ((m : Int) - 1)), some (.str w)] ∧ H' = H ∧ w.length = n ∧ 26 ^ n * m ≤ 10 ^ 39 ∧ goW m w = anyW c ∧ (∀ z ∈ w.cps.toList, 97 ≤ z ∧ z ≤ 122) ∧ (1 ≤ n ∨ 1 ≤ m) ∧ n ≤ 100, ⟨M.toNat + 1, 0, "", ?_, rfl, rfl, ?_, hany.symm, ?_, .inr (by omega), by decide⟩, ?_⟩
    · have e : ((M.toNat + 1 : Nat) : Int) - 1 = M := by omega
      rw [e, ← hM]
      rfl
    · have : M.toNat + 1 ≤ 10 ^ 39 := by omega
      simpa using this
    · intro z hz
      have e : (Str.ofString "").cps.toList = [] := by decide +kernel
      rw [e] at hz
      cases hz
    · rintro m σ H' ⟨n, w, rfl, rfl, hn, hb, hg, hlet, hpos, hn1⟩
      refine ⟨_, rfl, _, _, rfl, rfl, _, rfl, ifD (fun hc => ?_) (fun hc => ⟨_, rfl, ?_⟩)⟩
      · have hm : 1 ≤ m := by omega
        have hn28 := word_bound hb hm
        refine ⟨fun σ' H'' => ∃ m', m' < m ∧ ∃ (n : Nat) (w : Str), σ' = [some (.int c), some (.int ((m' : Int) - 1)), some (.str w)] ∧ H'' = H' ∧ w.length = n ∧ 26 ^ n * m' ≤ 10 ^ 39 ∧ goW m' w = anyW c ∧ (∀ z ∈ w.cps.toList, 97 ≤ z ∧ z ≤ 122) ∧ (1 ≤ n ∨ 1 ≤ m') ∧ n ≤ 100, fun _ _ h => h, ?_⟩
        have hch : atI (Str.ofString "abcdefghijklmnopqrstuvwxyz").cps.toList (((m : Int) - 1) % 26) = some (97 + (m - 1) % 26) := by
          rw [show ((m : Int) - 1) % 26 = (((m - 1) % 26 : Nat) : Int) by omega]
          exact atI_nat (letters_at (by omega))
        refine ⟨_, rfl, _, _, rfl, rfl, (show (0 : Int) < 26 by decide), _, _, _, rfl, rfl, small' (by decide +kernel), hch, _, rfl, _, _, rfl, rfl, small' (by rw [hn]; show 1 + n ≤ _; omega), ?_⟩
        refine ⟨_, rfl, _, _, rfl, rfl, ⟨by decide, by decide⟩, _, _, rfl, rfl, ?_⟩
        refine ⟨(m - 1) / 26, by omega, n + 1, ⟨#[97 + (m - 1) % 26]⟩ ++ w, ?_, rfl, ?_, ?_, ?_, wd_any _ (by omega) (by omega) hlet, .inl (by omega), by omega⟩
        · have e : ((m : Int) - 1) / 26 - 1 = (((m - 1) / 26 : Nat) : Int) - 1 := by omega
          rw [← e]
          rfl
        · rw [Str.length_append, hn]
          show 1 + n = n + 1
          omega
        · have h1 : 26 ^ (n + 1) * ((m - 1) / 26) = 26 ^ n * (26 * ((m - 1) / 26)) := by rw [Nat.pow_succ, Nat.mul_assoc]
          rw [h1]
          refine Nat.le_trans (Nat.mul_le_mul_left _ ?_) hb
          omega
        · exact (goW_pos (by omega) w).symm.trans hg
      · have hm : m = 0 := by omega
        subst hm
        rw [goW_zero] at hg
        subst hg
        exact k
abbrev s__law_wordy : Stmt := top 9
theorem sc__law_wordy : FnScope ["_law_cells", "_law_pile", "_law_j", "_law_cell", "_law_way", "_law_letter", "_law_word", "_law_inner", "_law_other", "_law_one"] ["_law_cells"] (defScope s__law_wordy) := ⟨rfl, rfl, rfl, by decide +kernel, rfl, by decide +kernel, by decide +kernel⟩
abbrev s__law_lined : Stmt := top 12
theorem sc__law_lined : FnScope ["_law_cells", "_law_pile", "_law_j", "_law_cell", "_law_way", "_law_letter", "_law_word", "_law_inner", "_law_other", "_law_one"] ["_law_cells"] (defScope s__law_lined) := ⟨rfl, rfl, rfl, by decide +kernel, rfl, by decide +kernel, by decide +kernel⟩
def sp_wordy (K : PySem.W.Frag) : Sp := fun vs H Q _ => ∃ a, ∃ ns : List Int, vs = [.ref a] ∧ SqL K H a (ns.map V.int) ∧ ns.length ≤ 63 ∧ ∀ v H', Same H H' → NamedAt H' v (wordyT ns) → Q v H'
def sp_lined (K : PySem.W.Frag) : Sp := fun vs H Q _ => ∃ a, ∃ ns : List Int, vs = [.ref a] ∧ SqL K H a (ns.map V.int) ∧ ns.length ≤ 63 ∧ ∀ H', Same H H' → Q (.str (lineS (wordyT ns))) H'
theorem at_map {ns : List Int} {j : Nat} (h : j < ns.length) : atI (ns.map V.int) (j : Int) = some (.int (ns.getD j 0)) := atI_nat (by
  rw [List.getElem?_map, List.getElem?_eq_getElem h, List.getD_eq_getElem?_getD, List.getElem?_eq_getElem h]
  rfl)
theorem at_letter (c : Int) : atI (Str.ofString "abcdefghijklmnopqrstuvwxyz").cps.toList (c % 26) = some (97 + (c % 26).toNat) := by
  have e : c % 26 = (((c % 26).toNat : Nat) : Int) := by omega
  conv => lhs; rw [e]
  exact atI_nat (letters_at (by omega))
theorem at_menu (l : Str) (k : Int) : atI [V.str "sab", V.str "tab", V.str "sat", V.str "sob", V.str l] (k % 5) = some (.str (menuS l k)) := by
  have e : k % 5 = (((k % 5).toNat : Nat) : Int) := by omega
  have hlt : (k % 5).toNat < 5 := by omega
  conv => lhs; rw [e]
  refine atI_nat ?_
  unfold menuS
  generalize (k % 5).toNat = j at hlt
  match j, hlt with
  | 0, _ => rfl
  | 1, _ => rfl
  | 2, _ => rfl
  | 3, _ => rfl
  | 4, _ => rfl
theorem word_then {ns : List Int} {j : Nat} (h : V.int (ns.getD j 0 % 11) = V.int 7) : anyW (ns.getD j 0 / 11) = wordAt ns j := by
  unfold wordAt
  rw [if_pos (V.int.inj h)]
theorem word_else {ns : List Int} {j : Nat} (h : ¬ V.int (ns.getD j 0 % 11) = V.int 7) : menuS (letterS (ns.getD ((j + 1) % ns.length) 0)) (ns.getD j 0 / 5) = wordAt ns j := by
  unfold wordAt
  rw [if_neg fun z => h (by rw [z])]
theorem lineS_form (wd : Str) (t : NT) : wd ++ Str.ofString ":" ++ lineS t = lineS (.form wd t) := str_ext (by
  rw [cps_append, cps_append, s_col]
  show _ = (wd.cps.toList ++ 58 :: t.line).toArray.toList
  simp [lineS])
theorem lineS_call (a b : NT) : Str.ofString "(" ++ lineS a ++ Str.ofString " " ++ lineS b ++ Str.ofString ")" = lineS (.call a b) := str_ext (by
  rw [cps_append, cps_append, cps_append, cps_append, s_opn, s_blk, s_cls]
  show _ = (40 :: (a.line ++ 32 :: (b.line ++ [41]))).toArray.toList
  simp [lineS])
theorem lineS_name (wd : Str) : lineS (.name wd) = wd := str_ext (by show (wd.cps.toList).toArray.toList = _; simp)
theorem lineS_len {t : NT} (h : t.ok) : (lineS t).length ≤ 103 * t.size := by
  have := t.line_len h
  show t.line.toArray.size ≤ _
  rw [List.size_toArray]
  exact this
theorem mem_sizesN {S : List NT} {t : NT} (h : t ∈ S) : t.size ≤ sizesN S := by
  induction S with
  | nil => cases h
  | cons x r ih =>
    show t.size ≤ x.size + sizesN r
    rcases List.mem_cons.mp h with rfl | h
    · omega
    · have := ih h; omega
theorem pile_mem {ns : List Int} {i : Nat} {t : NT} (h : t ∈ pileN ns i) : (lineS t).length ≤ 103 * i := by
  have h1 := lineS_len (pile_ok ns i t h)
  have h2 := mem_sizesN h
  have h3 := pile_size ns i
  omega
def InvM__law_wordy (H : Hp) (p : Addr) (ns : List Int) (H' : Hp) (n : Nat) : Prop := ∃ xs S, Same H H' ∧ H' p = some (.lst xs) ∧ Paired (NamedAt H') xs S.reverse ∧ closeN S = wordyT ns ∧ S ≠ [] ∧ (∀ t ∈ S, t.ok) ∧ sizesN S + S.length ≤ 200 ∧ n = S.length
theorem ok__law_wordy {f : Addr} {fd : FuncData} (F : Fun K "_law_wordy" "_law_wordy" s__law_wordy f fd) (N_ : NoNames mg) (G__law_any_word : GF P w K mg base CX0 1 "_law_any_word" ["_law_cell"] sp_any_wordF) :
    FnOk P w K mg base CX0 2 f fd ["_law_cells"] (sp_wordy K) := by
  refine F.ok sc__law_wordy (fun vs H Q E h => ?_) (fun cdv A outer s H vs Q E hr h => ?_)
  · obtain ⟨a, ns, rfl, _⟩ := h
    rfl
  · obtain ⟨a, ns, rfl, hS, hl, k⟩ := h
    have hu0 := hr.units0
    refine ⟨_, (pss_cons (ps_set (i := 1) sc__law_wordy.nd rfl (Or.inl rfl) (pLst pa_nil))
      (pss_cons (ps_for PassesOwn.never rfl (pi_range1 rfl N_.range (pa_c (pCB call_len_seq (by rfl) N_.len boot_len (pa_c (pv 0) pa_nil)) pa_nil)) (pg_name (i := 2) sc__law_wordy.nd rfl (Or.inl rfl)) (pss_cons (ps_set (i := 3) sc__law_wordy.nd rfl (Or.inl rfl) (pe_ix ix_list (pv 0) (pv 2) (fun _ _ => rfl)))
      (pss_cons (ps_set (i := 4) sc__law_wordy.nd rfl (Or.inl rfl) (pe_op op_mod (pv 3) pe_int))
      (pss_cons (ps_set (i := 5) sc__law_wordy.nd rfl (Or.inl rfl) (pe_ix ix_str pe_str (pe_op op_mod (pe_ix ix_list (pv 0) (pe_op op_mod (pe_op op_add (pv 2) pe_int) (pCB call_len_seq (by rfl) N_.len boot_len (pa_c (pv 0) pa_nil))) (fun _ _ => rfl)) pe_int) (fun _ _ => rfl)))
      (pss_cons (ps_set (i := 6) sc__law_wordy.nd rfl (Or.inl rfl) (pe_ix ix_list (pLst (pa_c pe_str (pa_c pe_str (pa_c pe_str (pa_c pe_str (pa_c (pv 5) pa_nil)))))) (pe_op op_mod (pe_op op_fdiv (pv 3) pe_int) pe_int) (fun _ _ => rfl)))
      (pss_cons (ps_if (pt_cmpR op_eq (pe_op op_mod (pv 3) pe_int) pe_int (nomark _)) (pss_one (ps_set (i := 6) sc__law_wordy.nd rfl (Or.inl rfl) (pe_gf G__law_any_word (hr.mono (by decide)) rfl pass0 (pa_c (pe_op op_fdiv (pv 3) pe_int) pa_nil)))) pss_nil)
      (pss_one (ps_if (PW.pt (pw_and (PW.pt (pw_or (pt_cmpR op_eq (pv 4) pe_int (nomark _)) (pw_or1 (pt_cmpR op_eq (pv 4) pe_int (nomark _))))) (pw_and1 (pt_cmpR (op_neNil hu0) (pv 1) (pLst pa_nil) (nomark _))))) (pss_cons (ps_set (i := 7) sc__law_wordy.nd rfl (Or.inl rfl) (pPop (pv 1)))
      (pss_one (ps_expr (pApp (pv 1) (pTup (pa_c pe_str (pa_c (pv 6) (pa_c (pv 7) pa_nil)))))))) (pss_one (ps_if (PW.pt (pw_and (pt_cmpR op_eq (pv 4) pe_int (nomark _)) (pw_and1 (pt_cmpR op_gt (pCB call_len_seq (by rfl) N_.len boot_len (pa_c (pv 1) pa_nil)) pe_int (nomark _))))) (pss_cons (ps_set (i := 8) sc__law_wordy.nd rfl (Or.inl rfl) (pPop (pv 1)))
      (pss_cons (ps_set (i := 9) sc__law_wordy.nd rfl (Or.inl rfl) (pPop (pv 1)))
      (pss_one (ps_expr (pApp (pv 1) (pTup (pa_c pe_str (pa_c (pv 9) (pa_c (pv 8) pa_nil))))))))) (pss_one (ps_expr (pApp (pv 1) (pTup (pa_c pe_str (pa_c (pv 6) pa_nil))))))))))))))))
      (pss_cons (ps_if (pt_cmpR (op_eqNil hu0) (pv 1) (pLst pa_nil) (nomark _)) (pss_one (ps_expr (pApp (pv 1) (pTup (pa_c pe_str (pa_c pe_str pa_nil)))))) pss_nil)
      (pss_cons (ps_while PassesOwn.never (pt_cmpR op_gt (pCB call_len_seq (by rfl) N_.len boot_len (pa_c (pv 1) pa_nil)) pe_int (nomark _)) (pss_cons (ps_set (i := 8) sc__law_wordy.nd rfl (Or.inl rfl) (pPop (pv 1)))
      (pss_cons (ps_set (i := 9) sc__law_wordy.nd rfl (Or.inl rfl) (pPop (pv 1)))
      (pss_one (ps_expr (pApp (pv 1) (pTup (pa_c pe_str (pa_c (pv 9) (pa_c (pv 8) pa_nil))))))))))
      (pss_one (ps_ret (pe_ix ix_list (pv 1) pe_int (fun _ _ => rfl)))))))), ?_⟩
    refine ⟨small' (by simp), fun p H1 np s1 hp1 => ?_⟩
    have hnl : (ns.map V.int).length = ns.length := List.length_map _
    refine ⟨_, rfl, _, _, rfl, Or.inl (s1.seq hS), _, rfl, ?_, ?_, ?_⟩
    · rw [hnl]; omega
    · rw [hnl]; omega
    rw [show (((ns.map V.int).length : Nat) : Int).toNat = ns.length by rw [hnl]; omega]
    refine for_range (fun i σ H' => i ≤ ns.length ∧ Same H H' ∧ (∃ xs, H' p = some (.lst xs) ∧ Paired (NamedAt H') xs (pileN ns i).reverse) ∧ ∃ x2 x3 x4 x5 x6 x7 x8 x9, σ = [some (.ref a), some (.ref p), x2, x3, x4, x5, x6, x7, x8, x9]) ⟨Nat.zero_le _, s1, ⟨[], hp1, .nil⟩, _, _, _, _, _, _, _, _, rfl⟩ ?_ ?_
    · rintro i σ H2 hi ⟨_, s2, ⟨xs, hp2, hxs⟩, x2, x3, x4, x5, x6, x7, x8, x9, rfl⟩
      have hS2 := s2.seq hS
      have hxl : xs.length ≤ 63 := by
        rw [Paired.length hxs, List.length_reverse]
        have h1 := len_sizesN (pileN ns i)
        have h2 := pile_size ns i
        omega
      have hln : 0 < ns.length := by omega
      have hmod : (i + 1) % ns.length < ns.length := Nat.mod_lt _ hln
      -- cell, way, letter, word
      refine ⟨_, rfl, _, rfl, _, _, _, _, rfl, rfl, hS2, (by rw [Int.zero_add]; exact at_map hi), ?_⟩
      refine ⟨_, rfl, _, _, rfl, rfl, (show (0 : Int) < 5 by decide), ?_⟩
      refine ⟨_, rfl, _, rfl, _, _, rfl, rfl, _, rfl, _, _, rfl, Or.inl hS2, _, _, rfl, rfl, (by rw [hnl]; omega), _, _, _, _, rfl, rfl, hS2, (by
        rw [hnl, Int.zero_add, show ((i : Int) + 1) % (ns.length : Int) = (((i + 1) % ns.length : Nat) : Int) by rw [Int.natCast_emod]; rfl]
        exact at_map hmod), _, _, rfl, rfl, (show (0 : Int) < 26 by decide), _, _, _, rfl, rfl, small' (by decide +kernel), at_letter _, ?_⟩
      refine ⟨_, rfl, small' (by show 5 ≤ 1000000; decide), fun q3 H3 n3 s3 h3 => ⟨_, rfl, _, _, rfl, rfl, ⟨by decide, by decide⟩, _, _, rfl, rfl, (show (0 : Int) < 5 by decide), _, _, _, _, rfl, rfl, SqL.of h3, at_menu (letterS (ns.getD ((i + 1) % ns.length) 0)) (ns.getD i 0 / 5), ?_⟩⟩
      have s3' := s2.trans s3
      have hp3 := s3 _ _ hp2
      have hxs3 : Paired (NamedAt H3) xs (pileN ns i).reverse := nameds_mono hxs (.of_same s3)
      have hpn : pileN ns (i + 1) = stepN (pileN ns i) (ns.getD i 0 % 5) (wordAt ns i) := rfl
      refine ⟨_, rfl, _, _, rfl, rfl, (show (0 : Int) < 11 by decide), rfl, _, rfl, ifD (fun e11 => ⟨_, rfl, _, _, rfl, rfl, ⟨by decide, by decide⟩, _, rfl, ?thn⟩) (fun e11 => ?els)⟩
      case thn | els =>
        first | rw [word_then e11] | rw [word_else e11]
        have hwd := wd_wordAt ns i
        generalize wordAt ns i = wd at hwd hpn
        generalize hgS : pileN ns i = S at hpn hxs3
        have hokS : ∀ t ∈ S, t.ok := by rw [← hgS]; exact pile_ok ns i
        have hszS : sizesN S ≤ 63 := by rw [← hgS]; have := pile_size ns i; omega
        refine ⟨_, rfl, rfl, _, rfl, ifD (fun h2 => iteT ?A) (fun h2 => ⟨_, rfl, rfl, _, rfl, ifD (fun h3 => ?B) (fun h3 => ?C)⟩)⟩
        case A | B =>
          have hway : ns.getD i 0 % 5 = 2 ∨ ns.getD i 0 % 5 = 3 := by first | exact .inr (V.int.inj h3) | exact .inl (V.int.inj h2)
          refine ⟨_, rfl, small' (by simp), fun e0 H4 n4 s4 h4 => ⟨_, _, _, rfl, rfl, SqL.of (s4 _ _ hp3), SqL.of h4, _, rfl, ifB (fun hE => ?form) (fun hE => ?emp)⟩⟩
          case form =>
            have hp4 := s4 _ _ hp3
            cases S with
            | nil =>
              cases paired_nil hxs3
              exact absurd hE (by simp)
            | cons t r =>
              rw [List.reverse_cons] at hxs3
              obtain ⟨xs', x, rfl, hxs', hx⟩ := paired_snoc_inv hxs3
              refine ⟨_, rfl, Or.inl ⟨rfl, _, SqL.of hp4⟩, _, _, _, rfl, rfl, hp4, fun H5 k5 hp5 => ?_⟩
              refine ⟨_, rfl, Or.inl ⟨rfl, _, SqL.of hp5⟩, _, rfl, _, rfl, small' (by show 3 ≤ 1000000; decide), fun q H6 n6 s6 h6 => ⟨_, _, _, rfl, rfl, s6 _ _ hp5, small (by simp at hxl; omega), fun H7 k7 hp7 => ?_⟩⟩
              have hp6 := s6 _ _ hp5
              have tu : Tups H3 H7 := (Tups.of_same s4).trans ((k5.tup1 hp4).trans ((Tups.of_same s6).trans (k7.tup1 hp6)))
              · exact ⟨hi, same_keep1 ((same_keep1 (s3'.trans s4) k5 np).trans s6) k7 np, ⟨_, hp7, by rw [hpn, stepN_form hway, List.reverse_cons]; exact paired_snoc (.form (k7.tup1 hp6 _ _ h6) (hx.mono tu)) (nameds_mono hxs' tu)⟩, _, _, _, _, _, _, _, _, rfl⟩
          case emp =>
            have hS0 : S = [] := by
              cases S with
              | nil => rfl
              | cons t r =>
                rw [List.reverse_cons] at hxs3
                obtain ⟨xs', x, rfl, hxs', hx⟩ := paired_snoc_inv hxs3
                exact absurd hE (by simp)
            have hp4 := s4 _ _ hp3
            have s4' := s3'.trans s4
            have hxs4 : Paired (NamedAt H4) xs S.reverse := nameds_mono hxs3 (.of_same s4)
            have hnm : stepN S (ns.getD i 0 % 5) wd = .name wd :: S := stepN_name (fun _ => hS0) fun _ => by rw [hS0]; exact Nat.zero_le _
            refine ⟨_, rfl, rfl, _, rfl, ifF (fun z => by have := V.int.inj z; omega) (iteF ?_)⟩
            refine ⟨_, rfl, Or.inl ⟨rfl, _, SqL.of hp4⟩, _, rfl, small' (by show 2 ≤ 1000000; decide), fun q H6 n6 s6 h6 => ⟨_, _, _, rfl, rfl, s6 _ _ hp4, small (by omega), fun H7 k7 hp7 => ?_⟩⟩
            have hp6 := s6 _ _ hp4
            exact ⟨hi, same_keep1 (s4'.trans s6) k7 np, ⟨_, hp7, by rw [hpn, hnm, List.reverse_cons]; exact paired_snoc (.name (k7.tup1 hp6 _ _ h6)) (nameds_mono hxs4 ((Tups.of_same s6).trans (k7.tup1 hp6)))⟩, _, _, _, _, _, _, _, _, rfl⟩
        case C =>
          have hp4 := hp3
          have s4' := s3'
          have hxs4 := hxs3
          refine iteF ⟨_, rfl, rfl, _, rfl, ifD (fun h4 => ⟨_, rfl, _, _, rfl, Or.inl (SqL.of hp3), _, _, rfl, rfl, _, rfl, ifD (fun hC => ?call) (fun hC => ?leaf2)⟩) (fun h4 => iteF ?leaf3)⟩
          case call =>
            have hC' : 1 < xs.length := by have : (1 : Int) < (xs.length : Int) := hC; omega
            have hlen := Paired.length hxs3
            rw [List.length_reverse] at hlen
            match S, hxs3, hlen, hpn, hokS, hszS with
            | [], _, hlen, _, _, _ => rw [hlen] at hC'; simp at hC'
            | [_], _, hlen, _, _, _ => rw [hlen] at hC'; simp at hC'
            | tb :: ta :: r, hxs3, hlen, hpn, hokS, hszS =>
              rw [List.reverse_cons, List.reverse_cons] at hxs3
              obtain ⟨xs1, x1, rfl, hxs1, hx1⟩ := paired_snoc_inv hxs3
              obtain ⟨xs2, x2', rfl, hxs2, hx2⟩ := paired_snoc_inv hxs1
              refine ⟨_, rfl, Or.inl ⟨rfl, _, SqL.of hp3⟩, _, _, _, rfl, rfl, hp3, fun H5 k5 hp5 => ⟨_, rfl, Or.inl ⟨rfl, _, SqL.of hp5⟩, _, _, _, rfl, rfl, hp5, fun H6 k6 hp6 => ?_⟩⟩
              refine ⟨_, rfl, Or.inl ⟨rfl, _, SqL.of hp6⟩, _, rfl, _, rfl, small' (by show 3 ≤ 1000000; decide), fun q H7 n7 s7 h7 => ⟨_, _, _, rfl, rfl, s7 _ _ hp6, small (by simp at hxl; omega), fun H8 k8 hp8 => ?_⟩⟩
              have hp7 := s7 _ _ hp6
              have tu : Tups H3 H8 := (k5.tup1 hp3).trans ((k6.tup1 hp5).trans ((Tups.of_same s7).trans (k8.tup1 hp7)))
              · exact ⟨hi, same_keep1 ((same_keep1 (same_keep1 s4' k5 np) k6 np).trans s7) k8 np, ⟨_, hp8, by rw [hpn, stepN_call (V.int.inj h4), List.reverse_cons]; exact paired_snoc (.call (k8.tup1 hp7 _ _ h7) (hx2.mono tu) (hx1.mono tu)) (nameds_mono hxs2 tu)⟩, _, _, _, _, _, _, _, _, rfl⟩
          case leaf2 =>
            have hnm : stepN S (ns.getD i 0 % 5) wd = .name wd :: S := stepN_name (fun z => by rcases z with z | z; exact absurd (congrArg V.int z) h2; exact absurd (congrArg V.int z) h3) fun _ => by
              have hC' : ¬ 1 < xs.length := fun z => hC (show (1 : Int) < (xs.length : Int) by omega)
              have hlen := Paired.length hxs3
              rw [List.length_reverse] at hlen
              omega
            refine ⟨_, rfl, Or.inl ⟨rfl, _, SqL.of hp4⟩, _, rfl, small' (by show 2 ≤ 1000000; decide), fun q H6 n6 s6 h6 => ⟨_, _, _, rfl, rfl, s6 _ _ hp4, small (by omega), fun H7 k7 hp7 => ?_⟩⟩
            have hp6 := s6 _ _ hp4
            exact ⟨hi, same_keep1 (s4'.trans s6) k7 np, ⟨_, hp7, by rw [hpn, hnm, List.reverse_cons]; exact paired_snoc (.name (k7.tup1 hp6 _ _ h6)) (nameds_mono hxs4 ((Tups.of_same s6).trans (k7.tup1 hp6)))⟩, _, _, _, _, _, _, _, _, rfl⟩
          case leaf3 =>
            have hnm : stepN S (ns.getD i 0 % 5) wd = .name wd :: S := stepN_name (fun z => by rcases z with z | z; exact absurd (congrArg V.int z) h2; exact absurd (congrArg V.int z) h3) fun z => absurd (congrArg V.int z) h4
            refine ⟨_, rfl, Or.inl ⟨rfl, _, SqL.of hp4⟩, _, rfl, small' (by show 2 ≤ 1000000; decide), fun q H6 n6 s6 h6 => ⟨_, _, _, rfl, rfl, s6 _ _ hp4, small (by omega), fun H7 k7 hp7 => ?_⟩⟩
            have hp6 := s6 _ _ hp4
            exact ⟨hi, same_keep1 (s4'.trans s6) k7 np, ⟨_, hp7, by rw [hpn, hnm, List.reverse_cons]; exact paired_snoc (.name (k7.tup1 hp6 _ _ h6)) (nameds_mono hxs4 ((Tups.of_same s6).trans (k7.tup1 hp6)))⟩, _, _, _, _, _, _, _, _, rfl⟩
    · rintro σ H2 ⟨_, s2, ⟨xs, hp2, hxs⟩, x2, x3, x4, x5, x6, x7, x8, x9, rfl⟩
      have hxl : xs.length ≤ 63 := by
        rw [Paired.length hxs, List.length_reverse]
        have h1 := len_sizesN (pileN ns ns.length)
        have h2 := pile_size ns ns.length
        omega
      have hsz := pile_size ns ns.length
      have hln := len_sizesN (pileN ns ns.length)
      refine ⟨_, rfl, small' (by simp), fun e0 H3 n3 s3 h3 => ⟨_, _, _, rfl, rfl, SqL.of (s3 _ _ hp2), SqL.of h3, _, rfl, ifB
        (fun hE => ⟨_, rfl, Or.inl ⟨rfl, _, SqL.of (s3 _ _ hp2)⟩, small' (by simp), fun q H4 n4 s4 h4 => ⟨_, _, _, rfl, rfl, s4 _ _ (s3 _ _ hp2), ?len, fun H5 k5 hp5 => have hI : ∃ n, InvM__law_wordy H p ns H5 n := ?hi1; ?w1⟩⟩) (fun hE => have hI : ∃ n, InvM__law_wordy H p ns H3 n := ?hi2; ?w2)⟩⟩
      case len =>
        have e : xs = [] := List.isEmpty_iff.mp (by simpa using hE)
        rw [e]
        exact small (by simp)
      case hi1 =>
        have e : xs = [] := List.isEmpty_iff.mp (by simpa using hE)
        subst e
        have e0 : pileN ns ns.length = [] := by
          have := Paired.length hxs
          rw [List.length_reverse] at this
          exact List.length_eq_zero_iff.mp this.symm
        refine ⟨1, _, [.name (Str.ofString "sab")], same_keep1 ((s2.trans s3).trans s4) k5 np, hp5, .cons (.name (k5.tup1 (s4 _ _ (s3 _ _ hp2)) _ _ h4)) .nil, by unfold wordyT; rw [e0]; rfl, by simp, fun t ht => ?_, (show 1 + 0 + 1 ≤ 200 by decide), rfl⟩
        rw [List.mem_singleton.mp ht]
        exact wd_sab
      case hi2 =>
        refine ⟨_, xs, pileN ns ns.length, s2.trans s3, s3 _ _ hp2, nameds_mono hxs (.of_same s3), rfl, fun z => ?_, pile_ok ns _, by omega, rfl⟩
        rw [z] at hxs
        cases paired_nil hxs
        exact absurd hE (by simp)
      case w1 | w2 =>
        refine ⟨fun m σ H' => InvM__law_wordy H p ns H' m ∧ ∃ x2 x3 x4 x5 x6 x7 x8 x9, σ = [some (.ref a), some (.ref p), x2, x3, x4, x5, x6, x7, x8, x9], ?_, ?_⟩
        · obtain ⟨n, hI⟩ := hI
          exact ⟨n, hI, _, _, _, _, _, _, _, _, rfl⟩
        · rintro m σ H6 ⟨⟨xs, S, s6, hp6, hxs6, hcl, hne, hok, hsum, rfl⟩, x2, x3, x4, x5, x6, x7, x8, x9, rfl⟩
          have hlen := Paired.length hxs6
          rw [List.length_reverse] at hlen
          refine ⟨_, rfl, _, _, rfl, Or.inl (SqL.of hp6), _, _, rfl, rfl, _, rfl, ifD (fun hC => ?_) (fun hC => ?_)⟩
          · have hC' : 1 < xs.length := by have : (1 : Int) < (xs.length : Int) := hC; omega
            match S, hxs6, hlen, hcl, hok, hsum with
            | [], _, hlen, _, _, _ => rw [hlen] at hC'; simp at hC'
            | [_], _, hlen, _, _, _ => rw [hlen] at hC'; simp at hC'
            | tb :: ta :: r, hxs3, hlen, hcl, hok, hsum =>
              refine ⟨fun σ' H' => ∃ m', m' < (tb :: ta :: r).length ∧ (InvM__law_wordy H p ns H' m' ∧ ∃ x2 x3 x4 x5 x6 x7 x8 x9, σ' = [some (.ref a), some (.ref p), x2, x3, x4, x5, x6, x7, x8, x9]), fun _ _ h => h, ?_⟩
              rw [List.reverse_cons, List.reverse_cons] at hxs3
              obtain ⟨xs1, x1, rfl, hxs1, hx1⟩ := paired_snoc_inv hxs3
              obtain ⟨xs2, x2', rfl, hxs2, hx2⟩ := paired_snoc_inv hxs1
              have hxl : xs2.length ≤ 200 := by simp at hlen; simp at hsum; omega
              have hokS := hok
              have hszS : sizesN (tb :: ta :: r) ≤ 200 := by omega
              refine ⟨_, rfl, Or.inl ⟨rfl, _, SqL.of hp6⟩, _, _, _, rfl, rfl, hp6, fun H7 k7 hp7 => ⟨_, rfl, Or.inl ⟨rfl, _, SqL.of hp7⟩, _, _, _, rfl, rfl, hp7, fun H8 k8 hp8 => ?_⟩⟩
              refine ⟨_, rfl, Or.inl ⟨rfl, _, SqL.of hp8⟩, _, rfl, _, rfl, small' (by simp), fun q9 H9 n9 s9 h9 => ⟨_, _, _, rfl, rfl, s9 _ _ hp8, small (by omega), fun H10 k10 hp10 => ?_⟩⟩
              have hp9 := s9 _ _ hp8
              have tu : Tups H6 H10 := ((k7.tup1 hp6).trans (k8.tup1 hp7)).trans ((Tups.of_same s9).trans (k10.tup1 hp9))
              · refine ⟨r.length + 1, by simp, ⟨_, .call ta tb :: r, same_keep1 ((same_keep1 (same_keep1 s6 k7 np) k8 np).trans s9) k10 np, hp10, by rw [List.reverse_cons]; exact paired_snoc (.call (k10.tup1 hp9 _ _ h9) (hx2.mono tu) (hx1.mono tu)) (nameds_mono hxs2 tu), by rw [← closeN_call]; exact hcl, by simp, fun t ht => ?_, ?_, rfl⟩, _, _, _, _, _, _, _, _, rfl⟩
                · rcases List.mem_cons.mp ht with rfl | ht
                  · exact ⟨hok ta (by simp), hok tb (by simp)⟩
                  · exact hok t (List.mem_cons_of_mem _ (List.mem_cons_of_mem _ ht))
                · simp only [sizesN, List.map_cons, List.sum_cons, NT.size, List.length_cons] at hsum ⊢
                  omega
          · have hC' : ¬ 1 < xs.length := fun z => hC (show (1 : Int) < (xs.length : Int) by omega)
            match S, hxs6, hlen, hcl, hne with
            | [t], .cons (a := x) (l₁ := r) hx hr, _, hcl, _ =>
              cases hr
              have hcl : t = wordyT ns := hcl
              subst hcl
              exact ⟨_, rfl, _, _, _, _, rfl, rfl, SqL.of hp6, at0, k _ H6 s6 hx⟩
            | _ :: _ :: _, _, hlen, _, _ => exact absurd hC' (by rw [hlen]; simp)
            | [], _, _, _, hne => exact absurd rfl hne
def InvM__law_lined (H : Hp) (p : Addr) (ns : List Int) (H' : Hp) (n : Nat) : Prop := ∃ xs S, Same H H' ∧ H' p = some (.lst xs) ∧ Paired (fun v t => v = V.str (lineS t)) xs S.reverse ∧ closeN S = wordyT ns ∧ S ≠ [] ∧ (∀ t ∈ S, t.ok) ∧ sizesN S + S.length ≤ 200 ∧ n = S.length
theorem ok__law_lined {f : Addr} {fd : FuncData} (F : Fun K "_law_lined" "_law_lined" s__law_lined f fd) (N_ : NoNames mg) (G__law_any_word : GF P w K mg base CX0 1 "_law_any_word" ["_law_cell"] sp_any_wordF) :
    FnOk P w K mg base CX0 2 f fd ["_law_cells"] (sp_lined K) := by
  refine F.ok sc__law_lined (fun vs H Q E h => ?_) (fun cdv A outer s H vs Q E hr h => ?_)
  · obtain ⟨a, ns, rfl, _⟩ := h
    rfl
  · obtain ⟨a, ns, rfl, hS, hl, k⟩ := h
    have hu0 := hr.units0
    refine ⟨_, (pss_cons (ps_set (i := 1) sc__law_lined.nd rfl (Or.inl rfl) (pLst pa_nil))
      (pss_cons (ps_for PassesOwn.never rfl (pi_range1 rfl N_.range (pa_c (pCB call_len_seq (by rfl) N_.len boot_len (pa_c (pv 0) pa_nil)) pa_nil)) (pg_name (i := 2) sc__law_lined.nd rfl (Or.inl rfl)) (pss_cons (ps_set (i := 3) sc__law_lined.nd rfl (Or.inl rfl) (pe_ix ix_list (pv 0) (pv 2) (fun _ _ => rfl)))
      (pss_cons (ps_set (i := 4) sc__law_lined.nd rfl (Or.inl rfl) (pe_op op_mod (pv 3) pe_int))
      (pss_cons (ps_set (i := 5) sc__law_lined.nd rfl (Or.inl rfl) (pe_ix ix_str pe_str (pe_op op_mod (pe_ix ix_list (pv 0) (pe_op op_mod (pe_op op_add (pv 2) pe_int) (pCB call_len_seq (by rfl) N_.len boot_len (pa_c (pv 0) pa_nil))) (fun _ _ => rfl)) pe_int) (fun _ _ => rfl)))
      (pss_cons (ps_set (i := 6) sc__law_lined.nd rfl (Or.inl rfl) (pe_ix ix_list (pLst (pa_c pe_str (pa_c pe_str (pa_c pe_str (pa_c pe_str (pa_c (pv 5) pa_nil)))))) (pe_op op_mod (pe_op op_fdiv (pv 3) pe_int) pe_int) (fun _ _ => rfl)))
      (pss_cons (ps_if (pt_cmpR op_eq (pe_op op_mod (pv 3) pe_int) pe_int (nomark _)) (pss_one (ps_set (i := 6) sc__law_lined.nd rfl (Or.inl rfl) (pe_gf G__law_any_word (hr.mono (by decide)) rfl pass0 (pa_c (pe_op op_fdiv (pv 3) pe_int) pa_nil)))) pss_nil)
      (pss_one (ps_if (PW.pt (pw_and (PW.pt (pw_or (pt_cmpR op_eq (pv 4) pe_int (nomark _)) (pw_or1 (pt_cmpR op_eq (pv 4) pe_int (nomark _))))) (pw_and1 (pt_cmpR (op_neNil hu0) (pv 1) (pLst pa_nil) (nomark _))))) (pss_cons (ps_set (i := 7) sc__law_lined.nd rfl (Or.inl rfl) (pPop (pv 1)))
      (pss_one (ps_expr (pApp (pv 1) (pe_op op_add_str (pe_op op_add_str (pv 6) pe_str) (pv 7)))))) (pss_one (ps_if (PW.pt (pw_and (pt_cmpR op_eq (pv 4) pe_int (nomark _)) (pw_and1 (pt_cmpR op_gt (pCB call_len_seq (by rfl) N_.len boot_len (pa_c (pv 1) pa_nil)) pe_int (nomark _))))) (pss_cons (ps_set (i := 8) sc__law_lined.nd rfl (Or.inl rfl) (pPop (pv 1)))
      (pss_cons (ps_set (i := 9) sc__law_lined.nd rfl (Or.inl rfl) (pPop (pv 1)))
      (pss_one (ps_expr (pApp (pv 1) (pe_op op_add_str (pe_op op_add_str (pe_op op_add_str (pe_op op_add_str pe_str (pv 9)) pe_str) (pv 8)) pe_str)))))) (pss_one (ps_expr (pApp (pv 1) (pv 6))))))))))))))
      (pss_cons (ps_if (pt_cmpR (op_eqNil hu0) (pv 1) (pLst pa_nil) (nomark _)) (pss_one (ps_expr (pApp (pv 1) pe_str))) pss_nil)
      (pss_cons (ps_while PassesOwn.never (pt_cmpR op_gt (pCB call_len_seq (by rfl) N_.len boot_len (pa_c (pv 1) pa_nil)) pe_int (nomark _)) (pss_cons (ps_set (i := 8) sc__law_lined.nd rfl (Or.inl rfl) (pPop (pv 1)))
      (pss_cons (ps_set (i := 9) sc__law_lined.nd rfl (Or.inl rfl) (pPop (pv 1)))
      (pss_one (ps_expr (pApp (pv 1) (pe_op op_add_str (pe_op op_add_str (pe_op op_add_str (pe_op op_add_str pe_str (pv 9)) pe_str) (pv 8)) pe_str)))))))
      (pss_one (ps_ret (pe_ix ix_list (pv 1) pe_int (fun _ _ => rfl)))))))), ?_⟩
    refine ⟨small' (by simp), fun p H1 np s1 hp1 => ?_⟩
    have hnl : (ns.map V.int).length = ns.length := List.length_map _
    refine ⟨_, rfl, _, _, rfl, Or.inl (s1.seq hS), _, rfl, ?_, ?_, ?_⟩
    · rw [hnl]; omega
    · rw [hnl]; omega
    rw [show (((ns.map V.int).length : Nat) : Int).toNat = ns.length by rw [hnl]; omega]
    refine for_range (fun i σ H' => i ≤ ns.length ∧ Same H H' ∧ (∃ xs, H' p = some (.lst xs) ∧ Paired (fun v t => v = V.str (lineS t)) xs (pileN ns i).reverse) ∧ ∃ x2 x3 x4 x5 x6 x7 x8 x9, σ = [some (.ref a), some (.ref p), x2, x3, x4, x5, x6, x7, x8, x9]) ⟨Nat.zero_le _, s1, ⟨[], hp1, .nil⟩, _, _, _, _, _, _, _, _, rfl⟩ ?_ ?_
    · rintro i σ H2 hi ⟨_, s2, ⟨xs, hp2, hxs⟩, x2, x3, x4, x5, x6, x7, x8, x9, rfl⟩
      have hS2 := s2.seq hS
      have hxl : xs.length ≤ 63 := by
        rw [Paired.length hxs, List.length_reverse]
        have h1 := len_sizesN (pileN ns i)
        have h2 := pile_size ns i
        omega
      have hln : 0 < ns.length := by omega
      have hmod : (i + 1) % ns.length < ns.length := Nat.mod_lt _ hln
      -- cell, way, letter, word
      refine ⟨_, rfl, _, rfl, _, _, _, _, rfl, rfl, hS2, (by rw [Int.zero_add]; exact at_map hi), ?_⟩
      refine ⟨_, rfl, _, _, rfl, rfl, (show (0 : Int) < 5 by decide), ?_⟩
      refine ⟨_, rfl, _, rfl, _, _, rfl, rfl, _, rfl, _, _, rfl, Or.inl hS2, _, _, rfl, rfl, (by rw [hnl]; omega), _, _, _, _, rfl, rfl, hS2, (by
        rw [hnl, Int.zero_add, show ((i : Int) + 1) % (ns.length : Int) = (((i + 1) % ns.length : Nat) : Int) by rw [Int.natCast_emod]; rfl]
        exact at_map hmod), _, _, rfl, rfl, (show (0 : Int) < 26 by decide), _, _, _, rfl, rfl, small' (by decide +kernel), at_letter _, ?_⟩
      refine ⟨_, rfl, small' (by show 5 ≤ 1000000; decide), fun q3 H3 n3 s3 h3 => ⟨_, rfl, _, _, rfl, rfl, ⟨by decide, by decide⟩, _, _, rfl, rfl, (show (0 : Int) < 5 by decide), _, _, _, _, rfl, rfl, SqL.of h3, at_menu (letterS (ns.getD ((i + 1) % ns.length) 0)) (ns.getD i 0 / 5), ?_⟩⟩
      have s3' := s2.trans s3
      have hp3 := s3 _ _ hp2
      have hxs3 : Paired (fun v t => v = V.str (lineS t)) xs (pileN ns i).reverse := hxs
      have hpn : pileN ns (i + 1) = stepN (pileN ns i) (ns.getD i 0 % 5) (wordAt ns i) := rfl
      refine ⟨_, rfl, _, _, rfl, rfl, (show (0 : Int) < 11 by decide), rfl, _, rfl, ifD (fun e11 => ⟨_, rfl, _, _, rfl, rfl, ⟨by decide, by decide⟩, _, rfl, ?thn⟩) (fun e11 => ?els)⟩
      case thn | els =>
        first | rw [word_then e11] | rw [word_else e11]
        have hwd := wd_wordAt ns i
        generalize wordAt ns i = wd at hwd hpn
        generalize hgS : pileN ns i = S at hpn hxs3
        have hokS : ∀ t ∈ S, t.ok := by rw [← hgS]; exact pile_ok ns i
        have hszS : sizesN S ≤ 63 := by rw [← hgS]; have := pile_size ns i; omega
        refine ⟨_, rfl, rfl, _, rfl, ifD (fun h2 => iteT ?A) (fun h2 => ⟨_, rfl, rfl, _, rfl, ifD (fun h3 => ?B) (fun h3 => ?C)⟩)⟩
        case A | B =>
          have hway : ns.getD i 0 % 5 = 2 ∨ ns.getD i 0 % 5 = 3 := by first | exact .inr (V.int.inj h3) | exact .inl (V.int.inj h2)
          refine ⟨_, rfl, small' (by simp), fun e0 H4 n4 s4 h4 => ⟨_, _, _, rfl, rfl, SqL.of (s4 _ _ hp3), SqL.of h4, _, rfl, ifB (fun hE => ?form) (fun hE => ?emp)⟩⟩
          case form =>
            have hp4 := s4 _ _ hp3
            cases S with
            | nil =>
              cases paired_nil hxs3
              exact absurd hE (by simp)
            | cons t r =>
              rw [List.reverse_cons] at hxs3
              obtain ⟨xs', x, rfl, hxs', hx⟩ := paired_snoc_inv hxs3
              have ht : (lineS t).length ≤ 7000 := by have h1 := lineS_len (hokS t (by simp)); have h2 := mem_sizesN (S := t :: r) (t := t) (by simp); omega
              have hwl : wd.length ≤ 100 := hwd.2.1
              have hx : x = V.str (lineS t) := hx
              subst hx
              refine ⟨_, rfl, Or.inl ⟨rfl, _, SqL.of hp4⟩, _, _, _, rfl, rfl, hp4, fun H5 k5 hp5 => ?_⟩
              refine ⟨_, rfl, Or.inl ⟨rfl, _, SqL.of hp5⟩, _, rfl, _, _, rfl, rfl, small' (by show wd.length + 1 ≤ _; omega), _, rfl, _, _, rfl, rfl, small' (by rw [Str.length_append]; show wd.length + 1 + (lineS t).length ≤ _; omega), _, _, _, rfl, rfl, hp5, small (by simp at hxl; omega), fun H7 k7 hp7 => ?_⟩
              · exact ⟨hi, same_keep1 ((same_keep1 (s3'.trans s4) k5 np)) k7 np, ⟨_, hp7, by rw [hpn, stepN_form hway, List.reverse_cons]; exact paired_snoc (by rw [lineS_form]) (hxs')⟩, _, _, _, _, _, _, _, _, rfl⟩
          case emp =>
            have hS0 : S = [] := by
              cases S with
              | nil => rfl
              | cons t r =>
                rw [List.reverse_cons] at hxs3
                obtain ⟨xs', x, rfl, hxs', hx⟩ := paired_snoc_inv hxs3
                exact absurd hE (by simp)
            have hp4 := s4 _ _ hp3
            have s4' := s3'.trans s4
            have hxs4 : Paired (fun v t => v = V.str (lineS t)) xs S.reverse := hxs3
            have hnm : stepN S (ns.getD i 0 % 5) wd = .name wd :: S := stepN_name (fun _ => hS0) fun _ => by rw [hS0]; exact Nat.zero_le _
            refine ⟨_, rfl, rfl, _, rfl, ifF (fun z => by have := V.int.inj z; omega) (iteF ?_)⟩
            refine ⟨_, rfl, Or.inl ⟨rfl, _, SqL.of hp4⟩, _, rfl, _, _, _, rfl, rfl, hp4, small (by omega), fun H7 k7 hp7 => ?_⟩
            exact ⟨hi, same_keep1 s4' k7 np, ⟨_, hp7, by rw [hpn, hnm, List.reverse_cons]; exact paired_snoc (by rw [lineS_name]) hxs4⟩, _, _, _, _, _, _, _, _, rfl⟩
        case C =>
          have hp4 := hp3
          have s4' := s3'
          have hxs4 := hxs3
          refine iteF ⟨_, rfl, rfl, _, rfl, ifD (fun h4 => ⟨_, rfl, _, _, rfl, Or.inl (SqL.of hp3), _, _, rfl, rfl, _, rfl, ifD (fun hC => ?call) (fun hC => ?leaf2)⟩) (fun h4 => iteF ?leaf3)⟩
          case call =>
            have hC' : 1 < xs.length := by have : (1 : Int) < (xs.length : Int) := hC; omega
            have hlen := Paired.length hxs3
            rw [List.length_reverse] at hlen
            match S, hxs3, hlen, hpn, hokS, hszS with
            | [], _, hlen, _, _, _ => rw [hlen] at hC'; simp at hC'
            | [_], _, hlen, _, _, _ => rw [hlen] at hC'; simp at hC'
            | tb :: ta :: r, hxs3, hlen, hpn, hokS, hszS =>
              rw [List.reverse_cons, List.reverse_cons] at hxs3
              obtain ⟨xs1, x1, rfl, hxs1, hx1⟩ := paired_snoc_inv hxs3
              obtain ⟨xs2, x2', rfl, hxs2, hx2⟩ := paired_snoc_inv hxs1
              have hta : (lineS ta).length ≤ 7000 := by have h1 := lineS_len (hokS ta (by simp)); have h2 := mem_sizesN (S := tb :: ta :: r) (t := ta) (by simp); omega
              have htb : (lineS tb).length ≤ 7000 := by have h1 := lineS_len (hokS tb (by simp)); have h2 := mem_sizesN (S := tb :: ta :: r) (t := tb) (by simp); omega
              have hx1 : x1 = V.str (lineS tb) := hx1
              have hx2 : x2' = V.str (lineS ta) := hx2
              subst hx1 hx2
              refine ⟨_, rfl, Or.inl ⟨rfl, _, SqL.of hp3⟩, _, _, _, rfl, rfl, hp3, fun H5 k5 hp5 => ⟨_, rfl, Or.inl ⟨rfl, _, SqL.of hp5⟩, _, _, _, rfl, rfl, hp5, fun H6 k6 hp6 => ?_⟩⟩
              refine ⟨_, rfl, Or.inl ⟨rfl, _, SqL.of hp6⟩, _, rfl, _, _, rfl, rfl, small' (by show 1 + (lineS ta).length ≤ _; omega), _, _, rfl, rfl, small' (by rw [Str.length_append]; show 1 + (lineS ta).length + 1 ≤ _; omega), _, rfl, _, _, rfl, rfl, small' (by rw [Str.length_append, Str.length_append]; show 1 + (lineS ta).length + 1 + (lineS tb).length ≤ _; omega), _, _, rfl, rfl, small' (by rw [Str.length_append, Str.length_append, Str.length_append]; show 1 + (lineS ta).length + 1 + (lineS tb).length + 1 ≤ _; omega), _, _, _, rfl, rfl, hp6, small (by simp at hxl; omega), fun H8 k8 hp8 => ?_⟩
              · exact ⟨hi, same_keep1 ((same_keep1 (same_keep1 s4' k5 np) k6 np)) k8 np, ⟨_, hp8, by rw [hpn, stepN_call (V.int.inj h4), List.reverse_cons]; exact paired_snoc (by rw [lineS_call]) (hxs2)⟩, _, _, _, _, _, _, _, _, rfl⟩
          case leaf2 =>
            have hnm : stepN S (ns.getD i 0 % 5) wd = .name wd :: S := stepN_name (fun z => by rcases z with z | z; exact absurd (congrArg V.int z) h2; exact absurd (congrArg V.int z) h3) fun _ => by
              have hC' : ¬ 1 < xs.length := fun z => hC (show (1 : Int) < (xs.length : Int) by omega)
              have hlen := Paired.length hxs3
              rw [List.length_reverse] at hlen
              omega
            refine ⟨_, rfl, Or.inl ⟨rfl, _, SqL.of hp4⟩, _, rfl, _, _, _, rfl, rfl, hp4, small (by omega), fun H7 k7 hp7 => ?_⟩
            exact ⟨hi, same_keep1 s4' k7 np, ⟨_, hp7, by rw [hpn, hnm, List.reverse_cons]; exact paired_snoc (by rw [lineS_name]) hxs4⟩, _, _, _, _, _, _, _, _, rfl⟩
          case leaf3 =>
            have hnm : stepN S (ns.getD i 0 % 5) wd = .name wd :: S := stepN_name (fun z => by rcases z with z | z; exact absurd (congrArg V.int z) h2; exact absurd (congrArg V.int z) h3) fun z => absurd (congrArg V.int z) h4
            refine ⟨_, rfl, Or.inl ⟨rfl, _, SqL.of hp4⟩, _, rfl, _, _, _, rfl, rfl, hp4, small (by omega), fun H7 k7 hp7 => ?_⟩
            exact ⟨hi, same_keep1 s4' k7 np, ⟨_, hp7, by rw [hpn, hnm, List.reverse_cons]; exact paired_snoc (by rw [lineS_name]) hxs4⟩, _, _, _, _, _, _, _, _, rfl⟩
    · rintro σ H2 ⟨_, s2, ⟨xs, hp2, hxs⟩, x2, x3, x4, x5, x6, x7, x8, x9, rfl⟩
      have hxl : xs.length ≤ 63 := by
        rw [Paired.length hxs, List.length_reverse]
        have h1 := len_sizesN (pileN ns ns.length)
        have h2 := pile_size ns ns.length
        omega
      have hsz := pile_size ns ns.length
      have hln := len_sizesN (pileN ns ns.length)
      refine ⟨_, rfl, small' (by simp), fun e0 H3 n3 s3 h3 => ⟨_, _, _, rfl, rfl, SqL.of (s3 _ _ hp2), SqL.of h3, _, rfl, ifB
        (fun hE => ⟨_, rfl, Or.inl ⟨rfl, _, SqL.of (s3 _ _ hp2)⟩, _, _, _, rfl, rfl, s3 _ _ hp2, ?len, fun H5 k5 hp5 => have hI : ∃ n, InvM__law_lined H p ns H5 n := ?hi1; ?w1⟩) (fun hE => have hI : ∃ n, InvM__law_lined H p ns H3 n := ?hi2; ?w2)⟩⟩
      case len =>
        have e : xs = [] := List.isEmpty_iff.mp (by simpa using hE)
        rw [e]
        exact small (by simp)
      case hi1 =>
        have e : xs = [] := List.isEmpty_iff.mp (by simpa using hE)
        subst e
        have e0 : pileN ns ns.length = [] := by
          have := Paired.length hxs
          rw [List.length_reverse] at this
          exact List.length_eq_zero_iff.mp this.symm
        refine ⟨1, _, [.name (Str.ofString "sab")], same_keep1 (s2.trans s3) k5 np, hp5, .cons (by rw [lineS_name]) .nil, by unfold wordyT; rw [e0]; rfl, by simp, fun t ht => ?_, (show 1 + 0 + 1 ≤ 200 by decide), rfl⟩
        rw [List.mem_singleton.mp ht]
        exact wd_sab
      case hi2 =>
        refine ⟨_, xs, pileN ns ns.length, s2.trans s3, s3 _ _ hp2, hxs, rfl, fun z => ?_, pile_ok ns _, by omega, rfl⟩
        rw [z] at hxs
        cases paired_nil hxs
        exact absurd hE (by simp)
      case w1 | w2 =>
        refine ⟨fun m σ H' => InvM__law_lined H p ns H' m ∧ ∃ x2 x3 x4 x5 x6 x7 x8 x9, σ = [some (.ref a), some (.ref p), x2, x3, x4, x5, x6, x7, x8, x9], ?_, ?_⟩
        · obtain ⟨n, hI⟩ := hI
          exact ⟨n, hI, _, _, _, _, _, _, _, _, rfl⟩
        · rintro m σ H6 ⟨⟨xs, S, s6, hp6, hxs6, hcl, hne, hok, hsum, rfl⟩, x2, x3, x4, x5, x6, x7, x8, x9, rfl⟩
          have hlen := Paired.length hxs6
          rw [List.length_reverse] at hlen
          refine ⟨_, rfl, _, _, rfl, Or.inl (SqL.of hp6), _, _, rfl, rfl, _, rfl, ifD (fun hC => ?_) (fun hC => ?_)⟩
          · have hC' : 1 < xs.length := by have : (1 : Int) < (xs.length : Int) := hC; omega
            match S, hxs6, hlen, hcl, hok, hsum with
            | [], _, hlen, _, _, _ => rw [hlen] at hC'; simp at hC'
            | [_], _, hlen, _, _, _ => rw [hlen] at hC'; simp at hC'
            | tb :: ta :: r, hxs3, hlen, hcl, hok, hsum =>
              refine ⟨fun σ' H' => ∃ m', m' < (tb :: ta :: r).length ∧ (InvM__law_lined H p ns H' m' ∧ ∃ x2 x3 x4 x5 x6 x7 x8 x9, σ' = [some (.ref a), some (.ref p), x2, x3, x4, x5, x6, x7, x8, x9]), fun _ _ h => h, ?_⟩
              rw [List.reverse_cons, List.reverse_cons] at hxs3
              obtain ⟨xs1, x1, rfl, hxs1, hx1⟩ := paired_snoc_inv hxs3
              obtain ⟨xs2, x2', rfl, hxs2, hx2⟩ := paired_snoc_inv hxs1
              have hxl : xs2.length ≤ 200 := by simp at hlen; simp at hsum; omega
              have hokS := hok
              have hszS : sizesN (tb :: ta :: r) ≤ 200 := by omega
              have hta : (lineS ta).length ≤ 30000 := by have h1 := lineS_len (hokS ta (by simp)); have h2 := mem_sizesN (S := tb :: ta :: r) (t := ta) (by simp); omega
              have htb : (lineS tb).length ≤ 30000 := by have h1 := lineS_len (hokS tb (by simp)); have h2 := mem_sizesN (S := tb :: ta :: r) (t := tb) (by simp); omega
              have hx1 : x1 = V.str (lineS tb) := hx1
              have hx2 : x2' = V.str (lineS ta) := hx2
              subst hx1 hx2
              refine ⟨_, rfl, Or.inl ⟨rfl, _, SqL.of hp6⟩, _, _, _, rfl, rfl, hp6, fun H7 k7 hp7 => ⟨_, rfl, Or.inl ⟨rfl, _, SqL.of hp7⟩, _, _, _, rfl, rfl, hp7, fun H8 k8 hp8 => ?_⟩⟩
              refine ⟨_, rfl, Or.inl ⟨rfl, _, SqL.of hp8⟩, _, rfl, _, _, rfl, rfl, small' (by show 1 + (lineS ta).length ≤ _; omega), _, _, rfl, rfl, small' (by rw [Str.length_append]; show 1 + (lineS ta).length + 1 ≤ _; omega), _, rfl, _, _, rfl, rfl, small' (by rw [Str.length_append, Str.length_append]; show 1 + (lineS ta).length + 1 + (lineS tb).length ≤ _; omega), _, _, rfl, rfl, small' (by rw [Str.length_append, Str.length_append, Str.length_append]; show 1 + (lineS ta).length + 1 + (lineS tb).length + 1 ≤ _; omega), _, _, _, rfl, rfl, hp8, small (by omega), fun H10 k10 hp10 => ?_⟩
              · refine ⟨r.length + 1, by simp, ⟨_, .call ta tb :: r, same_keep1 ((same_keep1 (same_keep1 s6 k7 np) k8 np)) k10 np, hp10, by rw [List.reverse_cons]; exact paired_snoc (by rw [lineS_call]) (hxs2), by rw [← closeN_call]; exact hcl, by simp, fun t ht => ?_, ?_, rfl⟩, _, _, _, _, _, _, _, _, rfl⟩
                · rcases List.mem_cons.mp ht with rfl | ht
                  · exact ⟨hok ta (by simp), hok tb (by simp)⟩
                  · exact hok t (List.mem_cons_of_mem _ (List.mem_cons_of_mem _ ht))
                · simp only [sizesN, List.map_cons, List.sum_cons, NT.size, List.length_cons] at hsum ⊢
                  omega
          · have hC' : ¬ 1 < xs.length := fun z => hC (show (1 : Int) < (xs.length : Int) by omega)
            match S, hxs6, hlen, hcl, hne with
            | [t], .cons (a := x) (l₁ := r) hx hr, _, hcl, _ =>
              cases hr
              have hcl : t = wordyT ns := hcl
              subst hcl
              have hx : x = V.str (lineS (wordyT ns)) := hx
              subst hx
              exact ⟨_, rfl, _, _, _, _, rfl, rfl, SqL.of hp6, at0, k H6 s6⟩
            | _ :: _ :: _, _, hlen, _, _ => exact absurd hC' (by rw [hlen]; simp)
            | [], _, _, _, hne => exact absurd rfl hne
end
end NC
/-! ### the law k09 -/
namespace NC
open PySem PySem.Spec PyProof.Rows L2
theorem for_text {z : Str} {g : TG} {tb : TS} {D : Ends} {σ : L2.St} {H : Hp} (Pv : Nat → L2.St → Hp → Prop) (h0 : Pv 0 σ H)
    (hs : ∀ i c σ H, z.cps[i]? = some c → Pv i σ H → g (.str ⟨#[c]⟩) σ H fun σ2 H2 => tb { D with nx := Pv (i + 1), ct := Pv (i + 1), bk := D.nx } σ2 H2) (hd : ∀ σ H, Pv z.cps.size σ H → D.nx σ H) :
    ∃ W : Nat → Nat → L2.St → Hp → Prop, (∃ m, W 0 m σ H) ∧ ∀ i m σ H, W i m σ H →
      ((Its z).stop i H ∧ D.nx σ H) ∨ ((Its z).go i H ∧ ∃ N : L2.St → Hp → Prop, (∀ σ' H', N σ' H' → ∃ m', m' < m ∧ W (i + 1) m' σ' H') ∧ ∀ x H', (Its z).yld i H x H' → g x σ H' fun σ2 H2 => tb { D with nx := N, ct := N, bk := D.nx } σ2 H2) := by
  refine ⟨fun i m σ H => m = z.cps.size - i ∧ i ≤ z.cps.size ∧ Pv i σ H, ⟨_, rfl, Nat.zero_le _, h0⟩, ?_⟩
  rintro i m σ H ⟨rfl, hi, p⟩
  by_cases hlt : i < z.cps.size
  · refine .inr ⟨hlt, Pv (i + 1), fun σ' H' p' => ⟨z.cps.size - (i + 1), by omega, rfl, hlt, p'⟩, fun x H' y => ?_⟩
    obtain ⟨e, c, hc, e2⟩ := y
    subst e e2
    exact hs i c σ _ hc p
  · have e : i = z.cps.size := by omega
    subst e
    exact .inl ⟨Nat.le_refl _, hd σ H p⟩
def NT.cost2 : NT → Nat
  | .name _ => 1
  | .form _ b => b.cost2 + 2
  | .call a b => a.cost2 + b.cost2 + 1
theorem NT.cost2_le : ∀ t : NT, t.cost2 ≤ 2 * t.size
  | .name _ => by simp [NT.cost2, NT.size]
  | .form _ b => by have := b.cost2_le; simp only [NT.cost2, NT.size]; omega
  | .call a b => by have h1 := a.cost2_le; have h2 := b.cost2_le; simp only [NT.cost2, NT.size]; omega
theorem NT.cost2_pos : ∀ t : NT, 1 ≤ t.cost2
  | .name _ => Nat.le_refl _
  | .form _ b => by simp only [NT.cost2]; omega
  | .call a b => by simp only [NT.cost2]; omega
def sumC (ts : List NT) : Nat := (ts.map NT.cost2).sum
theorem sumC_snoc (ts : List NT) (t : NT) : sumC (ts ++ [t]) = sumC ts + t.cost2 := by
  unfold sumC
  rw [List.map_append, List.sum_append]
  simp
theorem len_sumC : ∀ ts : List NT, ts.length ≤ sumC ts
  | [] => Nat.le_refl _
  | t :: r => by
    have h1 := len_sumC r
    have h2 := t.cost2_pos
    show r.length + 1 ≤ t.cost2 + sumC r
    omega
section
variable {P : Program} {w : World} {K : PySem.W.Frag} {mg : Str → Option Value} {base : Heap}
seal L2.PE L2.PA L2.PT L2.PS L2.PSs L2.PW L2.PG L2.PGs L2.PI L2.PO L2.OpR L2.UnR L2.CallR L2.TruR L2.IxR L2.SlR
abbrev s__law_letters : Stmt := top 10
theorem sc__law_letters : FnScope ["_law_found", "_law_sign"] ["_law_found"] (defScope s__law_letters) := ⟨rfl, rfl, rfl, by decide +kernel, rfl, by decide +kernel, by decide +kernel⟩
def sp_letters : Sp := fun vs H Q _ => ∃ wd, vs = [.str wd] ∧ Wd wd ∧ Q (.bl true) H
theorem ok__law_letters {f : Addr} {fd : FuncData} (F : Fun K "_law_letters" "_law_letters" s__law_letters f fd) (N_ : NoNames mg) : FnOk P w K mg base CX0 1 f fd ["_law_found"] sp_letters := by
  refine F.ok sc__law_letters (fun vs H Q E h => ?_) (fun cdv A outer s H vs Q E hr h => ?_)
  · obtain ⟨wd, rfl, _⟩ := h
    rfl
  · obtain ⟨wd, rfl, hwd, k⟩ := h
    refine ⟨_, (pss_cons (ps_if (PW.pt (pw_or (pt_not (pt_val (pCB call_isi (by rfl) N_.isinstance boot_isinstance (pa_c (pv 0) (pa_c (pe_bltn (v := V.ty "str") rfl N_.str boot_str rfl) pa_nil))))) (pw_or1 (pt_cmpR op_eq (pv 0) pe_str (nomark _))))) (pss_one (ps_ret pe_bl)) pss_nil)
      (pss_cons (ps_for PassesOwn.never rfl (pi_text (pv 0)) (pg_name (i := 1) sc__law_letters.nd rfl (Or.inl rfl)) (pss_one (ps_if (pt_cmpR op_notin_str (pv 1) pe_str rfl) (pss_one (ps_ret pe_bl)) pss_nil)))
      (pss_one (ps_ret pe_bl)))), ?_⟩
    refine ⟨_, rfl, _, _, _, _, rfl, .str _, kit_ss K, _, rfl, iteF ⟨_, rfl, rfl, _, rfl, ifF (fun z => ?_) ?_⟩⟩
    · have e := V.str.inj z
      have e0 : (Str.ofString "").cps.toList = [] := by decide +kernel
      exact hwd.1 (by rw [e, e0])
    · refine ⟨_, rfl, wd, rfl, ?_, for_text (fun i σ H' => H' = H ∧ ∃ x1, σ = [some (.str wd), x1]) ⟨rfl, none, rfl⟩ ?_ ?_⟩
      · rw [← Array.all_toList, List.all_eq_true]
        intro c hc
        have := hwd.2.2 c hc
        exact decide_eq_true (by omega)
      · rintro i c σ H' hc ⟨rfl, x1, rfl⟩
        have hcm := hwd.2.2 c (List.mem_of_getElem? (i := i) (by simpa using hc))
        refine ⟨_, rfl, _, _, rfl, rfl, _, rfl, ?_⟩
        rw [in_letters c (by omega), decide_eq_true hcm]
        exact iteF ⟨rfl, _, rfl⟩
      · rintro σ H' ⟨rfl, x1, rfl⟩
        exact k
abbrev s__law_is_named : Stmt := top 11
theorem sc__law_is_named : FnScope ["_law_found", "_law_todo", "_law_part"] ["_law_found"] (defScope s__law_is_named) := ⟨rfl, rfl, rfl, by decide +kernel, rfl, by decide +kernel, by decide +kernel⟩
def sp_is_named : Sp := fun vs H Q _ => ∃ v, ∃ t : NT, vs = [v] ∧ NamedAt H v t ∧ t.ok ∧ t.size ≤ 1000 ∧ ∀ H', Same H H' → Q (.bl true) H'
def InvIsNamed (H : Hp) (v : V) (t : NT) (d : Addr) (m : Nat) (σ : L2.St) (H' : Hp) : Prop :=
  ∃ its xs x2, σ = [some v, some (.ref d), x2] ∧ Same H H' ∧ H' d = some (.lst xs) ∧ Paired (NamedAt H') xs its ∧ (∀ q ∈ its, q.ok) ∧ m = sumC its ∧ sumC its ≤ t.cost2
theorem ok__law_is_named {f : Addr} {fd : FuncData} (F : Fun K "_law_is_named" "_law_is_named" s__law_is_named f fd) (N_ : NoNames mg) (G__law_letters : GF P w K mg base CX0 1 "_law_letters" ["_law_found"] sp_letters) : FnOk P w K mg base CX0 2 f fd ["_law_found"] sp_is_named := by
  refine F.ok sc__law_is_named (fun vs H Q E h => ?_) (fun cdv A outer s H vs Q E hr h => ?_)
  · obtain ⟨v, t, rfl, _⟩ := h
    rfl
  · obtain ⟨v, t, rfl, ht, hok, hsz, k⟩ := h
    have hu0 := hr.units0
    have hcost := t.cost2_le
    refine ⟨_, (pss_cons (ps_set (i := 1) sc__law_is_named.nd rfl (Or.inl rfl) (pLst (pa_c (pv 0) pa_nil)))
      (pss_cons (ps_while PassesOwn.never (pt_cmpR (op_neNil hu0) (pv 1) (pLst pa_nil) (nomark _)) (pss_cons (ps_set (i := 2) sc__law_is_named.nd rfl (Or.inl rfl) (pPop (pv 1)))
      (pss_cons (ps_if (PW.pt (pw_or (pt_not (pt_val (pCB call_isi (by rfl) N_.isinstance boot_isinstance (pa_c (pv 2) (pa_c (pe_bltn (v := V.ty "tuple") rfl N_.tuple boot_tuple rfl) pa_nil))))) (pw_or1 (pt_cmpR op_lt (pCB call_len_seq (by rfl) N_.len boot_len (pa_c (pv 2) pa_nil)) pe_int (nomark _))))) (pss_one (ps_ret pe_bl)) pss_nil)
      (pss_cons (ps_if (pt_not (pt_val (pCB call_isi (by rfl) N_.isinstance boot_isinstance (pa_c (pe_ix ix_tup (pv 2) pe_int (fun _ _ => rfl)) (pa_c (pe_bltn (v := V.ty "str") rfl N_.str boot_str rfl) pa_nil))))) (pss_one (ps_ret pe_bl)) pss_nil)
      (pss_one (ps_if (PW.pt (pw_and (pt_cmpR op_eq (pe_ix ix_tup (pv 2) pe_int (fun _ _ => rfl)) pe_str (nomark _)) (pw_and1 (pt_cmpR op_eq (pCB call_len_seq (by rfl) N_.len boot_len (pa_c (pv 2) pa_nil)) pe_int (nomark _))))) (pss_cons (ps_expr (pApp (pv 1) (pe_ix ix_tup (pv 2) pe_int (fun _ _ => rfl))))
      (pss_one (ps_expr (pApp (pv 1) (pe_ix ix_tup (pv 2) pe_int (fun _ _ => rfl)))))) (pss_one (ps_if (PW.pt (pw_and (pt_cmpR op_eq (pe_ix ix_tup (pv 2) pe_int (fun _ _ => rfl)) pe_str (nomark _)) (pw_and1 (pt_cmpR op_eq (pCB call_len_seq (by rfl) N_.len boot_len (pa_c (pv 2) pa_nil)) pe_int (nomark _))))) (pss_cons (ps_expr (pApp (pv 1) (pTup (pa_c pe_str (pa_c (pe_ix ix_tup (pv 2) pe_int (fun _ _ => rfl)) pa_nil)))))
      (pss_one (ps_expr (pApp (pv 1) (pe_ix ix_tup (pv 2) pe_int (fun _ _ => rfl)))))) (pss_one (ps_if (PW.pt (pw_or (pt_cmpR op_ne (pe_ix ix_tup (pv 2) pe_int (fun _ _ => rfl)) pe_str (nomark _)) (pw_or (pt_cmpR op_ne (pCB call_len_seq (by rfl) N_.len boot_len (pa_c (pv 2) pa_nil)) pe_int (nomark _)) (pw_or1 (pt_not (pt_val (pe_gf G__law_letters (hr.mono (by decide)) rfl pass0 (pa_c (pe_ix ix_tup (pv 2) pe_int (fun _ _ => rfl)) pa_nil)))))))) (pss_one (ps_ret pe_bl)) pss_nil))))))))))
      (pss_one (ps_ret pe_bl)))), ?_⟩
    refine ⟨_, rfl, small' (by simp), fun d H4 nd s4 hd4 => ?_⟩
    refine ⟨InvIsNamed H v t d, ⟨sumC [t], [t], [v], none, rfl, s4, hd4, .cons (ht.same s4) .nil, fun q hq => by rw [List.mem_singleton.mp hq]; exact hok, rfl, by show t.cost2 + 0 ≤ _; omega⟩, ?_⟩
    rintro m σ H5 ⟨its, xs, x2, rfl, s5, hd5, hit, hoks, rfl, hsum⟩
    refine ⟨_, rfl, small' (by simp), fun e0 H5' ne0 s5' he0 => ⟨_, _, _, rfl, rfl, SqL.of (s5' _ _ hd5), SqL.of he0, _, rfl, ?_⟩⟩
    have hd5' := s5' _ _ hd5
    have hit := nameds_mono hit (.of_same s5')
    have s5 := s5.trans s5'
    clear hd5
    by_cases hnil : its = []
    · subst hnil
      cases paired_nil hit
      exact iteF (k H5' s5)
    · obtain ⟨its', t1, rfl⟩ := snoc_of hnil
      obtain ⟨xs', x, rfl, hit', htv⟩ := paired_snoc_inv hit
      rw [show (if true = true then !(xs' ++ [x]).isEmpty else (xs' ++ [x]).isEmpty) = true by simp]
      refine iteT ⟨fun σ' H' => ∃ m', m' < sumC (its' ++ [t1]) ∧ InvIsNamed H v t d m' σ' H', fun _ _ h => h, ?_⟩
      refine ⟨_, rfl, Or.inl ⟨rfl, _, SqL.of hd5'⟩, d, xs', x, rfl, rfl, hd5', fun H6 k6 hd6 => ?_⟩
      have tu6 := kp1_tups k6 hd5'
      have htv6 := htv.mono tu6
      have it6 := nameds_mono hit' tu6
      have s6 : Same H H6 := same_keep s5 k6 fun x hx => by rw [List.mem_singleton.mp hx]; exact nd
      have hok1 : t1.ok := hoks t1 (by simp)
      have hoks' : ∀ q ∈ its', q.ok := fun q hq => hoks q (List.mem_append_left _ hq)
      rw [sumC_snoc] at hsum
      rw [sumC_snoc]
      have hxl : xs'.length ≤ 2000 := by
        rw [Paired.length it6]
        have := len_sumC its'
        omega
      clear htv
      cases htv6 with
      | @name a1 wd h =>
        refine ⟨_, rfl, _, _, _, _, rfl, .tup h, kit_tt K, _, rfl, iteF ⟨_, rfl, _, _, rfl, Or.inr (SqT.of h), _, _, rfl, rfl, _, rfl, ifF (show ¬ (2 : Int) < 2 by decide) ⟨_, rfl, _, _, _, _, rfl, rfl, SqT.of h, at0, _, _, _, _, rfl, .str _, kit_ss K, _, rfl, iteF ?_⟩⟩⟩
        refine ⟨_, rfl, _, _, _, _, rfl, rfl, SqT.of h, at0, rfl, _, rfl, ifF n_nc (iteF ⟨_, rfl, _, _, _, _, rfl, rfl, SqT.of h, at0, rfl, _, rfl, ifF n_nf (iteF ?_)⟩)⟩
        refine ⟨_, rfl, _, _, _, _, rfl, rfl, SqT.of h, at0, rfl, _, rfl, ifNF rfl ⟨_, rfl, _, _, rfl, Or.inr (SqT.of h), rfl, _, rfl, ifNF rfl ⟨_, rfl, _, _, _, _, rfl, rfl, SqT.of h, at1, wd, rfl, hok1, _, rfl, iteF ?_⟩⟩⟩
        exact ⟨_, by show sumC its' < sumC its' + 1; omega, its', xs', _, rfl, s6, hd6, it6, hoks', rfl, by omega⟩
      | @form a1 wd bv b h hb =>
        have hbs : NT.cost2 (.form wd b) = b.cost2 + 2 := rfl
        refine ⟨_, rfl, _, _, _, _, rfl, .tup h, kit_tt K, _, rfl, iteF ⟨_, rfl, _, _, rfl, Or.inr (SqT.of h), _, _, rfl, rfl, _, rfl, ifF (show ¬ (3 : Int) < 2 by decide) ⟨_, rfl, _, _, _, _, rfl, rfl, SqT.of h, at0, _, _, _, _, rfl, .str _, kit_ss K, _, rfl, iteF ?_⟩⟩⟩
        refine ⟨_, rfl, _, _, _, _, rfl, rfl, SqT.of h, at0, rfl, _, rfl, ifF n_fc (iteF ⟨_, rfl, _, _, _, _, rfl, rfl, SqT.of h, at0, rfl, _, rfl, ifT rfl ⟨_, rfl, _, _, rfl, Or.inr (SqT.of h), rfl, _, rfl, ifT rfl ?_⟩⟩)⟩
        refine ⟨_, rfl, Or.inl ⟨rfl, _, SqL.of hd6⟩, _, rfl, _, _, _, _, rfl, rfl, SqT.of h, at1, small' (by show 2 ≤ 1000000; decide), fun q7 H7 n7 s7 h7 => ⟨_, _, _, rfl, rfl, s7 _ _ hd6, small (by omega), fun H8 k8 hd8 => ?_⟩⟩
        have hd7 := s7 _ _ hd6
        have tu8 : Tups H6 H8 := (Tups.of_same s7).trans (kp1_tups k8 hd7)
        have K8 : Keep [d] H6 H8 := (Keep.of_same s7).trans k8
        refine ⟨_, rfl, Or.inl ⟨rfl, _, SqL.of hd8⟩, _, rfl, _, _, _, _, rfl, rfl, SqT.of (tu8 _ _ h), at2, _, _, _, rfl, rfl, hd8, small (by rw [List.length_append, List.length_singleton]; omega), fun H9 k9 hd9 => ?_⟩
        have tu9 := kp1_tups k9 hd8
        refine ⟨_, ?_, (its' ++ [.name wd]) ++ [b], _, _, rfl, same_keep s6 (K8.trans k9) (fun x hx => by rw [List.mem_singleton.mp hx]; exact nd), hd9, paired_snoc ((hb.mono tu8).mono tu9) (paired_snoc (.name (tu9 _ _ (kp1_tups k8 hd7 _ _ h7))) (nameds_mono (nameds_mono it6 tu8) tu9)), fun q hq => ?_, rfl, ?_⟩
        · rw [sumC_snoc, sumC_snoc]; show sumC its' + 1 + b.cost2 < sumC its' + (b.cost2 + 2); omega
        · rcases List.mem_append.mp hq with hq | hq
          · rcases List.mem_append.mp hq with hq | hq
            · exact hoks' q hq
            · rw [List.mem_singleton.mp hq]; exact hok1.1
          · rw [List.mem_singleton.mp hq]; exact hok1.2
        · rw [sumC_snoc, sumC_snoc]; show sumC its' + 1 + b.cost2 ≤ _; omega
      | @call a1 xv yv x y h hx hy =>
        have hcs : NT.cost2 (.call x y) = x.cost2 + y.cost2 + 1 := rfl
        refine ⟨_, rfl, _, _, _, _, rfl, .tup h, kit_tt K, _, rfl, iteF ⟨_, rfl, _, _, rfl, Or.inr (SqT.of h), _, _, rfl, rfl, _, rfl, ifF (show ¬ (3 : Int) < 2 by decide) ⟨_, rfl, _, _, _, _, rfl, rfl, SqT.of h, at0, _, _, _, _, rfl, .str _, kit_ss K, _, rfl, iteF ?_⟩⟩⟩
        refine ⟨_, rfl, _, _, _, _, rfl, rfl, SqT.of h, at0, rfl, _, rfl, ifT rfl ⟨_, rfl, _, _, rfl, Or.inr (SqT.of h), rfl, _, rfl, ifT rfl ?_⟩⟩
        refine ⟨_, rfl, Or.inl ⟨rfl, _, SqL.of hd6⟩, _, rfl, _, _, _, _, rfl, rfl, SqT.of h, at1, _, _, _, rfl, rfl, hd6, small (by omega), fun H8 k8 hd8 => ?_⟩
        have tu8 := kp1_tups k8 hd6
        have h8 := tu8 _ _ h
        refine ⟨_, rfl, Or.inl ⟨rfl, _, SqL.of hd8⟩, _, rfl, _, _, _, _, rfl, rfl, SqT.of h8, at2, _, _, _, rfl, rfl, hd8, small (by rw [List.length_append, List.length_singleton]; omega), fun H9 k9 hd9 => ?_⟩
        have tu9 := kp1_tups k9 hd8
        refine ⟨_, ?_, (its' ++ [x]) ++ [y], _, _, rfl, same_keep s6 (k8.trans k9) (fun x hx => by rw [List.mem_singleton.mp hx]; exact nd), hd9, paired_snoc ((hy.mono tu8).mono tu9) (paired_snoc ((hx.mono tu8).mono tu9) (nameds_mono (nameds_mono it6 tu8) tu9)), fun q hq => ?_, rfl, ?_⟩
        · rw [sumC_snoc, sumC_snoc]; show sumC its' + x.cost2 + y.cost2 < sumC its' + (x.cost2 + y.cost2 + 1); omega
        · rcases List.mem_append.mp hq with hq | hq
          · rcases List.mem_append.mp hq with hq | hq
            · exact hoks' q hq
            · rw [List.mem_singleton.mp hq]; exact hok1.1
          · rw [List.mem_singleton.mp hq]; exact hok1.2
        · rw [sumC_snoc, sumC_snoc]; omega
abbrev s_law : Stmt := top 14
theorem sc_law : FnScope ["_law_script", "_law_term", "_law_due", "_law_line", "_law_found"] ["_law_script"] (defScope s_law) := ⟨rfl, rfl, rfl, by decide +kernel, rfl, by decide +kernel, by decide +kernel⟩
def sp_law (K : PySem.W.Frag) : Sp := fun vs H Q _ => ∃ a, ∃ ns : List Int, vs = [.ref a] ∧ SqL K H a (ns.map V.int) ∧ ns.length ≤ 63 ∧ ∀ H', Q (.bl true) H'
theorem ok_law {f : Addr} {fd : FuncData} (F : Fun K "law" "law" s_law f fd) (N_ : NoNames mg) (G__law_wordy : GF P w K mg base CX0 2 "_law_wordy" ["_law_cells"] (sp_wordy K)) (G__law_lined : GF P w K mg base CX0 2 "_law_lined" ["_law_cells"] (sp_lined K))
    (G_shown : GF P w K mg base CX0 1 "shown" ["term"] sp_shown) (G_read : GF P w K mg base CX0 5 "read" ["line"] sp_read) (G__law_is_named : GF P w K mg base CX0 2 "_law_is_named" ["_law_found"] sp_is_named) : FnOk P w K mg base CX0 6 f fd ["_law_script"] (sp_law K) := by
  refine F.ok sc_law (fun vs H Q E h => ?_) (fun cdv A outer s H vs Q E hr h => ?_)
  · obtain ⟨a, ns, rfl, _⟩ := h
    rfl
  · obtain ⟨a, ns, rfl, hS, hl, k⟩ := h
    have hu : A.units + 3 + 16 * 5 + 200 < cLine := hr.un
    obtain ⟨ms, ems, hms⟩ := cut_ints ns none (some 98)
    refine ⟨_, (pss_cons (ps_set (i := 1) sc_law.nd rfl (Or.inl rfl) (pe_gf G__law_wordy (hr.mono (by decide)) rfl pass0 (pa_c (pe_slice sl_ls (pv 0) po_none (po_some pe_int)) pa_nil)))
      (pss_cons (ps_set (i := 2) sc_law.nd rfl (Or.inl rfl) (pe_gf G__law_lined (hr.mono (by decide)) rfl pass0 (pa_c (pe_slice sl_ls (pv 0) po_none (po_some pe_int)) pa_nil)))
      (pss_cons (ps_set (i := 3) sc_law.nd rfl (Or.inl rfl) (pe_gf G_shown (hr.mono (by decide)) rfl pass0 (pa_c (pv 1) pa_nil)))
      (pss_cons (ps_if (PW.pt (pw_or (pt_not (pt_val (pCB call_isi (by rfl) N_.isinstance boot_isinstance (pa_c (pv 3) (pa_c (pe_bltn (v := V.ty "str") rfl N_.str boot_str rfl) pa_nil))))) (pw_or1 (pt_cmpR op_ne (pv 3) (pv 2) (nomark _))))) (pss_one (ps_ret pe_bl)) pss_nil)
      (pss_cons (ps_set (i := 4) sc_law.nd rfl (Or.inl rfl) (pe_gf G_read (hr.mono (by decide)) rfl pass0 (pa_c (pv 2) pa_nil)))
      (pss_one (ps_ret (pe_and (pe_gf G__law_is_named (hr.mono (by decide)) rfl pass0 (pa_c (pv 4) pa_nil)) (pe_one (pe_cmpR op_eqD (pv 4) (pv 1) (nomark _))))))))))), ?_⟩
    refine ⟨_, rfl, _, rfl, a, _, rfl, hS, fun p1 H1 np1 s1 h1 => ?_⟩
    rw [ems] at h1
    refine ⟨p1, ms, rfl, SqL.of h1, by omega, fun vt H2 s2 hvt => ?_⟩
    have hS2 := sql_same (sql_same hS s1) s2
    refine ⟨_, rfl, _, rfl, a, _, rfl, hS2, fun p3 H3 np3 s3 h3 => ?_⟩
    rw [ems] at h3
    refine ⟨p3, ms, rfl, SqL.of h3, by omega, fun H4 s4 => ?_⟩
    have hvt4 := (hvt.same s3).same s4
    have hok := wordyT_ok ms
    have hsz := wordyT_size ms
    refine ⟨_, rfl, vt, _, rfl, hvt4, hok, by omega, fun L H5 s5 hL => ?_⟩
    have eL : L = lineS (wordyT ms) := str_ext (by rw [hL]; show _ = (wordyT ms).line.toArray.toList; simp)
    subst eL
    refine ⟨_, rfl, _, _, _, _, rfl, .str _, kit_ss K, _, rfl, iteF ⟨_, rfl, _, rfl, rfl, _, rfl, ifNF rfl ?_⟩⟩
    refine ⟨_, rfl, _, wordyT ms, rfl, hL, hok, by omega, fun vf H6 s6 hvf => ?_⟩
    obtain ⟨af, rfl⟩ := hvf.ref
    obtain ⟨at', rfl⟩ := hvt.ref
    refine ⟨_, rfl, _, _, rfl, hvf, hok, by omega, fun H7 s7 => ⟨_, rfl, iteT ⟨_, rfl, _, rfl, ?_⟩⟩⟩
    have dp := NT.deep_le (wordyT ms)
    refine ⟨127, namedD (wordyT ms), namedD (wordyT ms), af, at', rfl, rfl, named_lim _ _ (by omega), by show A.units + 3 + 127 + 1 < cLine; omega, named_dat (hvf.same s7), named_dat (((hvt4.same s5).same s6).same s7), fun b hb => ?_⟩
    rw [hb.mpr rfl]
    exact k _
end
end NC
namespace NC
open PySem PySem.Spec PyProof.Rows L2
theorem all_mk {l : PySem.W.OpenLaw} {w : World} {K : PySem.W.Frag} {h : Heap} {mg : Str → Option Value} {fa C  f1 f2 f3 f4 f5 f6 f7 f8 f9 f10 f11 f12 f13 f14 f15 : Addr} (X : K.In h) (G : h.Ns mainGlobals mg) (hfa : mg "law" = some (.ref fa))
    {od1 an1 od2 an2 od3 an3 od4 an4 od5 an5 od6 an6 od7 an7 od8 an8 od9 an9 od10 an10 od11 an11 od12 an12 od13 an13 od14 an14 od15 an15 : Option Addr} {sl1 sl2 sl3 sl4 sl5 sl6 sl7 sl8 sl9 sl10 sl11 sl12 sl13 sl14 sl15 : Array (Option Value)} {oc1 kV1 dc1 pm1 ct1 cd1 oc2 kV2 dc2 pm2 ct2 cd2 oc3 kV3 dc3 pm3 ct3 cd3 oc4 kV4 dc4 pm4 ct4 cd4 oc5 kV5 dc5 pm5 ct5 cd5 oc6 kV6 dc6 pm6 ct6 cd6 oc7 kV7 dc7 pm7 ct7 cd7 oc8 kV8 dc8 pm8 ct8 cd8 oc9 kV9 dc9 pm9 ct9 cd9 oc10 kV10 dc10 pm10 ct10 cd10 oc11 kV11 dc11 pm11 ct11 cd11 oc12 kV12 dc12 pm12 ct12 cd12 oc13 kV13 dc13 pm13 ct13 cd13 oc14 kV14 dc14 pm14 ct14 cd14 oc15 kV15 dc15 pm15 ct15 cd15 : Value}
    (a1 : PySem.W.nsIn K mainGlobals "shown" = some (some (.ref f1)))
    (a9 : PySem.W.nsIn K mainGlobals "read" = some (some (.ref f9)))
    (a10 : PySem.W.nsIn K mainGlobals "_law_any_word" = some (some (.ref f10)))
    (a11 : PySem.W.nsIn K mainGlobals "_law_wordy" = some (some (.ref f11)))
    (a12 : PySem.W.nsIn K mainGlobals "_law_lined" = some (some (.ref f12)))
    (a13 : PySem.W.nsIn K mainGlobals "_law_letters" = some (some (.ref f13)))
    (a14 : PySem.W.nsIn K mainGlobals "_law_is_named" = some (some (.ref f14)))
    (a15 : PySem.W.nsIn K mainGlobals "law" = some (some (.ref f15)))
    (yC : PySem.W.nsIn K mainGlobals "Reader" = some (some (.ref C))) (yM : PySem.W.makesIn K C = true) (yI : PySem.W.findIn K (.ref C) "__init__" = some (some (.ref f2))) (yIf : PySem.W.isFn K (.ref f2) = true) (yK : PySem.W.keepIn K (.ref C) = true)
    (y1 : PySem.W.plainGet K C Str.empty = true) (y2 : PySem.W.hasDictIn K C = true) (y3 : PySem.W.plainOver K C = true) (y4 : PySem.W.findIn K (.ref C) "__setattr__" = some (some (.builtin "object.__setattr__")))
    (yB_is_over : PySem.W.findIn K (.ref C) "is_over" = some (some (.ref f3))) (yF_is_over : PySem.W.isFn K (.ref f3) = true)
    (yB_take : PySem.W.findIn K (.ref C) "take" = some (some (.ref f4))) (yF_take : PySem.W.isFn K (.ref f4) = true)
    (yB_need : PySem.W.findIn K (.ref C) "need" = some (some (.ref f5))) (yF_need : PySem.W.isFn K (.ref f5) = true)
    (yB_take_word : PySem.W.findIn K (.ref C) "take_word" = some (some (.ref f6))) (yF_take_word : PySem.W.isFn K (.ref f6) = true)
    (yB_next_name : PySem.W.findIn K (.ref C) "next_name" = some (some (.ref f7))) (yF_next_name : PySem.W.isFn K (.ref f7) = true)
    (yB_ended : PySem.W.findIn K (.ref C) "ended" = some (some (.ref f8))) (yF_ended : PySem.W.isFn K (.ref f8) = true)
    (yN_line : PySem.W.findIn K (.ref C) "line" = some none)
    (yN_at : PySem.W.findIn K (.ref C) "at" = some none)
    (yN_begun : PySem.W.findIn K (.ref C) "begun" = some none)
    {tk_LETTERS : Tok} (yG_LETTERS : PySem.W.nsIn K mainGlobals "LETTERS" = some (some (.str (Str.ofString "abcdefghijklmnopqrstuvwxyz") tk_LETTERS)))
    (l1 : K.lookup f1 = some ⟨oc1, od1, .func (PySem.W.fnOf "shown" "shown" (defArgs s_shown) (defBody s_shown) (defScope s_shown) .none kV1 dc1 pm1 an1 cd1 ct1), sl1⟩) (c1' : PySem.W.codeIn K cd1 "shown" = true) (k1 : PySem.W.keepIn K (.ref f1) = true)
    (l2 : K.lookup f2 = some ⟨oc2, od2, .func (PySem.W.fnOf "__init__" "Reader.__init__" (defArgs s_Reader___init__) (defBody s_Reader___init__) (defScope s_Reader___init__) .none kV2 dc2 pm2 an2 cd2 ct2), sl2⟩) (c2' : PySem.W.codeIn K cd2 "Reader.__init__" = true) (k2 : PySem.W.keepIn K (.ref f2) = true)
    (l3 : K.lookup f3 = some ⟨oc3, od3, .func (PySem.W.fnOf "is_over" "Reader.is_over" (defArgs s_Reader_is_over) (defBody s_Reader_is_over) (defScope s_Reader_is_over) .none kV3 dc3 pm3 an3 cd3 ct3), sl3⟩) (c3' : PySem.W.codeIn K cd3 "Reader.is_over" = true) (k3 : PySem.W.keepIn K (.ref f3) = true)
    (l4 : K.lookup f4 = some ⟨oc4, od4, .func (PySem.W.fnOf "take" "Reader.take" (defArgs s_Reader_take) (defBody s_Reader_take) (defScope s_Reader_take) .none kV4 dc4 pm4 an4 cd4 ct4), sl4⟩) (c4' : PySem.W.codeIn K cd4 "Reader.take" = true) (k4 : PySem.W.keepIn K (.ref f4) = true)
    (l5 : K.lookup f5 = some ⟨oc5, od5, .func (PySem.W.fnOf "need" "Reader.need" (defArgs s_Reader_need) (defBody s_Reader_need) (defScope s_Reader_need) .none kV5 dc5 pm5 an5 cd5 ct5), sl5⟩) (c5' : PySem.W.codeIn K cd5 "Reader.need" = true) (k5 : PySem.W.keepIn K (.ref f5) = true)
    (l6 : K.lookup f6 = some ⟨oc6, od6, .func (PySem.W.fnOf "take_word" "Reader.take_word" (defArgs s_Reader_take_word) (defBody s_Reader_take_word) (defScope s_Reader_take_word) .none kV6 dc6 pm6 an6 cd6 ct6), sl6⟩) (c6' : PySem.W.codeIn K cd6 "Reader.take_word" = true) (k6 : PySem.W.keepIn K (.ref f6) = true)
    (l7 : K.lookup f7 = some ⟨oc7, od7, .func (PySem.W.fnOf "next_name" "Reader.next_name" (defArgs s_Reader_next_name) (defBody s_Reader_next_name) (defScope s_Reader_next_name) .none kV7 dc7 pm7 an7 cd7 ct7), sl7⟩) (c7' : PySem.W.codeIn K cd7 "Reader.next_name" = true) (k7 : PySem.W.keepIn K (.ref f7) = true)
    (l8 : K.lookup f8 = some ⟨oc8, od8, .func (PySem.W.fnOf "ended" "Reader.ended" (defArgs s_Reader_ended) (defBody s_Reader_ended) (defScope s_Reader_ended) .none kV8 dc8 pm8 an8 cd8 ct8), sl8⟩) (c8' : PySem.W.codeIn K cd8 "Reader.ended" = true) (k8 : PySem.W.keepIn K (.ref f8) = true)
    (l9 : K.lookup f9 = some ⟨oc9, od9, .func (PySem.W.fnOf "read" "read" (defArgs s_read) (defBody s_read) (defScope s_read) .none kV9 dc9 pm9 an9 cd9 ct9), sl9⟩) (c9' : PySem.W.codeIn K cd9 "read" = true) (k9 : PySem.W.keepIn K (.ref f9) = true)
    (l10 : K.lookup f10 = some ⟨oc10, od10, .func (PySem.W.fnOf "_law_any_word" "_law_any_word" (defArgs s__law_any_word) (defBody s__law_any_word) (defScope s__law_any_word) .none kV10 dc10 pm10 an10 cd10 ct10), sl10⟩) (c10' : PySem.W.codeIn K cd10 "_law_any_word" = true) (k10 : PySem.W.keepIn K (.ref f10) = true)
    (l11 : K.lookup f11 = some ⟨oc11, od11, .func (PySem.W.fnOf "_law_wordy" "_law_wordy" (defArgs s__law_wordy) (defBody s__law_wordy) (defScope s__law_wordy) .none kV11 dc11 pm11 an11 cd11 ct11), sl11⟩) (c11' : PySem.W.codeIn K cd11 "_law_wordy" = true) (k11 : PySem.W.keepIn K (.ref f11) = true)
    (l12 : K.lookup f12 = some ⟨oc12, od12, .func (PySem.W.fnOf "_law_lined" "_law_lined" (defArgs s__law_lined) (defBody s__law_lined) (defScope s__law_lined) .none kV12 dc12 pm12 an12 cd12 ct12), sl12⟩) (c12' : PySem.W.codeIn K cd12 "_law_lined" = true) (k12 : PySem.W.keepIn K (.ref f12) = true)
    (l13 : K.lookup f13 = some ⟨oc13, od13, .func (PySem.W.fnOf "_law_letters" "_law_letters" (defArgs s__law_letters) (defBody s__law_letters) (defScope s__law_letters) .none kV13 dc13 pm13 an13 cd13 ct13), sl13⟩) (c13' : PySem.W.codeIn K cd13 "_law_letters" = true) (k13 : PySem.W.keepIn K (.ref f13) = true)
    (l14 : K.lookup f14 = some ⟨oc14, od14, .func (PySem.W.fnOf "_law_is_named" "_law_is_named" (defArgs s__law_is_named) (defBody s__law_is_named) (defScope s__law_is_named) .none kV14 dc14 pm14 an14 cd14 ct14), sl14⟩) (c14' : PySem.W.codeIn K cd14 "_law_is_named" = true) (k14 : PySem.W.keepIn K (.ref f14) = true)
    (l15 : K.lookup f15 = some ⟨oc15, od15, .func (PySem.W.fnOf "law" "law" (defArgs s_law) (defBody s_law) (defScope s_law) .none kV15 dc15 pm15 an15 cd15 ct15), sl15⟩) (c15' : PySem.W.codeIn K cd15 "law" = true) (k15 : PySem.W.keepIn K (.ref f15) = true)
    (z0 : PySem.W.nsIn K mainGlobals "len" = some none) (z1 : PySem.W.nsIn K mainGlobals "abs" = some none) (z2 : PySem.W.nsIn K mainGlobals "isinstance" = some none) (z3 : PySem.W.nsIn K mainGlobals "tuple" = some none) (z4 : PySem.W.nsIn K mainGlobals "str" = some none) (z5 : PySem.W.nsIn K mainGlobals "range" = some none)
     :
    ∃ fd : FuncData, (∀ (s : Shared) (v : Value), BindsTo s fd ⟨[v], []⟩ [("_law_script", v)]) ∧ ∀ base : Heap, K.In base → base.Ns mainGlobals mg → FnOk l.prog w K mg base CX0 6 fa fd ["_law_script"] (sp_law  K) := by
  have e := hfa.symm.trans (PySem.W.mg_of X G a15)
  cases e
  have N_ : NoNames mg := ⟨PySem.W.mg_none_of X G z0, PySem.W.mg_none_of X G z1, PySem.W.mg_none_of X G z2, PySem.W.mg_none_of X G z3, PySem.W.mg_none_of X G z4, PySem.W.mg_none_of X G z5⟩
  have R : RdCls K C := ⟨⟨y1, y2, y3, y4⟩, yN_line, yN_at, yN_begun⟩
  have hG_LETTERS := PySem.W.mg_of X G yG_LETTERS
  have F1 := fun_mk (st := s_shown) l1 c1' k1
  have b1 := F1.binds (ps := ["term"]) fun _ _ _ _ _ _ us hl => match us, hl with | [_], _ => rfl
  have m1 := PySem.W.mg_of X G a1
  have F2 := fun_mk (st := s_Reader___init__) l2 c2' k2
  have b2 := F2.binds (ps := ["self", "line"]) fun _ _ _ _ _ _ us hl => match us, hl with | [_, _], _ => rfl
  have F3 := fun_mk (st := s_Reader_is_over) l3 c3' k3
  have b3 := F3.binds (ps := ["self"]) fun _ _ _ _ _ _ us hl => match us, hl with | [_], _ => rfl
  have F4 := fun_mk (st := s_Reader_take) l4 c4' k4
  have b4 := F4.binds (ps := ["self", "sign"]) fun _ _ _ _ _ _ us hl => match us, hl with | [_, _], _ => rfl
  have F5 := fun_mk (st := s_Reader_need) l5 c5' k5
  have b5 := F5.binds (ps := ["self", "sign"]) fun _ _ _ _ _ _ us hl => match us, hl with | [_, _], _ => rfl
  have F6 := fun_mk (st := s_Reader_take_word) l6 c6' k6
  have b6 := F6.binds (ps := ["self"]) fun _ _ _ _ _ _ us hl => match us, hl with | [_], _ => rfl
  have F7 := fun_mk (st := s_Reader_next_name) l7 c7' k7
  have b7 := F7.binds (ps := ["self"]) fun _ _ _ _ _ _ us hl => match us, hl with | [_], _ => rfl
  have F8 := fun_mk (st := s_Reader_ended) l8 c8' k8
  have b8 := F8.binds (ps := ["self", "part"]) fun _ _ _ _ _ _ us hl => match us, hl with | [_, _], _ => rfl
  have F9 := fun_mk (st := s_read) l9 c9' k9
  have b9 := F9.binds (ps := ["line"]) fun _ _ _ _ _ _ us hl => match us, hl with | [_], _ => rfl
  have m9 := PySem.W.mg_of X G a9
  have F10 := fun_mk (st := s__law_any_word) l10 c10' k10
  have b10 := F10.binds (ps := ["_law_cell"]) fun _ _ _ _ _ _ us hl => match us, hl with | [_], _ => rfl
  have m10 := PySem.W.mg_of X G a10
  have F11 := fun_mk (st := s__law_wordy) l11 c11' k11
  have b11 := F11.binds (ps := ["_law_cells"]) fun _ _ _ _ _ _ us hl => match us, hl with | [_], _ => rfl
  have m11 := PySem.W.mg_of X G a11
  have F12 := fun_mk (st := s__law_lined) l12 c12' k12
  have b12 := F12.binds (ps := ["_law_cells"]) fun _ _ _ _ _ _ us hl => match us, hl with | [_], _ => rfl
  have m12 := PySem.W.mg_of X G a12
  have F13 := fun_mk (st := s__law_letters) l13 c13' k13
  have b13 := F13.binds (ps := ["_law_found"]) fun _ _ _ _ _ _ us hl => match us, hl with | [_], _ => rfl
  have m13 := PySem.W.mg_of X G a13
  have F14 := fun_mk (st := s__law_is_named) l14 c14' k14
  have b14 := F14.binds (ps := ["_law_found"]) fun _ _ _ _ _ _ us hl => match us, hl with | [_], _ => rfl
  have m14 := PySem.W.mg_of X G a14
  have F15 := fun_mk (st := s_law) l15 c15' k15
  have b15 := F15.binds (ps := ["_law_script"]) fun _ _ _ _ _ _ us hl => match us, hl with | [_], _ => rfl
  have m15 := PySem.W.mg_of X G a15
  refine ⟨PySem.W.fnOf "law" "law" (defArgs s_law) (defBody s_law) (defScope s_law) .none kV15 dc15 pm15 an15 cd15 ct15, fun s v => .of_eq rfl, fun base _ _ => ?_⟩
  have G_shown : GF l.prog w K mg base CX0 1 "shown" ["term"] sp_shown := ⟨_, _, ok_shown F1 N_, m1, k1, b1⟩
  have G_Reader : GK l.prog w K mg base CX0 1 C "Reader" ["self", "line"] (sp_rinit C) := ⟨_, _, ok_rinit F2 R, ⟨yM, yI, yIf, yK⟩, PySem.W.mg_of X G yC, b2⟩
  have G_Reader_is_over : GM l.prog w K mg base CX0 1 C "is_over" ["self"] (sp_rover C) := ⟨_, _, ok_rover F3 N_ R, ⟨yB_is_over, yF_is_over, k3⟩, b3⟩
  have G_Reader_take : GM l.prog w K mg base CX0 2 C "take" ["self", "sign"] (sp_rtake C) := ⟨_, _, ok_rtake F4 R G_Reader_is_over, ⟨yB_take, yF_take, k4⟩, b4⟩
  have G_Reader_need : GM l.prog w K mg base CX0 3 C "need" ["self", "sign"] (sp_rneed C) := ⟨_, _, ok_rneed F5 R G_Reader_take, ⟨yB_need, yF_need, k5⟩, b5⟩
  have G_Reader_take_word : GM l.prog w K mg base CX0 2 C "take_word" ["self"] (sp_rword C) := ⟨_, _, ok_rword F6 R hG_LETTERS G_Reader_is_over, ⟨yB_take_word, yF_take_word, k6⟩, b6⟩
  have G_Reader_next_name : GM l.prog w K mg base CX0 3 C "next_name" ["self"] (sp_rname C) := ⟨_, _, ok_rname F7 R G_Reader_take G_Reader_take_word, ⟨yB_next_name, yF_next_name, k7⟩, b7⟩
  have G_Reader_ended : GM l.prog w K mg base CX0 4 C "ended" ["self", "part"] (sp_rended C) := ⟨_, _, ok_rended F8 N_ R G_Reader_need, ⟨yB_ended, yF_ended, k8⟩, b8⟩
  have G_read : GF l.prog w K mg base CX0 5 "read" ["line"] sp_read := ⟨_, _, ok_read F9 R G_Reader G_Reader_is_over G_Reader_next_name G_Reader_ended, m9, k9, b9⟩
  have G__law_any_word : GF l.prog w K mg base CX0 1 "_law_any_word" ["_law_cell"] sp_any_wordF := ⟨_, _, ok_any_wordF F10 N_, m10, k10, b10⟩
  have G__law_wordy : GF l.prog w K mg base CX0 2 "_law_wordy" ["_law_cells"] (sp_wordy K) := ⟨_, _, ok__law_wordy F11 N_ G__law_any_word, m11, k11, b11⟩
  have G__law_lined : GF l.prog w K mg base CX0 2 "_law_lined" ["_law_cells"] (sp_lined K) := ⟨_, _, ok__law_lined F12 N_ G__law_any_word, m12, k12, b12⟩
  have G__law_letters : GF l.prog w K mg base CX0 1 "_law_letters" ["_law_found"] sp_letters := ⟨_, _, ok__law_letters F13 N_, m13, k13, b13⟩
  have G__law_is_named : GF l.prog w K mg base CX0 2 "_law_is_named" ["_law_found"] sp_is_named := ⟨_, _, ok__law_is_named F14 N_ G__law_letters, m14, k14, b14⟩
  exact ok_law F15 N_ G__law_wordy G__law_lined G_shown G_read G__law_is_named
theorem walk {l : PySem.W.OpenLaw} {q : Program} {loose : List Str} {XP : (Str → Option Value) → Heap → Prop} {YP : World → Heap → Prop} {d : DefRec} {K : Params → PySem.W.Frag} (hn : l.most = some 63) (hdf : d.params.defaults = [])
    (hY : ∀ (w : World) (h : Heap), YP w h → (K w.params).In h)
    (F : ∀ (w : World) (mg : Str → Option Value) (fa : Addr) (h : Heap), (K w.params).In h → h.Ns mainGlobals mg → mg d.name = some (.ref fa) →
      ∃ fd : FuncData, (∀ (s : Shared) (u : Value), BindsTo s fd ⟨[u], []⟩ [("_law_script", u)]) ∧ ∀ base : Heap, (K w.params).In base → base.Ns mainGlobals mg → FnOk l.prog w (K w.params) mg base CX0 6 fa fd ["_law_script"] (sp_law (K w.params))) :
    PySem.W.WalkO q loose XP YP l.row.toRowW d [] (fun f vs => PySem.call f vs) :=
  L2.walk_of (n := 63) (k := 6) (x := "_law_script") (CX := fun _ => CX0) (sp := fun w => sp_law (K w.params)) hn (by decide) hdf ⟨rfl, by decide, by decide⟩ hY F (fun _ _ a ns hl _ hS => ⟨a, ns, rfl, hS, hl, fun _ => rfl⟩) fun _ _ _ _ _ z => z
end NC
open PySem PySem.W PyProof.Rows
set_option maxRecDepth 100000 in
set_option maxHeartbeats 0 in
theorem PySem.Challenge.cw_namecall_k09_whole_written_and_read_holds : PySem.Challenge.rw_namecall_k09_whole_written_and_read.Holds := by
  w_on; o_law; k_head; (case hw => w_witness2)
  k_fill
  refine NC.walk (l := PySem.Challenge.rw_namecall_k09_whole_written_and_read) rfl rfl (fun w h Y => PySem.W.kIn_of Y) ?F
  case F =>
    intro w mg fa h KX G hmg
    refine' NC.all_mk KX G hmg ?a1 ?a9 ?a10 ?a11 ?a12 ?a13 ?a14 ?a15 ?yC ?yM ?yI ?yIf ?yK ?y1 ?y2 ?y3 ?y4 ?yB_is_over ?yF_is_over ?yB_take ?yF_take ?yB_need ?yF_need ?yB_take_word ?yF_take_word ?yB_next_name ?yF_next_name ?yB_ended ?yF_ended ?yN_line ?yN_at ?yN_begun ?yG_LETTERS ?l1 ?c1' ?k1 ?l2 ?c2' ?k2 ?l3 ?c3' ?k3 ?l4 ?c4' ?k4 ?l5 ?c5' ?k5 ?l6 ?c6' ?k6 ?l7 ?c7' ?k7 ?l8 ?c8' ?k8 ?l9 ?c9' ?k9 ?l10 ?c10' ?k10 ?l11 ?c11' ?k11 ?l12 ?c12' ?k12 ?l13 ?c13' ?k13 ?l14 ?c14' ?k14 ?l15 ?c15' ?k15 ?z0 ?z1 ?z2 ?z3 ?z4 ?z5
    (case a1 => k_is); (case a9 => k_is); (case a10 => k_is); (case a11 => k_is); (case a12 => k_is); (case a13 => k_is); (case a14 => k_is); (case a15 => k_is)
    (case yC => k_is); (case yM => k_is); (case yI => k_is); (case yIf => k_is); (case yK => k_is); (case y1 => k_is); (case y2 => k_is); (case y3 => k_is)
    (case y4 => k_is); (case yB_is_over => k_is); (case yF_is_over => k_is); (case yB_take => k_is); (case yF_take => k_is); (case yB_need => k_is); (case yF_need => k_is); (case yB_take_word => k_is)
    (case yF_take_word => k_is); (case yB_next_name => k_is); (case yF_next_name => k_is); (case yB_ended => k_is); (case yF_ended => k_is); (case yN_line => k_is); (case yN_at => k_is); (case yN_begun => k_is)
    (case yG_LETTERS => k_is); (case l1 => k_is); (case c1' => k_is); (case k1 => k_is); (case l2 => k_is); (case c2' => k_is); (case k2 => k_is); (case l3 => k_is)
    (case c3' => k_is); (case k3 => k_is); (case l4 => k_is); (case c4' => k_is); (case k4 => k_is); (case l5 => k_is); (case c5' => k_is); (case k5 => k_is)
    (case l6 => k_is); (case c6' => k_is); (case k6 => k_is); (case l7 => k_is); (case c7' => k_is); (case k7 => k_is); (case l8 => k_is); (case c8' => k_is)
    (case k8 => k_is); (case l9 => k_is); (case c9' => k_is); (case k9 => k_is); (case l10 => k_is); (case c10' => k_is); (case k10 => k_is); (case l11 => k_is)
    (case c11' => k_is); (case k11 => k_is); (case l12 => k_is); (case c12' => k_is); (case k12 => k_is); (case l13 => k_is); (case c13' => k_is); (case k13 => k_is)
    (case l14 => k_is); (case c14' => k_is); (case k14 => k_is); (case l15 => k_is); (case c15' => k_is); (case k15 => k_is); (case z0 => k_is); (case z1 => k_is)
    (case z2 => k_is); (case z3 => k_is); (case z4 => k_is); (case z5 => k_is)
