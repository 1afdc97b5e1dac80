import PyProof.Rows.All
import Wide.All
import OpenK.AllK
import Wide.FinOn
import Lean
import PyProof.EqAt
import PyProof.EqKinds
import PyProof.TupleCall
import PyProof.NeKinds
import PySem.Challenge.RW_namecall_k07_whole_words_make_no_differe
set_option Elab.async false
set_option linter.all false
set_option maxRecDepth 100000
/-! THE HAND LAYER, for ints, bools, texts, own classes, LISTS and tuples (index, slices, in, append, pop ..), calls, loops. Paste it whole ahead of your own text; what your proof does not reach may be deleted. -/
namespace L2
open PySem PySem.Spec PyProof.Rows

/-- a key: an int or a str -/
abbrev Key := Sum Int Str
def keyIs : Key → Value → Bool
  | .inl k, v => Value.isInt k v
  | .inr x, v => Value.isStrOf x v
def keyH (w : World) : Key → Int
  | .inl k => hashInt k
  | .inr x => hashStr w x
theorem keyIs_shape : ∀ {k : Key} {v : Value}, keyIs k v = true → (∃ i t, k = Sum.inl i ∧ v = Value.int i t) ∨ (∃ x t, k = Sum.inr x ∧ v = Value.str x t)
  | .inl i, v, h => by
    obtain ⟨t, e⟩ := Value.isInt_shape (k := i) (v := v) h
    exact .inl ⟨i, t, rfl, e⟩
  | .inr x, v, h => by
    obtain ⟨t, e⟩ := Value.isStrOf_shape (x := x) (v := v) h
    exact .inr ⟨x, t, rfl, e⟩
theorem key_ll (a b : Int) : decide ((Sum.inl a : Key) = Sum.inl b) = (a == b) := by
  by_cases e : a = b
  · subst e; simp
  · have h : ¬ (Sum.inl a : Key) = Sum.inl b := fun q => e (Sum.inl.inj q)
    rw [decide_eq_false h]
    exact (beq_eq_false_iff_ne.mpr e).symm
theorem key_rr (a b : Str) : decide ((Sum.inr a : Key) = Sum.inr b) = decide (a = b) := by
  by_cases e : a = b
  · subst e; simp
  · have h : ¬ (Sum.inr a : Key) = Sum.inr b := fun q => e (Sum.inr.inj q)
    rw [decide_eq_false h, decide_eq_false e]
theorem key_lr (a : Int) (b : Str) : decide ((Sum.inl a : Key) = Sum.inr b) = false := decide_eq_false (fun q => nomatch q)
theorem key_rl (a : Str) (b : Int) : decide ((Sum.inr a : Key) = Sum.inl b) = false := decide_eq_false (fun q => nomatch q)

def mixKind (prog : Program) (w : World) : PySem.KeyKind prog w Key where
  is := keyIs
  hash := keyH w
  inj := fun v a b ha hb => by
    rcases keyIs_shape ha with ⟨i, t, rfl, rfl⟩ | ⟨x, t, rfl, rfl⟩
    · rcases keyIs_shape hb with ⟨j, u, rfl, e⟩ | ⟨y, u, rfl, e⟩
      · injection e with e1 _; rw [e1]
      · exact nomatch e
    · rcases keyIs_shape hb with ⟨j, u, rfl, e⟩ | ⟨y, u, rfl, e⟩
      · exact nomatch e
      · injection e with e1 _; rw [e1]
  byValue := fun k v h => by
    rcases keyIs_shape h with ⟨i, t, rfl, rfl⟩ | ⟨x, t, rfl, rfl⟩ <;> rfl
  pyHash := fun hv h => by
    rcases keyIs_shape hv with ⟨i, t, rfl, rfl⟩ | ⟨x, t, rfl, rfl⟩
    · exact wpAny_pyHash_int h
    · exact wpAny_pyHash_str h
  eqBool := fun hu hv h => by
    rcases keyIs_shape hu with ⟨i, t, rfl, rfl⟩ | ⟨x, t, rfl, rfl⟩
    · rcases keyIs_shape hv with ⟨j, u, rfl, rfl⟩ | ⟨y, u, rfl, rfl⟩
      · rw [key_ll] at h; exact wpAny_eqBool_int h
      · rw [key_lr] at h; exact SeqAt.EqAt.int_str i t y u _ _ _ _ h
    · rcases keyIs_shape hv with ⟨j, u, rfl, rfl⟩ | ⟨y, u, rfl, rfl⟩
      · rw [key_rl] at h; exact SeqAt.EqAt.str_int x t j u _ _ _ _ h
      · rw [key_rr] at h; exact wpAny_eqBool_str h
  «strs» := fun k x t v h => by
    rcases keyIs_shape h with ⟨i, u, rfl, e⟩ | ⟨y, u, rfl, e⟩
    · exact nomatch e
    · injection e with e1 _
      subst e1
      cases v <;> rfl

end L2

namespace L2
open PySem PySem.Spec PyProof.Rows

/-- a value, without the heap -/
inductive V where
  | non | bl (b : Bool) | int (i : Int) | str (x : Str) | byt (b : Array UInt8) | flt (b : UInt64) | ref (a : Addr) | ty (n : String)
  deriving DecidableEq

def RelV : V → Value → Prop
  | .non, u => u = Value.none
  | .bl b, u => u = Value.bool b
  | .int i, u => ∃ t, u = Value.int i t
  | .str x, u => ∃ t, u = Value.str x t
  | .byt b, u => ∃ t, u = Value.bytes b t
  | .flt b, u => ∃ t, u = Value.float b t
  | .ref a, u => u = Value.ref a
  | .ty n, u => u = Value.type n

abbrev Vals : List V → List Value → Prop := Paired RelV
theorem Vals.length {xs : List V} {us : List Value} (r : Vals xs us) : xs.length = us.length := Paired.length r
theorem Vals.get : ∀ {xs : List V} {us : List Value} {i : Nat} {x : V}, Vals xs us → xs[i]? = some x → ∃ u, us[i]? = some u ∧ RelV x u
  | _, _, _, _, .nil, e => by simp at e
  | _, _, 0, _, .cons r _, e => by simp at e; subst e; exact ⟨_, rfl, r⟩
  | _, _, i + 1, x, .cons _ t, e => by
    obtain ⟨u, h1, h2⟩ := Vals.get (i := i) (x := x) t (by simpa using e)
    exact ⟨u, by simpa using h1, h2⟩
theorem Vals.set {x : V} {u : Value} (r : RelV x u) : ∀ {xs : List V} {us : List Value} (i : Nat), Vals xs us → Vals (xs.set i x) (us.set i u)
  | _, _, _, .nil => .nil
  | _, _, 0, .cons _ t => .cons r t
  | _, _, i + 1, .cons q t => .cons q (Vals.set r i t)
theorem Vals.append : ∀ {xs ys : List V} {us ws : List Value}, Vals xs us → Vals ys ws → Vals (xs ++ ys) (us ++ ws)
  | _, _, _, _, .nil, s => s
  | _, _, _, _, .cons r t, s => .cons r (Vals.append t s)
theorem Vals.take : ∀ {xs : List V} {us : List Value} (n : Nat), Vals xs us → Vals (xs.take n) (us.take n)
  | _, _, 0, _ => .nil
  | _, _, _ + 1, .nil => .nil
  | _, _, n + 1, .cons r t => .cons r (Vals.take n t)
theorem Vals.drop : ∀ {xs : List V} {us : List Value} (n : Nat), Vals xs us → Vals (xs.drop n) (us.drop n)
  | _, _, 0, r => r
  | _, _, _ + 1, .nil => .nil
  | _, _, n + 1, .cons _ t => Vals.drop n t
theorem Vals.none_of : ∀ {xs : List V} {us : List Value} {i : Nat}, Vals xs us → xs[i]? = none → us[i]? = none := fun {xs us i} r e => by
  have h1 := r.length
  have h2 : xs.length ≤ i := List.getElem?_eq_none_iff.mp e
  exact List.getElem?_eq_none_iff.mpr (by omega)

def RelO : Option V → Option Value → Prop
  | some v, some u => RelV v u
  | none, none => True
  | _, _ => False
def KV {κ : Type} : List (κ × V) → List (κ × Value) → Prop := Paired fun (p : κ × V) (q : κ × Value) => p.1 = q.1 ∧ RelV p.2 q.2

/-- a key of a dict (00_mix): an int or a text -/
def kV : Key → V
  | .inl i => .int i
  | .inr x => .str x

/-- what stands at a tracked address -/
inductive HO where
  /-- a list -/
  | lst (xs : List V)
  /-- a tuple (never changes) -/
  | tup (xs : List V)
  /-- a dict whose keys are ints and texts; one whose keys are tuples of ints and texts (the empty one is both) -/
  | dK (kvs : List (Key × V)) | dT (kvs : List (List Key × V))
  /-- a set of ints: its members, its size -/
  | set (S : Int → Bool) (n : Nat)
  /-- an instance of the class at C, its dict at dx, its attributes -/
  | ins (C dx : Addr) (fs : List (Str × V))
  /-- the dict of the instance at x -/
  | own (x : Addr)
  /-- the dict of an exception -/
  | xd (fs : List (Str × V))
  /-- a bound method, f of x -/
  | met (f x : Addr)
  /-- a range object lo, lo + 1, .. below hi -/
  | rng (lo hi : Int)
  /-- a thing that is known to the object (the script; a dict while a loop walks it): read, never written while it is so -/
  | frz (o : Obj) (u : HO)
  /-- a code object's table -/
  | tbl (ps : Array Value)
  /-- any other thing, by what is true of its one object (a def of one's own: SetO a S n := HO.ext fun h => ..) -/
  | ext (φ : Heap → Prop)

abbrev Hp := Addr → Option HO
def upd (H : Hp) (a : Addr) (o : HO) : Hp := fun b => if b = a then some o else H b
theorem upd_same {H : Hp} {a : Addr} {o : HO} : upd H a o a = some o := by unfold upd; rw [if_pos rfl]
theorem upd_ne {H : Hp} {a b : Addr} {o : HO} (h : b ≠ a) : upd H a o b = H b := by unfold upd; rw [if_neg h]
theorem ne_of_none {H : Hp} {a b : Addr} {o : HO} (h : H a = some o) (h' : H b = none) : a ≠ b := by
  intro e; subst e; rw [h] at h'; cases h'

section
variable (P : Program) (w : World)
def ObjOk (H : Hp) (h : Heap) (a : Addr) : HO → Prop
  | .lst xs => xs.length ≤ sizeLine ∧ ∃ (its : List Value) (n : Nat), Vals xs its ∧ h.get? a = some { cls := .type "list", data := .seq its.toArray n }
  | .tup xs => xs.length ≤ sizeLine ∧ ∃ its : List Value, Vals xs its ∧ IsTup h a its.toArray
  | .dK kvs => kvs.length ≤ sizeLine ∧ (a == sysModules) = false ∧ ∃ vs, KV kvs vs ∧ h.DictOf (mixKind P w) a vs
  | .dT kvs => kvs.length ≤ sizeLine ∧ (a == sysModules) = false ∧ ∃ xs : List (List Key × Addr × Value),
      Paired (fun (p : List Key × V) (q : List Key × Addr × Value) => p.1 = q.1 ∧ H q.2.1 = some (.tup (p.1.map kV)) ∧ RelV p.2 q.2.2) kvs xs ∧
      ∃ o es ep, h.get? a = some o ∧ o.ExactDict ∧ o.data = .dict es ep ∧ es.toList = xs.map (entryOfKey (tupleKind (mixKind P w))) ∧ (xs.map (·.1)).Nodup
  | .set S n => h.SetOf (intKind P w) a S n
  | .ins C dx fs => H dx = some (.own a) ∧ fs.length ≤ 1000 ∧ dx ≠ a ∧ h.get? a = some (PySem.W.instObj C dx) ∧
      ∃ mA, h.Ns1 dx mA ∧ (∀ f, RelO (fs.lookup f) (mA f)) ∧ PySem.Within mA (fs.map (·.1))
  | .own _ => ∃ o, h.get? a = some o
  | .xd fs => ∃ mA, h.Ns1 a mA ∧ ∀ f, RelO (fs.lookup f) (mA f)
  | .rng lo hi => ∃ t u v, h.get? a = some { cls := .type "range", data := .fields #[.int lo t, .int hi u, .int 1 v] }
  | .frz o u => h.get? a = some o ∧ ObjOk H h a u
  | .tbl ps => h.get? a = some { cls := .none, data := .fields ps }
  | .met f x => h.get? a = some (PySem.W.methodObj (.ref f) (.ref x))
  | .ext φ => φ h ∧ (∃ o, h.get? a = some o) ∧ ∀ h1 h2 : Heap, φ h1 → (∀ o, h1.get? a = some o → h2.get? a = some o) → φ h2
/-- the abstract heap is held -/
def HOk (H : Hp) (h : Heap) : Prop := ∀ a o, H a = some o → ObjOk P w H h a o
end

section
variable {P : Program} {w : World} {H H' : Hp} {h h' : Heap} {a : Addr} {o : HO}
theorem ObjOk.lt (x : ObjOk P w H h a o) : a < h.objs.size := by
  cases o with
  | lst xs => obtain ⟨_, _, _, _, e⟩ := x; exact Heap.lt_size e
  | tup xs => obtain ⟨_, _, _, p⟩ := x; exact p.lt
  | dK kvs => obtain ⟨_, _, _, _, o, _, _, e, _⟩ := x; exact Heap.lt_size e
  | dT kvs => obtain ⟨_, _, _, _, o, _, _, e, _⟩ := x; exact Heap.lt_size e
  | set S n => obtain ⟨o, _, _, _, e, _⟩ := x; exact Heap.lt_size e
  | ins C dx fs => obtain ⟨_, _, _, e, _⟩ := x; exact Heap.lt_size e
  | own y => obtain ⟨_, e⟩ := x; exact Heap.lt_size e
  | xd fs => obtain ⟨_, ⟨_, _, _, e, _⟩, _⟩ := x; exact Heap.lt_size e
  | rng lo hi => obtain ⟨_, _, _, e⟩ := x; exact Heap.lt_size e
  | frz ob u => obtain ⟨e, _⟩ := x; exact Heap.lt_size e
  | tbl ps => exact Heap.lt_size (show h.get? a = some _ from x)
  | met f y => exact Heap.lt_size (show h.get? a = some _ from x)
  | ext φ => obtain ⟨_, ⟨_, e⟩, _⟩ := x; exact Heap.lt_size e
theorem Paired.mapP {α β : Type} {F G : α → β → Prop} : ∀ {l₁ : List α} {l₂ : List β}, Paired F l₁ l₂ → (∀ a b, F a b → G a b) → Paired G l₁ l₂
  | _, _, .nil, _ => .nil
  | _, _, .cons r t, f => .cons (f _ _ r) (Paired.mapP t f)
/-- what an object's description leans on: its own object, its own dict, the tuples -/
theorem ObjOk.stay (x : ObjOk P w H h a o) (k : ∀ b u, (b = a ∨ H b = some (.own a)) → h.get? b = some u → h'.get? b = some u)
    (ho : ∀ b, H b = some (.own a) → H' b = some (.own a)) (ht : ∀ b xs, H b = some (.tup xs) → H' b = some (.tup xs)) : ObjOk P w H' h' a o := by
  induction o with
  | lst xs => obtain ⟨z, its, n, r, e⟩ := x; exact ⟨z, its, n, r, k _ _ (.inl rfl) e⟩
  | tup xs => obtain ⟨z, its, r, ob, e, c⟩ := x; exact ⟨z, its, r, ob, k _ _ (.inl rfl) e, c⟩
  | dK kvs => obtain ⟨z, y, vs, r, ob, es, ep, e, c⟩ := x; exact ⟨z, y, vs, r, ob, es, ep, k _ _ (.inl rfl) e, c⟩
  | dT kvs =>
    obtain ⟨z, y, xs, r, ob, es, ep, e, c⟩ := x
    exact ⟨z, y, xs, Paired.mapP r fun p q z => ⟨z.1, ht _ _ z.2.1, z.2.2⟩, ob, es, ep, k _ _ (.inl rfl) e, c⟩
  | set S n => obtain ⟨ob, es, ep, t, e, c⟩ := x; exact ⟨ob, es, ep, t, k _ _ (.inl rfl) e, c⟩
  | ins C dx fs =>
    obtain ⟨d, z, ne, e, mA, ⟨od, es, ep, e2, c⟩, r⟩ := x
    exact ⟨ho _ d, z, ne, k _ _ (.inl rfl) e, mA, ⟨od, es, ep, k _ _ (.inr d) e2, c⟩, r⟩
  | own y => obtain ⟨ob, e⟩ := x; exact ⟨ob, k _ _ (.inl rfl) e⟩
  | xd fs => obtain ⟨mA, ⟨od, es, ep, e, c⟩, r⟩ := x; exact ⟨mA, ⟨od, es, ep, k _ _ (.inl rfl) e, c⟩, r⟩
  | rng lo hi => obtain ⟨t, u, v, e⟩ := x; exact ⟨t, u, v, k _ _ (.inl rfl) e⟩
  | frz ob u ih => obtain ⟨e, q⟩ := x; exact ⟨k _ _ (.inl rfl) e, ih q⟩
  | tbl ps =>
    have e : h.get? a = some { cls := .none, data := .fields ps } := x
    show h'.get? a = some { cls := .none, data := .fields ps }
    exact k a _ (.inl rfl) e
  | met f y =>
    have e : h.get? a = some (PySem.W.methodObj (.ref f) (.ref y)) := x
    show h'.get? a = some (PySem.W.methodObj (.ref f) (.ref y))
    exact k a _ (.inl rfl) e
  | ext φ => obtain ⟨p, ⟨o, e⟩, st⟩ := x; exact ⟨st _ _ p fun o q => k _ _ (.inl rfl) q, ⟨o, k _ _ (.inl rfl) e⟩, st⟩
theorem HOk.lt (x : HOk P w H h) (e : H a = some o) : a < h.objs.size := (x a o e).lt
theorem HOk.fresh (x : HOk P w H h) (e : h.objs.size ≤ a) : H a = none := by
  cases q : H a with
  | none => rfl
  | some u => exact absurd (Nat.lt_of_lt_of_le (x.lt q) e) (Nat.lt_irrefl _)
/-- every object of the heap is kept -/
theorem HOk.kept (x : HOk P w H h) (k : ∀ b u, h.get? b = some u → h'.get? b = some u) : HOk P w H h' := fun a o e =>
  (x a o e).stay (fun b u _ q => k b u q) (fun _ q => q) fun _ _ q => q
/-- a new object is laid and tracked -/
theorem HOk.laid (x : HOk P w H h) (k : ∀ b u, h.get? b = some u → h'.get? b = some u) (hp : h.objs.size ≤ a) (new : ObjOk P w (upd H a o) h' a o) : HOk P w (upd H a o) h' := fun b u e => by
  have hn := x.fresh hp
  by_cases hb : b = a
  · subst hb; rw [upd_same] at e; cases e; exact new
  · rw [upd_ne hb] at e
    exact (x b u e).stay (fun c v _ q => k c v q) (fun c q => by rw [upd_ne (ne_of_none q hn)]; exact q) fun c xs q => by rw [upd_ne (ne_of_none q hn)]; exact q
end

/-- what may be read as u: it is u, or a known u -/
def Rd (H : Hp) (a : Addr) (u : HO) : Prop := H a = some u ∨ ∃ o, H a = some (.frz o u)
theorem Rd.of {H : Hp} {a : Addr} {u : HO} (h : H a = some u) : Rd H a u := .inl h
theorem Rd.ok {P : Program} {w : World} {H : Hp} {h : Heap} {a : Addr} {u : HO} (r : Rd H a u) (x : HOk P w H h) : ObjOk P w H h a u := by
  rcases r with r | ⟨o, r⟩
  · exact x a u r
  · obtain ⟨_, q⟩ := x a _ r
    exact q
/-- what may be written -/
def Mut : Option HO → Prop
  | some (.lst _) => True
  | some (.dK _) => True
  | some (.dT _) => True
  | some (.set _ _) => True
  | some (.ins _ _ _) => True
  | some (.ext _) => True
  | _ => False
section
variable {P : Program} {w : World} {H : Hp} {h h' : Heap} {x e : Addr} {o' : HO}
/-- the object at e is changed: x itself, or the dict of the instance x -/
theorem HOk.write (ok : HOk P w H h) (mu : Mut (H x)) (he : e = x ∨ H e = some (.own x)) (k : ∀ b u, b ≠ e → h.get? b = some u → h'.get? b = some u) (heo : ∃ u, h'.get? e = some u)
    (new : ObjOk P w (upd H x o') h' x o') : HOk P w (upd H x o') h' := fun b u q => by
  have nown : ∀ c y, H c = some (.own y) → c ≠ x := fun c y r z => by subst z; rw [r] at mu; exact mu
  have ntup : ∀ c xs, H c = some (.tup xs) → c ≠ x := fun c xs r z => by subst z; rw [r] at mu; exact mu
  by_cases hb : b = x
  · subst hb; rw [upd_same] at q; cases q; exact new
  · rw [upd_ne hb] at q
    by_cases hbe : b = e
    · have q' : H b = some (.own x) := by
        rcases he with z | z
        · exact absurd (hbe.trans z) hb
        · rw [hbe]; exact z
      rw [q] at q'; cases q'
      obtain ⟨v, hv⟩ := heo
      exact ⟨v, by rw [hbe]; exact hv⟩
    · refine (ok b u q).stay (fun c v hc r => k c v ?_ r) (fun c r => by rw [upd_ne (nown c b r)]; exact r) fun c xs r => by rw [upd_ne (ntup c xs r)]; exact r
      rcases hc with rfl | hc
      · exact hbe
      · rintro rfl
        rcases he with z | z
        · exact nown c b hc z
        · rw [hc] at z; cases z; exact hb rfl
end

/-! ### kept unless tracked; of the frames at fs (the callers') the slots may change (an exception that passes writes there); of the records at ex (iterators) nothing is said -/
structure Un (fs ex : List Addr) (H H' : Hp) (h h' : Heap) : Prop where
  keep : ∀ b o, h.get? b = some o → H b = none → b ∉ fs → b ∉ ex → h'.get? b = some o
  slot : ∀ b o, h.get? b = some o → H b = none → b ∈ fs → b ∉ ex → ∃ sl, h'.get? b = some { o with slots := sl }
  free : ∀ b o, h.get? b = some o → H b = none → b ∉ ex → H' b = none
  there : ∀ b o, h.get? b = some o → b ∉ ex → ∃ o', h'.get? b = some o'
  tups : ∀ b xs, H b = some (.tup xs) → H' b = some (.tup xs)
  frzs : ∀ b o u, H b = some (.frz o u) → H' b = some (.frz o u)
  tbls : ∀ b ps, H b = some (.tbl ps) → ∃ more, H' b = some (.tbl (ps ++ more))
section
variable {fs fs' ex ex' : List Addr} {H H1 H2 : Hp} {h h1 h2 h' : Heap} {a x e : Addr} {o : HO}
theorem Un.any (u : Un fs ex H H1 h h1) {b : Addr} {ob : Obj} (q : h.get? b = some ob) (n : H b = none) (hx : b ∉ ex) : ∃ sl, h1.get? b = some { ob with slots := sl } := by
  by_cases hb : b ∈ fs
  · exact u.slot b ob q n hb hx
  · exact ⟨ob.slots, u.keep b ob q n hb hx⟩
theorem Un.trans (a : Un fs ex H H1 h h1) (b : Un fs ex H1 H2 h1 h2) : Un fs ex H H2 h h2 where
  keep := fun c ob q n hc hx => b.keep c ob (a.keep c ob q n hc hx) (a.free c ob q n hx) hc hx
  slot := fun c ob q n hc hx => by
    obtain ⟨sl, e1⟩ := a.slot c ob q n hc hx
    obtain ⟨sl', e2⟩ := b.slot c _ e1 (a.free c ob q n hx) hc hx
    exact ⟨sl', e2⟩
  free := fun c ob q n hx => by
    obtain ⟨o', e1⟩ := a.there c ob q hx
    exact b.free c o' e1 (a.free c ob q n hx) hx
  there := fun c ob q hx => by
    obtain ⟨o', e1⟩ := a.there c ob q hx
    exact b.there c o' e1 hx
  tups := fun c xs q => b.tups c xs (a.tups c xs q)
  frzs := fun c ob xs q => b.frzs c ob xs (a.frzs c ob xs q)
  tbls := fun c ps q => by
    obtain ⟨m1, e1⟩ := a.tbls c ps q
    obtain ⟨m2, e2⟩ := b.tbls c _ e1
    exact ⟨m1 ++ m2, by rw [e2, Array.append_assoc]⟩
theorem Un.kept (k : ∀ b u, h.get? b = some u → h'.get? b = some u) : Un fs ex H H h h' :=
  ⟨fun b ob q _ _ _ => k b ob q, fun b ob q _ _ _ => ⟨ob.slots, k b ob q⟩, fun _ _ _ n _ => n, fun b ob q _ => ⟨ob, k b ob q⟩, fun _ _ q => q, fun _ _ _ q => q, fun _ ps q => ⟨#[], by rw [q]; simp⟩⟩
theorem Un.refl : Un fs ex H H h h := Un.kept fun _ _ q => q
theorem Un.laid (k : ∀ b u, h.get? b = some u → h'.get? b = some u) (hp : h.objs.size ≤ a) (hn : H a = none) : Un fs ex H (upd H a o) h h' where
  keep := fun b u q _ _ _ => k b u q
  slot := fun b u q _ _ _ => ⟨u.slots, k b u q⟩
  free := fun b u q n _ => by rw [upd_ne (Nat.ne_of_lt (Nat.lt_of_lt_of_le (Heap.lt_size q) hp))]; exact n
  there := fun b u q _ => ⟨u, k b u q⟩
  tups := fun b xs q => by rw [upd_ne (ne_of_none q hn)]; exact q
  frzs := fun b u xs q => by rw [upd_ne (ne_of_none q hn)]; exact q
  tbls := fun b ps q => ⟨#[], by rw [upd_ne (ne_of_none q hn), q]; simp⟩
theorem Un.write (mu : Mut (H x)) (he : e = x ∨ H e = some (.own x)) (k : ∀ b u, b ≠ e → h.get? b = some u → h'.get? b = some u) (heo : ∃ u, h'.get? e = some u) : Un fs ex H (upd H x o) h h' := by
  have hx : ∀ b, H b = none → b ≠ x := fun b n z => by subst z; rw [n] at mu; exact mu
  have hb : ∀ b, H b = none → b ≠ e := fun b n z => by
    subst z
    rcases he with r | r
    · exact hx b n r
    · rw [n] at r; cases r
  have hm : ∀ b u, H b = some u → ¬ Mut (some u) → b ≠ x := fun b u q nm z => by subst z; rw [q] at mu; exact nm mu
  refine ⟨fun b u q n _ _ => k b u (hb b n) q, fun b u q n _ _ => ⟨u.slots, k b u (hb b n) q⟩, fun b u q n _ => by rw [upd_ne (hx b n)]; exact n, fun b u q _ => ?_,
    fun b xs q => by rw [upd_ne (hm b _ q fun z => z)]; exact q, fun b u xs q => by rw [upd_ne (hm b _ q fun z => z)]; exact q, fun b ps q => ⟨#[], by rw [upd_ne (hm b _ q fun z => z), q]; simp⟩⟩
  by_cases hbe : b = e
  · subst hbe; exact heo
  · exact ⟨u, k b u hbe q⟩
theorem Un.mono (u : Un fs ex H H1 h h1) (hs : ∀ b ∈ fs, b ∈ fs') (hx : ∀ b ∈ ex, b ∈ ex') : Un fs' ex' H H1 h h1 :=
  ⟨fun b ob q n hb he => u.keep b ob q n (fun z => hb (hs b z)) fun z => he (hx b z), fun _ _ q n _ he => u.any q n fun z => he (hx _ z), fun b ob q n he => u.free b ob q n fun z => he (hx b z), fun b ob q he => u.there b ob q fun z => he (hx b z), u.tups, u.frzs, u.tbls⟩
end

/-! ### the heap without what is tracked -/
def trk (h : Heap) (H : Hp) : List Addr := (List.range h.objs.size).filter fun a => (H a).isSome
def hidT (h : Heap) (H : Hp) : Heap := PySem.W.hideAll h (trk h H)
theorem hidT_size (h : Heap) (H : Hp) : (hidT h H).objs.size = h.objs.size := PySem.W.hideAll_size _ _
theorem hidT_get {h : Heap} {H : Hp} {b : Addr} {o : Obj} (e : h.get? b = some o) (n : H b = none) : (hidT h H).get? b = some o :=
  PySem.W.hideAll_get _ e fun hm => by
    have q : (H b).isSome = true := (List.mem_filter.mp hm).2
    rw [n] at q; simp at q
theorem of_hidT {h : Heap} {H : Hp} {b : Addr} {o : Obj} (e : (hidT h H).get? b = some o) : h.get? b = some o ∧ H b = none := by
  have e' : h.get? b = some o := PySem.W.of_hideAll (trk h H) e
  refine ⟨e', ?_⟩
  cases q : H b with
  | none => rfl
  | some x =>
    have hm : b ∈ trk h H := List.mem_filter.mpr ⟨List.mem_range.mpr (Heap.lt_size e'), by simp [q]⟩
    have z : (hidT h H).get? b = none := PySem.W.hideAll_none (trk h H) hm
    rw [z] at e; cases e

/-! ### OpenK's ledger, filled with every new object but one -/
def allNews (g h : Heap) (L : Addr) : List (Addr × Obj) := (List.range h.objs.size).filterMap fun a => if a = L ∨ (g.get? a).isSome = true then none else (h.get? a).map fun o => (a, o)
def rest (g h : Heap) (L d : Addr) : List (Addr × Obj) := (allNews g h L).filter fun p => decide (p.1 ≠ d)
end L2

namespace L2
open PySem PySem.Spec PyProof.Rows

/-- the module's facts, over the base: the heap at the law's entry without what is tracked there -/
structure Mod (K : PySem.W.Frag) (mg : Str → Option Value) (base : Heap) : Prop where
  kin : K.In base
  glob : base.Ns mainGlobals mg
  blt : ∃ mb, base.Ns builtinsNs mb ∧ ∀ x : Str, x ≠ "__name__" → mb x = bootBuiltins x
  nolimit : base.NoLimit

/-- the context: a def's body (or a comprehension's block) running. base: fixed through the whole law; s₀, H₀: the entry; outer: the frames whose slots others may change (a def's callers); stack: all frames that run;
   ex: iterators that were made ahead of the entry and are walked here (a comprehension's); fn: the names whose cells were made at the entry (a def: all; a comprehension's block: its own); calm: not within an except suite; pn: pins that every state bears; xe: what is wanted of an exception that leaves the code -/
structure Cx where
  prog : Program
  w : World
  K : PySem.W.Frag
  mg : Str → Option Value
  base : Heap
  A : Around
  N : List Str
  s₀ : Shared
  H₀ : Hp
  env : Env
  outer : List Env
  stack : List Env
  ex : List Addr
  fn : Str → Bool
  calm : Bool
  pn : List (Addr × Obj)
  xe : Value → Shared → Prop
/-- the callers' frames -/
def frs (l : List Env) : List Addr := l.filterMap (·.frame)
abbrev Cx.fs (X : Cx) : List Addr := frs X.outer

def Vis (sc : Scope) (x : Str) : Prop := sc.names.lookup x = some .local ∨ sc.names.lookup x = some .cell ∨ sc.names.lookup x = some .free
def Loc (sc : Scope) (x : Str) : Prop := sc.names.lookup x = some .local ∨ sc.names.lookup x = some .cell
def Look (env : Env) (h : Heap) (m : Str → Option Value) (x : Str) (u : Value) : Prop :=
  (env.kindOf x = some .local ∧ m x = some u) ∨ ((env.kindOf x = some .cell ∨ env.kindOf x = some .free) ∧ ∃ c, env.cells.lookup x = some c ∧ h.IsCell c (some u))

structure Cx.Ok (X : Cx) : Prop where
  mod : Mod X.K X.mg X.base
  kind : X.env.scope.kind = .function
  glob : X.env.globals = mainGlobals
  blt : X.env.builtins = builtinsNs
  above : X.s₀.heap.objs.size ≤ X.env.locals
  inj : ∀ x y c, X.env.cells.lookup x = some c → X.env.cells.lookup y = some c → x = y
  has : ∀ x, (X.env.kindOf x = some .cell ∨ X.env.kindOf x = some .free) → ∃ c, X.env.cells.lookup x = some c
  cab : ∀ x c, X.fn x = true → X.env.cells.lookup x = some c → X.s₀.heap.objs.size ≤ c
  hd : X.calm = true → X.A.handled = none
  frames : X.A.frames = some X.stack
  stk : X.stack = X.outer ∨ (X.stack = X.env :: X.outer ∧ X.env.frame = some X.env.locals)
  exf : ∀ b ∈ X.ex, b ≠ X.env.locals ∧ ∀ x c, X.env.cells.lookup x = some c → c ≠ b
  bs : ∀ b o, X.base.get? b = some o → X.s₀.heap.get? b = some o ∧ X.H₀ b = none
  bsz : X.base.objs.size ≤ X.s₀.heap.objs.size
  noex : ∀ b o, X.base.get? b = some o → b ∉ X.ex
  exfs : ∀ b ∈ X.ex, b ∉ X.fs
  funs : X.s₀.heap.FunFrames X.base X.outer
  frf : ∀ b ∈ X.fs, X.H₀ b = none

structure Inv (X : Cx) (pins : List (Addr × Obj)) (σ : List (Option V)) (H : Hp) (s : Shared) : Prop where
  ok : X.Ok
  os : s.os = X.s₀.os
  bare : AllBare s.gens
  base : Un X.fs X.ex X.H₀ H X.s₀.heap s.heap
  loc : ∃ m, s.heap.Ns X.env.locals m ∧ ∀ (i : Nat) (x : Str) (v : V), X.N[i]? = some x → σ[i]? = some (some v) → Vis X.env.scope x → ∃ u, RelV v u ∧ Look X.env s.heap m x u
  cell : ∀ x c, X.env.cells.lookup x = some c → ∃ v, s.heap.IsCell c v
  free : H X.env.locals = none
  freeC : ∀ x c, X.env.cells.lookup x = some c → H c = none
  pin : ∀ p ∈ X.pn ++ pins, s.heap.get? p.1 = some p.2 ∧ H p.1 = none ∧ p.1 ≠ X.env.locals ∧ p.1 ∉ X.fs ∧ ∀ v, p.2.data ≠ .cell v
  hok : HOk X.prog X.w H s.heap
  len : σ.length = X.N.length

section
variable {X : Cx} {pins : List (Addr × Obj)} {σ : List (Option V)} {H H' : Hp} {s : Shared} {h' : Heap}

theorem Cx.Ok.nofr (ok : X.Ok) {b : Addr} {o : Obj} (e : X.base.get? b = some o) : b ∉ X.fs := fun hb => by
  have := (ok.funs.mem hb).1
  rw [e] at this; cases this
theorem Inv.bs (I : Inv X pins σ H s) : ∀ b o, X.base.get? b = some o → s.heap.get? b = some o ∧ H b = none := fun b o e =>
  ⟨I.base.keep b o (I.ok.bs b o e).1 (I.ok.bs b o e).2 (I.ok.nofr e) (I.ok.noex b o e), I.base.free b o (I.ok.bs b o e).1 (I.ok.bs b o e).2 (I.ok.noex b o e)⟩
theorem Inv.bk (I : Inv X pins σ H s) : ∀ b o, X.base.get? b = some o → s.heap.get? b = some o := fun b o e => (I.bs b o e).1
theorem Inv.mod (I : Inv X pins σ H s) : Mod X.K X.mg X.base := I.ok.mod
theorem Inv.kIn (I : Inv X pins σ H s) : X.K.In s.heap := I.ok.mod.kin.keeps I.bk
theorem Inv.nolimit (I : Inv X pins σ H s) : s.heap.NoLimit := I.ok.mod.nolimit.keeps I.bk
/-- the frame over the base: for OpenK's rules (K.In X.base is I.mod.kin) -/
theorem Inv.fr (I : Inv X pins σ H s) : ∃ m, Fr X.base X.env.locals s.heap m :=
  let ⟨m, hn, _⟩ := I.loc
  ⟨m, hn, I.bk, Nat.le_trans I.ok.bsz I.ok.above⟩
theorem Inv.lt (I : Inv X pins σ H s) : X.env.locals < s.heap.objs.size := let ⟨_, hn, _⟩ := I.loc; hn.lt
theorem Inv.sz (I : Inv X pins σ H s) : X.s₀.heap.objs.size ≤ s.heap.objs.size := Nat.le_trans I.ok.above (Nat.le_of_lt I.lt)
theorem Inv.nofs (I : Inv X pins σ H s) {a : Addr} (h : s.heap.objs.size ≤ a) : a ∉ X.fs := fun hb => by
  obtain ⟨_, o, ho, _⟩ := I.ok.funs.mem hb
  exact absurd (Nat.lt_of_lt_of_le (Heap.lt_size ho) (Nat.le_trans I.sz h)) (Nat.lt_irrefl _)
theorem Inv.cne (I : Inv X pins σ H s) : ∀ x c, X.env.cells.lookup x = some c → c ≠ X.env.locals := fun x c e z => by
  obtain ⟨v, o, ho, hd⟩ := I.cell x c e
  obtain ⟨m, ⟨o', es, ep, ho', hd', _⟩, _⟩ := I.loc
  rw [z, ho'] at ho; cases ho; rw [hd'] at hd; cases hd
theorem Inv.funs (I : Inv X pins σ H s) : s.heap.FunFrames X.base X.outer := by
  have all : ∀ (l : List Env), (∀ b ∈ frs l, b ∈ X.fs) → X.s₀.heap.FunFrames X.base l → s.heap.FunFrames X.base l := by
    intro l
    induction l with
    | nil => intro _ _; trivial
    | cons env r ih =>
      intro hs hl
      obtain ⟨hk, ⟨L, o, hf, hn, ho, hd⟩, hr⟩ := hl
      have hL : L ∈ X.fs := hs L (by unfold frs; rw [List.filterMap_cons, hf]; exact List.mem_cons_self)
      obtain ⟨sl, e⟩ := I.base.slot L o ho (I.ok.frf L hL) hL fun z => I.ok.exfs L z hL
      exact ⟨hk, ⟨L, _, hf, hn, e, hd⟩, ih (fun b hb => hs b (by unfold frs; rw [List.filterMap_cons, hf]; exact List.mem_cons_of_mem _ hb)) hr⟩
  exact all X.outer (fun _ hb => hb) I.ok.funs

/-- the frames that run, for a call -/
theorem Inv.stack (I : Inv X pins σ H s) : s.heap.FunFrames X.base X.stack := by
  rcases I.ok.stk with e | ⟨e, hf⟩
  · rw [e]; exact I.funs
  · rw [e]
    obtain ⟨m, hn, _⟩ := I.loc
    refine .cons (by rw [I.ok.kind]; decide) hf hn ?_ I.funs
    exact Heap.get?_none_of_le (Nat.le_trans I.ok.bsz I.ok.above)
theorem Inv.stkSub (I : Inv X pins σ H s) : ∀ b ∈ frs X.stack, b ∈ X.env.locals :: X.fs := fun b hb => by
  rcases I.ok.stk with e | ⟨e, hf⟩
  · rw [e] at hb; exact List.mem_cons_of_mem _ hb
  · rw [e] at hb
    unfold frs at hb
    rw [List.filterMap_cons, hf] at hb
    exact hb
theorem Inv.stkFree (I : Inv X pins σ H s) : ∀ b ∈ frs X.stack, H b = none := fun b hb => by
  rcases List.mem_cons.mp (I.stkSub b hb) with e | hb
  · rw [e]; exact I.free
  · obtain ⟨_, o, ho, _⟩ := I.ok.funs.mem hb
    exact I.base.free b o ho (I.ok.frf b hb) fun z => I.ok.exfs b z hb

/-- THE STEP: the untracked objects but the frame and the records at ch are kept (the callers' frames up to slots), the frame's map is kept, the new abstract heap is held -/
theorem Inv.step {g' : Array GenState} {t' : Nat} {d' : Drawn} {ch : List Addr} (I : Inv X pins σ H s)
    (hch : ∀ b ∈ ch, (b ∈ X.ex ∨ X.s₀.heap.objs.size ≤ b) ∧ b ≠ X.env.locals ∧ (∀ x c, X.env.cells.lookup x = some c → c ≠ b) ∧ ∀ p ∈ X.pn ++ pins, p.1 ≠ b)
    (keep : ∀ b o, b ≠ X.env.locals → b ∉ X.fs → b ∉ ch → s.heap.get? b = some o → H b = none → h'.get? b = some o)
    (slot : ∀ b o, b ≠ X.env.locals → b ∈ X.fs → b ∉ ch → s.heap.get? b = some o → H b = none → ∃ sl, h'.get? b = some { o with slots := sl }) (free : ∀ b o, b ∉ ch → s.heap.get? b = some o → H b = none → H' b = none)
    (there : ∀ b o, b ∉ ch → s.heap.get? b = some o → ∃ o', h'.get? b = some o')
    (tups : ∀ b xs, H b = some (.tup xs) → H' b = some (.tup xs)) (frzs : ∀ b o u, H b = some (.frz o u) → H' b = some (.frz o u)) (tbls : ∀ b ps, H b = some (.tbl ps) → ∃ more, H' b = some (.tbl (ps ++ more)))
    (ns : ∀ m, s.heap.Ns X.env.locals m → h'.Ns X.env.locals m) (hok : HOk X.prog X.w H' h') (hg : AllBare g') :
    Inv X pins σ H' { s with heap := h', gens := g', drawn := d', toks := t' } := by
  have neL : ∀ b o, X.s₀.heap.get? b = some o → b ≠ X.env.locals := fun b o e => Nat.ne_of_lt (Nat.lt_of_lt_of_le (Heap.lt_size e) I.ok.above)
  have neC : ∀ b o, X.s₀.heap.get? b = some o → b ∉ X.ex → b ∉ ch := fun b o e hx hb => by
    rcases (hch b hb).1 with z | z
    · exact hx z
    · exact absurd (Nat.lt_of_lt_of_le (Heap.lt_size e) z) (Nat.lt_irrefl _)
  have cellK : ∀ x c, X.env.cells.lookup x = some c → ∀ v, s.heap.IsCell c v → h'.IsCell c v := fun x c e v ⟨o, ho, hd⟩ => by
    have nch : c ∉ ch := fun z => (hch c z).2.2.1 x c e rfl
    by_cases hc : c ∈ X.fs
    · obtain ⟨sl, q⟩ := slot c o (I.cne x c e) hc nch ho (I.freeC x c e)
      exact ⟨_, q, hd⟩
    · exact ⟨o, keep c o (I.cne x c e) hc nch ho (I.freeC x c e), hd⟩
  refine ⟨I.ok, I.os, hg, ⟨fun b o e n hb hx => ?_, fun b o e n hb hx => ?_, fun b o e n hx => ?_, fun b o e hx => ?_, fun b xs e => tups b xs (I.base.tups b xs e), fun b o xs e => frzs b o xs (I.base.frzs b o xs e), fun b ps e => ?_⟩, ?_, fun x c e => ?_, ?_, fun x c e => ?_, fun p hp => ?_, hok, I.len⟩
  · exact keep b o (neL b o e) hb (neC b o e hx) (I.base.keep b o e n hb hx) (I.base.free b o e n hx)
  · obtain ⟨sl, e1⟩ := I.base.slot b o e n hb hx
    obtain ⟨sl', e2⟩ := slot b _ (neL b o e) hb (neC b o e hx) e1 (I.base.free b o e n hx)
    exact ⟨sl', e2⟩
  · obtain ⟨o', e1⟩ := I.base.there b o e hx
    exact free b o' (neC b o e hx) e1 (I.base.free b o e n hx)
  · obtain ⟨o', e1⟩ := I.base.there b o e hx
    exact there b o' (neC b o e hx) e1
  · obtain ⟨m1, e1⟩ := I.base.tbls b ps e
    obtain ⟨m2, e2⟩ := tbls b _ e1
    exact ⟨m1 ++ m2, by rw [e2, Array.append_assoc]⟩
  · obtain ⟨m, hn, hl⟩ := I.loc
    refine ⟨m, ns m hn, fun i x v e1 e2 e3 => ?_⟩
    obtain ⟨u, r, l⟩ := hl i x v e1 e2 e3
    refine ⟨u, r, ?_⟩
    rcases l with l | ⟨k, c, e, z⟩
    · exact .inl l
    · exact .inr ⟨k, c, e, cellK x c e _ z⟩
  · obtain ⟨v, z⟩ := I.cell x c e
    exact ⟨v, cellK x c e v z⟩
  · obtain ⟨m, ⟨o, _, _, ho, _⟩, _⟩ := I.loc
    exact free _ o (fun z => (hch _ z).2.1 rfl) ho I.free
  · obtain ⟨v, o, ho, hd⟩ := I.cell x c e
    exact free c o (fun z => (hch c z).2.2.1 x c e rfl) ho (I.freeC x c e)
  · obtain ⟨e, n, ne, nf, d⟩ := I.pin p hp
    have nch : p.1 ∉ ch := fun z => (hch p.1 z).2.2.2 p hp rfl
    exact ⟨keep p.1 p.2 ne nf nch e n, free p.1 p.2 nch e n, ne, nf, d⟩
/-- .. where the frame's own object is kept too -/
theorem Inv.un {t' : Nat} (I : Inv X pins σ H s) (u : Un X.fs [] H H' s.heap h') (hok : HOk X.prog X.w H' h') : Inv X pins σ H' { s with heap := h', toks := t' } := by
  obtain ⟨m, ⟨o, es, ep, ho, r⟩, _⟩ := id I.loc
  obtain ⟨sl, hL⟩ := u.any ho I.free (by simp)
  exact I.step (g' := s.gens) (d' := s.drawn) (ch := []) (fun _ z => nomatch z) (fun b o _ hb _ e n => u.keep b o e n hb (by simp)) (fun b o _ hb _ e n => u.slot b o e n hb (by simp)) (fun b o _ e n => u.free b o e n (by simp)) (fun b o _ e => u.there b o e (by simp)) u.tups u.frzs u.tbls (fun m' hm => by
    obtain ⟨o', es', ep', ho', r'⟩ := hm
    rw [ho] at ho'; cases ho'
    exact ⟨_, es', ep', hL, r'⟩) hok I.bare
/-- behind a call (or a comprehension's block): the slots of this frame may have changed too, the records at ch may have turned -/
theorem Inv.call {g' : Array GenState} {t' : Nat} {d' : Drawn} {ch : List Addr} (I : Inv X pins σ H s) (u : Un (frs X.stack) ch H H' s.heap h') (hok : HOk X.prog X.w H' h') (hg : AllBare g')
    (hch : ∀ b ∈ ch, (b ∈ X.ex ∨ X.s₀.heap.objs.size ≤ b) ∧ b ≠ X.env.locals ∧ (∀ x c, X.env.cells.lookup x = some c → c ≠ b) ∧ ∀ p ∈ X.pn ++ pins, p.1 ≠ b) :
    Inv X pins σ H' { s with heap := h', gens := g', drawn := d', toks := t' } := by
  obtain ⟨m, ⟨o, es, ep, ho, r⟩, _⟩ := id I.loc
  obtain ⟨sl, hL⟩ := u.any ho I.free fun z => (hch _ z).2.1 rfl
  exact I.step (ch := ch) hch (fun b o hL hb hc e n => u.keep b o e n (fun z => (List.mem_cons.mp (I.stkSub b z)).elim hL hb) hc) (fun b o _ _ hc e n => u.any e n hc) (fun b o hc e n => u.free b o e n hc) (fun b o hc e => u.there b o e hc) u.tups u.frzs u.tbls (fun m' hm => by
    obtain ⟨o', es', ep', ho', r'⟩ := hm
    rw [ho] at ho'; cases ho'
    exact ⟨_, es', ep', hL, r'⟩) hok hg
/-- an untracked record of ours (an iterator) has turned -/
theorem Inv.turned {t' : Nat} {it : Addr} (I : Inv X pins σ H s) (k : ∀ b o, b ≠ it → s.heap.get? b = some o → h'.get? b = some o) (hn : H it = none) (hL : it ≠ X.env.locals)
    (h1 : it ∈ X.ex ∨ X.s₀.heap.objs.size ≤ it) (h2 : ∀ x c, X.env.cells.lookup x = some c → c ≠ it) (h3 : ∀ p ∈ X.pn ++ pins, p.1 ≠ it) : Inv X pins σ H { s with heap := h', toks := t' } := by
  have nit : ∀ b u, H b = some u → b ≠ it := fun b u e z => by rw [z, hn] at e; cases e
  refine I.step (g' := s.gens) (d' := s.drawn) (ch := [it]) (fun b hb => ?_) (fun b o _ _ hc e _ => k b o (fun z => hc (by simp [z])) e) (fun b o _ _ hc e _ => ⟨o.slots, k b o (fun z => hc (by simp [z])) e⟩) (fun _ _ _ _ n => n)
    (fun b o hc e => ⟨o, k b o (fun z => hc (by simp [z])) e⟩) (fun _ _ e => e) (fun _ _ _ e => e) (fun b ps e => ⟨#[], by rw [e]; simp⟩) (fun m hm => ?_) (fun b u e => ?_) I.bare
  · have e : b = it := by simpa using hb
    subst e
    exact ⟨h1, hL, h2, h3⟩
  · obtain ⟨o, es, ep, ho, r⟩ := hm
    exact ⟨o, es, ep, k _ o (Ne.symm hL) ho, r⟩
  · refine (I.hok b u e).stay (fun c v hc q => k c v ?_ q) (fun _ q => q) fun _ _ q => q
    rcases hc with z | z
    · rw [z]; exact nit b u e
    · exact nit c _ z
theorem Inv.tok (I : Inv X pins σ H s) (t : Nat) : Inv X pins σ H { s with toks := t } := I.un (h' := s.heap) (t' := t) Un.refl I.hok
/-- all objects kept -/
theorem Inv.kept {t' : Nat} (I : Inv X pins σ H s) (k : ∀ b u, s.heap.get? b = some u → h'.get? b = some u) : Inv X pins σ H { s with heap := h', toks := t' } := I.un (Un.kept k) (I.hok.kept k)
/-- a new object laid and tracked -/
theorem Inv.laid {a : Addr} {o : HO} {t' : Nat} (I : Inv X pins σ H s) (k : ∀ b u, s.heap.get? b = some u → h'.get? b = some u) (hp : s.heap.objs.size ≤ a) (new : ObjOk X.prog X.w (upd H a o) h' a o) :
    Inv X pins σ (upd H a o) { s with heap := h', toks := t' } := I.un (Un.laid k hp (I.hok.fresh hp)) (I.hok.laid k hp new)
/-- an object written -/
theorem Inv.write {x e : Addr} {o : HO} {t' : Nat} (I : Inv X pins σ H s) (mu : Mut (H x)) (he : e = x ∨ H e = some (.own x)) (k : ∀ b u, b ≠ e → s.heap.get? b = some u → h'.get? b = some u) (heo : ∃ u, h'.get? e = some u)
    (new : ObjOk X.prog X.w (upd H x o) h' x o) : Inv X pins σ (upd H x o) { s with heap := h', toks := t' } := I.un (Un.write mu he k heo) (I.hok.write mu he k heo new)
theorem Inv.pins_of {pins' : List (Addr × Obj)} (I : Inv X pins σ H s) (h : ∀ p ∈ pins', s.heap.get? p.1 = some p.2 ∧ H p.1 = none ∧ p.1 ≠ X.env.locals ∧ p.1 ∉ X.fs ∧ ∀ v, p.2.data ≠ .cell v) : Inv X pins' σ H s :=
  ⟨I.ok, I.os, I.bare, I.base, I.loc, I.cell, I.free, I.freeC, fun p hp => (List.mem_append.mp hp).elim (fun z => I.pin p (List.mem_append_left _ z)) (h p), I.hok, I.len⟩

theorem nodup_ix {N : List Str} (hN : N.Nodup) {i j : Nat} {x : Str} (a : N[i]? = some x) (b : N[j]? = some x) : i = j := by
  obtain ⟨h1, e1⟩ := List.getElem?_eq_some_iff.mp a
  obtain ⟨h2, e2⟩ := List.getElem?_eq_some_iff.mp b
  exact (List.getElem_inj hN).mp (e1.trans e2.symm)

/-- a name is stored; what changed -/
theorem store_ok2 {M : Model} {A : Around} {E : Value → Shared → Prop} {i : Nat} {x : Str} {v : V} {u : Value} {Q : Unit → Shared → Prop} (I : Inv X pins σ H s) (hN : X.N.Nodup) (hi : X.N[i]? = some x) (hx : Loc X.env.scope x) (r : RelV v u)
    (h : ∀ s', Inv X pins (σ.set i (some v)) H s' → (∃ a, Heap.SameBut a s.heap s'.heap ∧ (a = X.env.locals ∨ X.env.cells.lookup x = some a)) → Q () s') (hf : X.fn x = true ∨ X.env.scope.names.lookup x = some .local := by first | exact .inl rfl | exact .inr rfl | assumption) : wpAny M A (storeName X.env x u) Q E s := by
  obtain ⟨m, hn, hl⟩ := id I.loc
  have hcls : (X.env.scope.kind == .class || (X.env.scope.kind == .module && X.env.locals != X.env.globals)) = false := by rw [I.ok.kind]; rfl
  have hiσ : i < σ.length := by rw [I.len]; exact (List.getElem?_eq_some_iff.mp hi).1
  have cne := I.cne
  have tracked : ∀ {a : Addr} {h' : Heap}, (∃ o, s.heap.get? a = some o ∧ H a = none) → Heap.SameBut a s.heap h' → HOk X.prog X.w H h' := fun {a h'} ha hs b ob e => by
    obtain ⟨_, _, hfree⟩ := ha
    refine (I.hok b ob e).stay (fun c w' hc q => (hs.2 c ?_).trans q) (fun _ q => q) fun _ _ q => q
    rintro rfl
    rcases hc with rfl | hc
    · rw [hfree] at e; cases e
    · rw [hfree] at hc; cases hc
  rcases hx with hk | hk
  · refine wpAny_storeName_local hk hn (fun h' hn' hs => ?_) hcls
    obtain ⟨oL, _, _, hoL, _⟩ := id hn
    refine h _ ⟨I.ok, I.os, I.bare, ⟨fun b o e n hb hx => ?_, fun b o e n hb hx => ?_, I.base.free, fun b o e hx => ?_, I.base.tups, I.base.frzs, I.base.tbls⟩, ⟨_, hn', fun j y v' e1 e2 e3 => ?_⟩, fun y c e => ?_, I.free, I.freeC, fun p hp => ?_, tracked ⟨oL, hoL, I.free⟩ hs, by simpa using I.len⟩ ⟨_, hs, .inl rfl⟩
    · exact (hs.2 b (Nat.ne_of_lt (Nat.lt_of_lt_of_le (Heap.lt_size e) I.ok.above))).trans (I.base.keep b o e n hb hx)
    · obtain ⟨sl, e1⟩ := I.base.slot b o e n hb hx
      exact ⟨sl, (hs.2 b (Nat.ne_of_lt (Nat.lt_of_lt_of_le (Heap.lt_size e) I.ok.above))).trans e1⟩
    · obtain ⟨o', e1⟩ := I.base.there b o e hx
      exact ⟨o', (hs.2 b (Nat.ne_of_lt (Nat.lt_of_lt_of_le (Heap.lt_size e) I.ok.above))).trans e1⟩
    · by_cases hj : j = i
      · subst hj
        rw [hi] at e1; cases e1
        rw [List.getElem?_set_self hiσ] at e2
        cases e2
        exact ⟨u, r, .inl ⟨hk, by simp⟩⟩
      · rw [List.getElem?_set_ne (Ne.symm hj)] at e2
        obtain ⟨u', r', q⟩ := hl j y v' e1 e2 e3
        refine ⟨u', r', ?_⟩
        rcases q with ⟨k, e⟩ | ⟨k, c, e, z⟩
        · refine .inl ⟨k, ?_⟩
          have : y ≠ x := fun e => hj (nodup_ix hN e1 (e ▸ hi))
          simp [this, e]
        · exact .inr ⟨k, c, e, z.sameBut hs (cne y c e)⟩
    · obtain ⟨w', z⟩ := I.cell y c e
      exact ⟨w', z.sameBut hs (cne y c e)⟩
    · obtain ⟨e, n, ne, nf, d⟩ := I.pin p hp
      exact ⟨(hs.2 p.1 ne).trans e, n, ne, nf, d⟩
  · have hfn : X.fn x = true := by
      rcases hf with z | z
      · exact z
      · rw [z] at hk; cases hk
    obtain ⟨c, hc⟩ := I.ok.has x (.inl hk)
    obtain ⟨w', z⟩ := I.cell x c hc
    refine wpAny_storeName_cell I.ok.kind hk hc z (fun h' hc' hs => ?_)
    obtain ⟨oc, hoc, hocd⟩ := id z
    refine h { s with heap := h' } ⟨I.ok, I.os, I.bare, ⟨fun b o e n hb hx => ?_, fun b o e n hb hx => ?_, I.base.free, fun b o e hx => ?_, I.base.tups, I.base.frzs, I.base.tbls⟩, ⟨m, hn.sameBut hs (Ne.symm (cne x c hc)), fun j y v' e1 e2 e3 => ?_⟩, fun y c' e => ?_, I.free, I.freeC, fun p hp => ?_, tracked ⟨oc, hoc, I.freeC x c hc⟩ hs, by simpa using I.len⟩ ⟨c, hs, .inr hc⟩
    · exact (hs.2 b (Nat.ne_of_lt (Nat.lt_of_lt_of_le (Heap.lt_size e) (I.ok.cab x c hfn hc)))).trans (I.base.keep b o e n hb hx)
    · obtain ⟨sl, e1⟩ := I.base.slot b o e n hb hx
      exact ⟨sl, (hs.2 b (Nat.ne_of_lt (Nat.lt_of_lt_of_le (Heap.lt_size e) (I.ok.cab x c hfn hc)))).trans e1⟩
    · obtain ⟨o', e1⟩ := I.base.there b o e hx
      exact ⟨o', (hs.2 b (Nat.ne_of_lt (Nat.lt_of_lt_of_le (Heap.lt_size e) (I.ok.cab x c hfn hc)))).trans e1⟩
    · by_cases hj : j = i
      · subst hj
        rw [hi] at e1; cases e1
        rw [List.getElem?_set_self hiσ] at e2
        cases e2
        exact ⟨u, r, .inr ⟨.inl hk, c, hc, hc'⟩⟩
      · rw [List.getElem?_set_ne (Ne.symm hj)] at e2
        obtain ⟨u', r', q⟩ := hl j y v' e1 e2 e3
        refine ⟨u', r', ?_⟩
        rcases q with q | ⟨k, c', e, z'⟩
        · exact .inl q
        · refine .inr ⟨k, c', e, z'.sameBut hs ?_⟩
          rintro rfl
          exact hj (nodup_ix hN e1 (I.ok.inj _ _ _ e hc ▸ hi))
    · by_cases hcc : c' = c
      · subst hcc; exact ⟨_, hc'⟩
      · obtain ⟨w2, z2⟩ := I.cell y c' e
        exact ⟨w2, z2.sameBut hs hcc⟩
    · obtain ⟨e, n, ne, nf, d⟩ := I.pin p hp
      refine ⟨(hs.2 p.1 ?_).trans e, n, ne, nf, d⟩
      intro q
      rw [q, hoc] at e
      have q' : oc = p.2 := Option.some.inj e
      exact d w' (by rw [← q']; exact hocd)
theorem store_ok {M : Model} {A : Around} {E : Value → Shared → Prop} {i : Nat} {x : Str} {v : V} {u : Value} {Q : Unit → Shared → Prop} (I : Inv X pins σ H s) (hN : X.N.Nodup) (hi : X.N[i]? = some x) (hx : Loc X.env.scope x) (r : RelV v u)
    (h : ∀ s', Inv X pins (σ.set i (some v)) H s' → Q () s') (hf : X.fn x = true ∨ X.env.scope.names.lookup x = some .local := by first | exact .inl rfl | exact .inr rfl | assumption) : wpAny M A (storeName X.env x u) Q E s :=
  store_ok2 I hN hi hx r (fun s' I' _ => h s' I') hf
/-- behind a call or a block, the state as it is -/
theorem Inv.call' {s' : Shared} {ch : List Addr} (I : Inv X pins σ H s) (ho : s'.os = s.os) (u : Un (frs X.stack) ch H H' s.heap s'.heap) (hok : HOk X.prog X.w H' s'.heap) (hg : AllBare s'.gens)
    (hch : ∀ b ∈ ch, (b ∈ X.ex ∨ X.s₀.heap.objs.size ≤ b) ∧ b ≠ X.env.locals ∧ (∀ x c, X.env.cells.lookup x = some c → c ≠ b) ∧ ∀ p ∈ X.pn ++ pins, p.1 ≠ b) : Inv X pins σ H' s' := by
  obtain ⟨h', g', d', t', o'⟩ := s'
  have e : o' = s.os := ho
  subst e
  exact I.call (g' := g') (t' := t') (d' := d') u hok hg hch
end

/-! ### the judgements -/
/-- an exception: its class, its own dict's address (where it has one), the abstract heap behind it -/
abbrev XK := Value → Option Addr → Hp → Prop
abbrev St := List (Option V)
abbrev VK := V → Hp → Prop
/-- an expression's reading; a test's; an argument list's -/
abbrev TE := St → Hp → VK → Prop
abbrev TT := St → Hp → (Bool → Hp → Prop) → Prop
abbrev TA := St → Hp → (List V → Hp → Prop) → Prop
/-- what is wanted behind a statement -/
structure Ends where
  nx : St → Hp → Prop
  rt : VK
  bk : St → Hp → Prop := fun _ _ => False
  ct : St → Hp → Prop := fun _ _ => False
abbrev TS := Ends → St → Hp → Prop

inductive EPI (X : Cx) (pins : List (Addr × Obj)) (σ : St) (Q : VK) (u : Value) (s' : Shared) : Prop where
  | mk (v : _) (H' : _) (c1 : Inv X pins σ H' s') (c2 : RelV v u) (c3 : Q v H')
def EP (X : Cx) (pins : List (Addr × Obj)) (σ : St) (Q : VK) (u : Value) (s' : Shared) : Prop := EPI X pins σ Q u s'
def TP (X : Cx) (pins : List (Addr × Obj)) (σ : St) (Q : Bool → Hp → Prop) (b : Bool) (s' : Shared) : Prop := ∃ H', Inv X pins σ H' s' ∧ Q b H'
inductive API (X : Cx) (pins : List (Addr × Obj)) (σ : St) (Q : List V → Hp → Prop) (us : List Value) (s' : Shared) : Prop where
  | mk (vs : _) (H' : _) (c1 : Inv X pins σ H' s') (c2 : Vals vs us) (c3 : Q vs H')
def AP (X : Cx) (pins : List (Addr × Obj)) (σ : St) (Q : List V → Hp → Prop) (us : List Value) (s' : Shared) : Prop := API X pins σ Q us s'
def SP (X : Cx) (pins : List (Addr × Obj)) (D : Ends) (f : Flow) (s' : Shared) : Prop :=
  match f with
  | .next => ∃ σ' H', Inv X pins σ' H' s' ∧ D.nx σ' H'
  | .brk => ∃ σ' H', Inv X pins σ' H' s' ∧ D.bk σ' H'
  | .cont => ∃ σ' H', Inv X pins σ' H' s' ∧ D.ct σ' H'
  | .ret u => ∃ v σ' H', Inv X pins σ' H' s' ∧ RelV v u ∧ D.rt v H'

def PE (X : Cx) (e : Expr) (t : TE) : Prop :=
  ∀ (pins : List (Addr × Obj)) (s : Shared) (σ : St) (H : Hp) (Q : VK), Inv X pins σ H s → t σ H Q → wpAny (model X.prog X.w) X.A (eval e X.env) (EP X pins σ Q) X.xe s
def PT (X : Cx) (e : Expr) (t : TT) : Prop :=
  ∀ (pins : List (Addr × Obj)) (s : Shared) (σ : St) (H : Hp) (Q : Bool → Hp → Prop), Inv X pins σ H s → t σ H Q → wpAny (model X.prog X.w) X.A (isTrue e X.env (eval e X.env)) (TP X pins σ Q) X.xe s
/-- a test whatever its 'whole' is (and, or) -/
def PW (X : Cx) (e : Expr) (t : TT) : Prop :=
  ∀ (whole : Sem Value) (pins : List (Addr × Obj)) (s : Shared) (σ : St) (H : Hp) (Q : Bool → Hp → Prop), Inv X pins σ H s → t σ H Q → wpAny (model X.prog X.w) X.A (isTrue e X.env whole) (TP X pins σ Q) X.xe s
theorem PW.pt {X : Cx} {e : Expr} {t : TT} (h : PW X e t) : PT X e t := h _
/-- an argument list (no star), from the left -/
def PA (X : Cx) (es : List Expr) (t : TA) : Prop :=
  ∀ (pos : Pos) (pins : List (Addr × Obj)) (s : Shared) (σ : St) (H : Hp) (Q : List V → Hp → Prop), Inv X pins σ H s → t σ H Q → wpAny (model X.prog X.w) X.A (spliced (backTo pos (starEach es X.env))) (AP X pins σ Q) X.xe s
def PS (X : Cx) (st : Stmt) (t : TS) : Prop :=
  ∀ (pins : List (Addr × Obj)) (s : Shared) (σ : St) (H : Hp) (D : Ends), Inv X pins σ H s → t D σ H → wpAny (model X.prog X.w) X.A (exec st X.env) (SP X pins D) X.xe s
def PSs (X : Cx) (st : List Stmt) (t : TS) : Prop :=
  ∀ (pins : List (Addr × Obj)) (s : Shared) (σ : St) (H : Hp) (D : Ends), Inv X pins σ H s → t D σ H → wpAny (model X.prog X.w) X.A (execs st X.env) (SP X pins D) X.xe s
/-- weaken the end -/
theorem thn {α : Type} {t : Sem α} {Q Q' : α → Shared → Prop} {M : Model} {A : Around} {E : Value → Shared → Prop} {s : Shared} (h : wpAny M A t Q E s) (hQ : ∀ a s, Q a s → Q' a s) : wpAny M A t Q' E s := wpAny_mono h hQ fun _ _ x => x
end L2

namespace L2
open PySem PySem.Spec PyProof.Rows
section
variable {X : Cx}

/-- two expressions in a row -/
theorem bin {a b : Expr} {ta tb : TE} (ha : PE X a ta) (hb : PE X b tb) {pins : List (Addr × Obj)} {s : Shared} {σ : St} {H : Hp} {R : V → V → Hp → Prop} (I : Inv X pins σ H s) (h : ta σ H fun x H1 => tb σ H1 fun y H2 => R x y H2)
    {α : Type} {Q : α → Shared → Prop} {f : Value → Value → Sem α}
    (hf : ∀ v u s2 x y H2, Inv X pins σ H2 s2 → RelV x v → RelV y u → R x y H2 → wpAny (model X.prog X.w) X.A (f v u) Q X.xe s2) :
    wpAny (model X.prog X.w) X.A (eval a X.env) (fun v s₁ => wpAny (model X.prog X.w) X.A (eval b X.env) (fun u s₂ => wpAny (model X.prog X.w) X.A (f v u) Q X.xe s₂) X.xe s₁) X.xe s := by
  refine thn (ha pins s σ H _ I h) fun v s1 ⟨x, H1, I1, r1, q1⟩ => ?_
  refine thn (hb pins s1 σ H1 _ I1 q1) fun u s2 ⟨y, H2, I2, r2, q2⟩ => ?_
  exact hf v u s2 x y H2 I2 r1 r2 q2

/-! ### names and constants -/
inductive TVarI (i : Nat) (σ : L2.St) (H : Hp) (Q : VK) : Prop where
  | mk (v : _) (c1 : σ[i]? = some (some v)) (c2 : Q v H)
def tVar (i : Nat) : TE := fun σ H Q => TVarI i σ H Q
def tC (v : V) : TE := fun _ H Q => Q v H
theorem pe_var {i : Nat} {x : Str} {pos : Pos} (hN : X.N[i]? = some x) (hv : Vis X.env.scope x) (hd : (x == ("__debug__" : Str)) = false := by decide) (hcd : (x == ("__classdict__" : Str)) = false := by decide) : PE X (.Name x pos) (tVar i) := by
  intro pins s σ H Q I h
  obtain ⟨v, e, h⟩ := h
  obtain ⟨m, hn, hl⟩ := I.loc
  obtain ⟨u, r, l⟩ := hl i x v hN e hv
  have fin : EP X pins σ Q u s := ⟨v, H, I, r, h⟩
  rcases l with ⟨hk, hm⟩ | ⟨hk, c, hc, hcell⟩
  · exact wpAny_Name (wpAny_loadName_local I.ok.kind hk hn hm fin) hd
  · rcases hk with hk | hk
    · exact wpAny_Name (wpAny_loadName_cell I.ok.kind hk hc hcell fin) hd
    · exact wpAny_Name (wpAny_loadName_free I.ok.kind hk hc hcell fin hcd) hd
theorem pe_int {i j pos} : PE X (.Constant (.int i) j pos) (tC (.int i)) := fun _ _ _ H _ I h => wpAny_Constant_int ⟨.int i, H, I.tok _, ⟨_, rfl⟩, h⟩
theorem pe_bl {b j pos} : PE X (.Constant (.bool b) j pos) (tC (.bl b)) := fun _ _ _ H _ I h => Constant_bool ⟨.bl b, H, I, rfl, h⟩
theorem pe_non {j pos} : PE X (.Constant .none j pos) (tC .non) := fun _ _ _ H _ I h => Constant_none ⟨.non, H, I, rfl, h⟩
theorem pe_str {x j pos} : PE X (.Constant (.str x) j pos) (tC (.str x)) := fun _ _ _ H _ I h => Calls.Constant_str ⟨.str x, H, I.tok _, ⟨_, rfl⟩, h⟩

/-- a global name of the def -/
def Gl (X : Cx) (x : Str) : Prop := X.env.kindOf x = some .globalImplicit
theorem ld_glob {E : Value → Shared → Prop} {pins : List (Addr × Obj)} {s : Shared} {σ : St} {H : Hp} {x : Str} {u : Value} {pos : Pos} {Q : Value → Shared → Prop} (I : Inv X pins σ H s) (hg : Gl X x) (hm : X.mg x = some u) (h : Q u s)
    (hd : (x == ("__debug__" : Str)) = false := by decide) : wpAny (model X.prog X.w) X.A (eval (.Name x pos) X.env) Q E s :=
  Calls.Name_function_global I.ok.kind hg (Calls.loadGlobal_global (by rw [I.ok.glob]; exact I.mod.glob.keeps I.bk) hm h) hd
theorem ld_blt {E : Value → Shared → Prop} {pins : List (Addr × Obj)} {s : Shared} {σ : St} {H : Hp} {x : Str} {u : Value} {pos : Pos} {Q : Value → Shared → Prop} (I : Inv X pins σ H s) (hg : Gl X x) (hm : X.mg x = none) (hv : bootBuiltins x = some u) (h : Q u s)
    (hn : x ≠ "__name__" := by decide) (hd : (x == ("__debug__" : Str)) = false := by decide) : wpAny (model X.prog X.w) X.A (eval (.Name x pos) X.env) Q E s := by
  obtain ⟨mb, h1, h2⟩ := I.mod.blt
  exact Calls.Name_function_global I.ok.kind hg (Calls.loadGlobal_builtin (by rw [I.ok.glob]; exact I.mod.glob.keeps I.bk) hm (by rw [I.ok.blt]; exact h1.keeps I.bk) ((h2 x hn).trans hv) h) hd
/-- a module's constant, a class, a function, as a value -/
theorem pe_glob {x : Str} {v : V} {u : Value} {pos : Pos} (hg : Gl X x) (hm : X.mg x = some u) (r : RelV v u) (hd : (x == ("__debug__" : Str)) = false := by decide) : PE X (.Name x pos) (tC v) :=
  fun _ _ _ H _ I h => ld_glob I hg hm ⟨v, H, I, r, h⟩ hd
theorem pe_bltn {x : Str} {v : V} {u : Value} {pos : Pos} (hg : Gl X x) (hm : X.mg x = none) (hv : bootBuiltins x = some u) (r : RelV v u) (hn : x ≠ "__name__" := by decide) (hd : (x == ("__debug__" : Str)) = false := by decide) : PE X (.Name x pos) (tC v) :=
  fun _ _ _ H _ I h => ld_blt I hg hm hv ⟨v, H, I, r, h⟩ hn hd

/-! ### arithmetic -/
variable {a b : Expr} {ta tb : TE} {pos : Pos}

/-! ### comparisons -/
def PC (X : Cx) (op : CmpOp) (a b : Expr) (t : TE) : Prop :=
  ∀ (pins : List (Addr × Obj)) (s : Shared) (σ : St) (H : Hp) (Q : VK), Inv X pins σ H s → t σ H Q →
    wpAny (model X.prog X.w) X.A (eval a X.env) (fun v s₁ => wpAny (model X.prog X.w) X.A (eval b X.env) (fun u s₂ => wpAny (model X.prog X.w) X.A (compareOp op v u) (EP X pins σ Q) X.xe s₂) X.xe s₁) X.xe s
theorem nobehind (b : Expr) {op : CmpOp} (h : op ≠ .In) (h2 : op ≠ .NotIn) : behindInMarks op b = false := by
  have e1 : (op == CmpOp.In) = false := by cases op <;> first | rfl | exact absurd rfl h
  have e2 : (op == CmpOp.NotIn) = false := by cases op <;> first | rfl | exact absurd rfl h2
  cases b <;> simp [behindInMarks, e1, e2]
/-- a comparison as a value, as a test -/
inductive TBI (x : V) (H1 : Hp) (Q : Bool → Hp → Prop) : Prop where
  | mk (c : _) (c1 : x = .bl c) (c2 : Q c H1)
def tB (t : TE) : TT := fun σ H Q => t σ H fun x H1 => TBI x H1 Q
theorem pt_cmp {op : CmpOp} {t : TE} (h : PC X op a b t) (h1 : behindInMarks op b = false := by first | exact nobehind _ (by decide) (by decide) | rfl) : PT X (.Compare a [op] [b] pos) (tB t) := by
  intro pins s σ H Q I hw
  refine wpAny_isTrue_Compare1 (thn (h pins s σ H _ I hw) fun v s1 h1 => thn h1 fun u s2 h2 => thn h2 fun c s3 ⟨x, H1, I1, r1, q1⟩ => ?_) h1
  obtain ⟨d, rfl, q⟩ := q1
  cases r1
  exact wpAny_truthy_bool ⟨H1, I1, q⟩
/-- an expression whose value is a bool, as a test -/
theorem pt_val {e : Expr} {t : TE} (h : PE X e t) (he : ∀ whole, isTrue e X.env whole = (do let v ← whole; standAt e.pos; holding [v] (truthy v)) := by intro _; rfl) : PT X e (tB t) := by
  intro pins s σ H Q I hw
  refine isTrue_plain (thn (h pins s σ H _ I hw) fun v s1 ⟨x, H1, I1, r1, q1⟩ => ?_) (he _)
  obtain ⟨d, rfl, q⟩ := q1
  cases r1
  exact wpAny_truthy_bool ⟨H1, I1, q⟩

/-! ### and, or, not -/
variable {tA tB' : TT} {rest : List Expr}
def tAnd (t u : TT) : TT := fun σ H Q => t σ H fun c H1 => if c = true then u σ H1 Q else Q false H1
def tOr (t u : TT) : TT := fun σ H Q => t σ H fun c H1 => if c = true then Q true H1 else u σ H1 Q
def tNot (t : TT) : TT := fun σ H Q => t σ H fun c H1 => Q (!c) H1
theorem pw_and1 (ha : PT X a tA) : PW X (.BoolOp .And [a] pos) tA := by
  intro wh pins s σ H Q I h
  refine isTrue_and (thn (ha pins s σ H Q I h) fun c s1 e => ?_)
  cases c with
  | true => exact isTrue_and_nil e
  | false => exact e
theorem pw_or1 (ha : PT X a tA) : PW X (.BoolOp .Or [a] pos) tA := by
  intro wh pins s σ H Q I h
  refine isTrue_or (thn (ha pins s σ H Q I h) fun c s1 e => ?_)
  cases c with
  | false => exact isTrue_or_nil e
  | true => exact e
theorem pw_and (ha : PT X a tA) (hb : PW X (.BoolOp .And (b :: rest) pos) tB') : PW X (.BoolOp .And (a :: b :: rest) pos) (tAnd tA tB') := by
  intro wh pins s σ H Q I h
  refine isTrue_and (thn (ha pins s σ H _ I h) fun c s1 ⟨H1, I1, q1⟩ => ?_)
  cases c with
  | true => exact hb wh pins s1 σ H1 Q I1 q1
  | false => exact ⟨H1, I1, q1⟩
theorem pw_or (ha : PT X a tA) (hb : PW X (.BoolOp .Or (b :: rest) pos) tB') : PW X (.BoolOp .Or (a :: b :: rest) pos) (tOr tA tB') := by
  intro wh pins s σ H Q I h
  refine isTrue_or (thn (ha pins s σ H _ I h) fun c s1 ⟨H1, I1, q1⟩ => ?_)
  cases c with
  | true => exact ⟨H1, I1, q1⟩
  | false => exact hb wh pins s1 σ H1 Q I1 q1
theorem pt_not (ha : PT X a tA) : PT X (.UnaryOp .Not a pos) (tNot tA) := by
  intro pins s σ H Q I h
  exact isTrue_not (ha pins s σ H (fun c H1 => Q (!c) H1) I h)
/-- .. as values (bools) -/
inductive TAndVI (tb : TE) (σ : L2.St) (x : V) (H1 : Hp) (Q : VK) : Prop where
  | mk (c : _) (c1 : x = .bl c) (c2 : if c = true then tb σ H1 Q else Q (.bl false) H1)
def tAndV (ta tb : TE) : TE := fun σ H Q => ta σ H fun x H1 => TAndVI tb σ x H1 Q
inductive TNotVI (x : V) (H1 : Hp) (Q : VK) : Prop where
  | mk (c : _) (c1 : x = .bl c) (c2 : Q (.bl (!c)) H1)
def tNotV (ta : TE) : TE := fun σ H Q => ta σ H fun x H1 => TNotVI x H1 Q
theorem pe_one {op} {t : TE} (h : PE X a t) : PE X (.BoolOp op [a] pos) t := fun pins s σ H Q I hw => BoolOp_one (h pins s σ H Q I hw)
theorem pe_and (ha : PE X a ta) (hb : PE X (.BoolOp .And (b :: rest) pos) tb) : PE X (.BoolOp .And (a :: b :: rest) pos) (tAndV ta tb) := by
  intro pins s σ H Q I h
  refine BoolOp_and (thn (ha pins s σ H _ I h) fun v s1 ⟨x, H1, I1, r1, q1⟩ => ?_)
  obtain ⟨c, rfl, q1⟩ := q1
  cases r1
  refine wpAny_truthy_bool ?_
  cases c with
  | true => exact hb pins s1 σ H1 Q I1 q1
  | false => exact ⟨.bl false, H1, I1, rfl, q1⟩
theorem pe_not (ha : PE X a ta) : PE X (.UnaryOp .Not a pos) (tNotV ta) := by
  intro pins s σ H Q I h
  refine UnaryOp_ (thn (ha pins s σ H _ I h) fun v s1 ⟨x, H1, I1, r1, q1⟩ => ?_)
  obtain ⟨c, rfl, q1⟩ := q1
  cases r1
  exact not_of (wpAny_truthy_bool ⟨.bl (!c), H1, I1, rfl, q1⟩)
end
end L2

namespace L2
open PySem PySem.Spec PyProof.Rows

/-! ### a list, a tuple that is read: tracked, frozen, or an object of the module -/
def SqL (K : PySem.W.Frag) (H : Hp) (a : Addr) (xs : List V) : Prop :=
  Rd H a (.lst xs) ∨
    ∃ (o : Obj) (its : Array Value) (n : Nat), K.lookup a = some o ∧ o.cls = .type "list" ∧ o.dict = none ∧ o.data = .seq its n ∧ its.size ≤ sizeLine ∧ Vals xs its.toList
def SqT (K : PySem.W.Frag) (H : Hp) (a : Addr) (xs : List V) : Prop :=
  Rd H a (.tup xs) ∨
    ∃ (o : Obj) (its : Array Value) (n : Nat), K.lookup a = some o ∧ o.cls = .type "tuple" ∧ o.data = .seq its n ∧ its.size ≤ sizeLine ∧ Vals xs its.toList
def absV : Value → Option V
  | .none => some .non
  | .bool b => some (.bl b)
  | .int i _ => some (.int i)
  | .str x _ => some (.str x)
  | .bytes b _ => some (.byt b)
  | .float b _ => some (.flt b)
  | .ref a => some (.ref a)
  | .type n => some (.ty n)
  | _ => none
theorem RelV.abs {x : V} {u : Value} (r : RelV x u) : absV u = some x := by
  cases x with
  | non => cases r; rfl
  | bl _ => cases r; rfl
  | int _ => obtain ⟨t, rfl⟩ := r; rfl
  | str _ => obtain ⟨t, rfl⟩ := r; rfl
  | byt _ => obtain ⟨t, rfl⟩ := r; rfl
  | flt _ => obtain ⟨t, rfl⟩ := r; rfl
  | ref _ => cases r; rfl
  | ty _ => cases r; rfl
theorem RelV.inj {x y : V} {u : Value} (r : RelV x u) (q : RelV y u) : x = y := Option.some.inj (r.abs.symm.trans q.abs)
theorem Vals.inj : ∀ {xs ys : List V} {us : List Value}, Vals xs us → Vals ys us → xs = ys
  | _, _, _, .nil, .nil => rfl
  | _, _, _, .cons r t, .cons r' t' => by rw [r.inj r', Vals.inj t t']
section
variable {X : Cx} {pins : List (Addr × Obj)} {σ : St} {H : Hp} {s : Shared} {a : Addr} {xs ys : List V}
theorem SqL.of {K : PySem.W.Frag} (h : H a = some (.lst xs)) : SqL K H a xs := .inl (.inl h)
theorem SqT.of {K : PySem.W.Frag} (h : H a = some (.tup xs)) : SqT K H a xs := .inl (.inl h)
theorem Inv.list (I : Inv X pins σ H s) (h : SqL X.K H a xs) : ∃ its : List Value, Vals xs its ∧ PlainL s.heap a its.toArray ∧ xs.length ≤ sizeLine := by
  rcases h with h | ⟨o, its, n, hk, hc, hd, hs, hz, r⟩
  · obtain ⟨z, its, n, r, e⟩ := h.ok I.hok
    exact ⟨its, r, ⟨_, n, e, rfl, rfl, rfl⟩, z⟩
  · refine ⟨its.toList, r, ⟨o, n, I.kIn a o hk, hc, hd, by simpa using hs⟩, ?_⟩
    have e := r.length
    simp only [Array.length_toList] at e
    omega
theorem Inv.tuple (I : Inv X pins σ H s) (h : SqT X.K H a xs) : ∃ its : List Value, Vals xs its ∧ IsTup s.heap a its.toArray ∧ xs.length ≤ sizeLine := by
  rcases h with h | ⟨o, its, n, hk, hc, hs, hz, r⟩
  · obtain ⟨z, its, r, p⟩ := h.ok I.hok
    exact ⟨its, r, p, z⟩
  · refine ⟨its.toList, r, ⟨o, I.kIn a o hk, hc, n, by simpa using hs⟩, ?_⟩
    have e := r.length
    simp only [Array.length_toList] at e
    omega
theorem Inv.list_inj (I : Inv X pins σ H s) (h : SqL X.K H a xs) (h' : SqL X.K H a ys) : xs = ys := by
  obtain ⟨its, r, ⟨o, n, e, _, _, d⟩, _⟩ := I.list h
  obtain ⟨its', r', ⟨o', n', e', _, _, d'⟩, _⟩ := I.list h'
  rw [e] at e'; cases e'
  rw [d] at d'
  injection d' with d1 _
  have : its = its' := by simpa using congrArg Array.toList d1
  subst this
  exact r.inj r'
theorem Inv.tuple_inj (I : Inv X pins σ H s) (h : SqT X.K H a xs) (h' : SqT X.K H a ys) : xs = ys := by
  obtain ⟨its, r, ⟨o, e, _, n, d⟩, _⟩ := I.tuple h
  obtain ⟨its', r', ⟨o', e', _, n', d'⟩, _⟩ := I.tuple h'
  rw [e] at e'; cases e'
  rw [d] at d'
  injection d' with d1 _
  have : its = its' := by simpa using congrArg Array.toList d1
  subst this
  exact r.inj r'
end

/-! ### another wish about exceptions -/
abbrev Cx.wish (X : Cx) (E : Value → Shared → Prop) : Cx := { X with xe := E }
/-- no exception leaves -/
abbrev Cx.nox (X : Cx) : Cx := X.wish fun _ _ => False
theorem Cx.Ok.wish {X : Cx} (ok : X.Ok) (E : Value → Shared → Prop) : (X.wish E).Ok :=
  ⟨ok.mod, ok.kind, ok.glob, ok.blt, ok.above, ok.inj, ok.has, ok.cab, ok.hd, ok.frames, ok.stk, ok.exf, ok.bs, ok.bsz, ok.noex, ok.exfs, ok.funs, ok.frf⟩
theorem Cx.Ok.unwish {X : Cx} {E : Value → Shared → Prop} (ok : (X.wish E).Ok) : X.Ok :=
  ⟨ok.mod, ok.kind, ok.glob, ok.blt, ok.above, ok.inj, ok.has, ok.cab, ok.hd, ok.frames, ok.stk, ok.exf, ok.bs, ok.bsz, ok.noex, ok.exfs, ok.funs, ok.frf⟩
section
variable {X : Cx} {pins : List (Addr × Obj)} {σ : St} {H : Hp} {s : Shared} {E : Value → Shared → Prop}
theorem Inv.wish (I : Inv X pins σ H s) (E : Value → Shared → Prop) : Inv (X.wish E) pins σ H s := ⟨I.ok.wish E, I.os, I.bare, I.base, I.loc, I.cell, I.free, I.freeC, I.pin, I.hok, I.len⟩
theorem Inv.unwish (I : Inv (X.wish E) pins σ H s) : Inv X pins σ H s := ⟨I.ok.unwish, I.os, I.bare, I.base, I.loc, I.cell, I.free, I.freeC, I.pin, I.hok, I.len⟩
theorem SP.unwish {D : Ends} {f : Flow} {s' : Shared} (h : SP (X.wish E) pins D f s') : SP X pins D f s' := by
  cases f with
  | next => obtain ⟨σ', H', I, q⟩ := h; exact ⟨σ', H', I.unwish, q⟩
  | brk => obtain ⟨σ', H', I, q⟩ := h; exact ⟨σ', H', I.unwish, q⟩
  | cont => obtain ⟨σ', H', I, q⟩ := h; exact ⟨σ', H', I.unwish, q⟩
  | ret u => obtain ⟨v, σ', H', I, r, q⟩ := h; exact ⟨v, σ', H', I.unwish, r, q⟩
theorem PE.nox {e : Expr} {t : TE} (h : PE X.nox e t) : PE X e t := fun pins s σ H Q I hw =>
  wpAny_mono (h pins s σ H Q (I.wish _) hw) (fun _ _ ⟨v, H', I', r, q⟩ => ⟨v, H', I'.unwish, r, q⟩) fun _ _ z => False.elim z
theorem PT.nox {e : Expr} {t : TT} (h : PT X.nox e t) : PT X e t := fun pins s σ H Q I hw =>
  wpAny_mono (h pins s σ H Q (I.wish _) hw) (fun _ _ ⟨H', I', q⟩ => ⟨H', I'.unwish, q⟩) fun _ _ z => False.elim z
theorem PSs.nox {st : List Stmt} {t : TS} (h : PSs X.nox st t) : PSs X st t := fun pins s σ H D I hw =>
  wpAny_mono (h pins s σ H D (I.wish _) hw) (fun _ _ q => q.unwish) fun _ _ z => False.elim z
end

/-! ### blocks and small statements -/
section
variable {X : Cx} {st : Stmt} {rest : List Stmt} {t u : TS} {e : Expr} {te : TE} {pos : Pos}
def tNext : TS := fun D σ H => D.nx σ H
def tSeq (t u : TS) : TS := fun D σ H => t { D with nx := u D } σ H
theorem pss_nil : PSs X [] tNext := fun _ _ σ H _ I h => wpAny_execs_nil ⟨σ, H, I, h⟩
theorem pss_cons (h1 : PS X st t) (h2 : PSs X rest u) : PSs X (st :: rest) (tSeq t u) := by
  intro pins s σ H D I h
  refine wpAny_execs_cons (thn (h1 pins s σ H { D with nx := u D } I h) fun f s1 q => ?_)
  cases f with
  | next =>
    obtain ⟨σ', H', I', q⟩ := q
    exact h2 pins s1 σ' H' D I' q
  | ret v => exact q
  | brk => exact q
  | cont => exact q
theorem pss_one (h1 : PS X st t) : PSs X [st] t := by
  intro pins s σ H D I h
  refine wpAny_execs_cons (thn (h1 pins s σ H D I h) fun f s1 q => ?_)
  cases f with
  | next => exact wpAny_execs_nil q
  | ret v => exact q
  | brk => exact q
  | cont => exact q
/-- in a def's body nothing is shown -/
theorem Inv.quiet {pins : List (Addr × Obj)} {σ : St} {H : Hp} {s : Shared} (I : Inv X pins σ H s) : interactive X.env = false := by simp [interactive, I.ok.kind]
/-- an expression whose value is dropped -/
def tDrop (te : TE) : TS := fun D σ H => te σ H fun _ H1 => D.nx σ H1
theorem ps_expr (he : PE X e te) (hs : swapsWith e none pos.line X.env = pure false := by rfl) : PS X (.Expr e pos) (tDrop te) := by
  intro pins s σ H D I h
  exact wpAny_Expr_any (thn (he pins s σ H _ I h) fun v s1 ⟨x, H1, I1, r1, q1⟩ => ⟨σ, H1, I1, q1⟩) I.quiet hs
def tRet (te : TE) : TS := fun D σ H => te σ H D.rt
theorem ps_ret (he : PE X e te) : PS X (.Return (some e) pos) (tRet te) := by
  intro pins s σ H D I h
  exact wpAny_Return_some (thn (he pins s σ H _ I h) fun v s1 ⟨x, H1, I1, r1, q1⟩ => ⟨x, σ, H1, I1, r1, q1⟩)
def tIfS (c : TT) (t u : TS) : TS := fun D σ H => c σ H fun b H1 => if b = true then t D σ H1 else u D σ H1
theorem ps_if {c : Expr} {a b : List Stmt} {tc : TT} (hc : PT X c tc) (ha : PSs X a t) (hb : PSs X b u) : PS X (.If c a b pos) (tIfS tc t u) := by
  intro pins s σ H D I h
  refine wpAny_If (thn (hc pins s σ H _ I h) fun d s1 ⟨H1, I1, q1⟩ => ?_)
  cases d with
  | true => exact ha pins s1 σ H1 D I1 q1
  | false => exact hb pins s1 σ H1 D I1 q1
end

/-! ### targets -/
abbrev TG := V → St → Hp → (St → Hp → Prop) → Prop
abbrev TGs := List V → St → Hp → (St → Hp → Prop) → Prop
def PG (X : Cx) (target : Expr) (t : TG) : Prop :=
  ∀ (pins : List (Addr × Obj)) (s : Shared) (σ : St) (H : Hp) (v : V) (u : Value) (Q : St → Hp → Prop), Inv X pins σ H s → RelV v u → t v σ H Q →
    wpAny (model X.prog X.w) X.A (assign target X.env u) (fun _ s' => ∃ σ' H', Inv X pins σ' H' s' ∧ Q σ' H') X.xe s
/-- several targets, one after another -/
def PGs (X : Cx) (ts : List Expr) (t : TGs) : Prop :=
  ∀ (pins : List (Addr × Obj)) (s : Shared) (σ : St) (H : Hp) (vs : List V) (us : List Value) (Q : St → Hp → Prop), Inv X pins σ H s → Vals vs us → t vs σ H Q →
    wpAny (model X.prog X.w) X.A (assignInOrder ((assignEach ts X.env).map (·.2)) us) (fun _ s' => ∃ σ' H', Inv X pins σ' H' s' ∧ Q σ' H') X.xe s
/-- a op= b, by values -/
abbrev TIp := V → V → Hp → VK → Prop
def PIp (X : Cx) (op : Operator) (t : TIp) : Prop :=
  ∀ (pins : List (Addr × Obj)) (s : Shared) (σ : St) (H : Hp) (x y : V) (v u : Value) (Q : VK), Inv X pins σ H s → RelV x v → RelV y u → t x y H Q →
    wpAny (model X.prog X.w) X.A (inplaceOp op v u) (EP X pins σ Q) X.xe s
section
variable {X : Cx} {pos : Pos}
def gName (i : Nat) : TG := fun v σ H Q => Q (σ.set i (some v)) H
theorem pg_name {i : Nat} {x : Str} (hN : X.N.Nodup) (hi : X.N[i]? = some x) (hx : Loc X.env.scope x) (hf : X.fn x = true ∨ X.env.scope.names.lookup x = some .local := by first | exact .inl rfl | exact .inr rfl | assumption) : PG X (.Name x pos) (gName i) := by
  intro pins s σ H v u Q I r h
  exact wpAny_assign_Name (store_ok I hN hi hx r (fun s' I' => ⟨_, H, I', h⟩) hf)
def gNil : TGs := fun vs σ H Q => vs = [] ∧ Q σ H
def gCons (t : TG) (u : TGs) : TGs := fun vs σ H Q => ∃ v r, vs = v :: r ∧ t v σ H fun σ' H' => u r σ' H' Q
theorem pgs_nil : PGs X [] gNil := by
  intro pins s σ H vs us Q I r h
  obtain ⟨e, h⟩ := h
  subst e
  cases r
  exact assignInOrder_nil ⟨σ, H, I, h⟩
theorem pgs_cons {e : Expr} {es : List Expr} {t : TG} {u : TGs} (h1 : PG X e t) (h2 : PGs X es u)
    (hs : (assignEach (e :: es) X.env).map (·.2) = assign e X.env :: (assignEach es X.env).map (·.2) := by rfl) : PGs X (e :: es) (gCons t u) := by
  intro pins s σ H vs us Q I r h
  obtain ⟨v, vr, e1, h⟩ := h
  subst e1
  cases r with
  | cons r rr =>
    rw [hs]
    refine assignInOrder_cons (thn (h1 pins s σ H _ _ _ I r h) fun _ s1 ⟨σ1, H1, I1, q1⟩ => ?_)
    exact h2 pins s1 σ1 H1 _ _ Q I1 rr q1
/-- (a, b, ..) = a tuple of that length -/
def gTup (K : PySem.W.Frag) (n : Nat) (t : TGs) : TG := fun v σ H Q => ∃ a xs, v = .ref a ∧ SqT K H a xs ∧ xs.length = n ∧ t xs σ H Q
theorem pg_tup {es : List Expr} {k : Nat} {t : TGs} {n : Nat} (hc : X.calm = true) (h : PGs X es t)
    (hn : (assignEach es X.env).length = n := by rfl) (hst : (assignEach es X.env).findIdx? (·.1) = none := by rfl) : PG X (.Tuple es k pos) (gTup X.K n t) := by
  intro pins s σ H v u Q I r hw
  obtain ⟨a, xs, e1, hq, hl, hw⟩ := hw
  subst e1
  cases r
  obtain ⟨its, rv, ht, hz⟩ := I.tuple hq
  refine assign_Tuple_tuple (I.ok.hd hc) ht (by simp [hn, ← hl, rv.length]) hst fun h' hx => ?_
  have I1 : Inv X pins σ H { s with heap := h' } := I.kept (t' := s.toks) fun b o e => hx b o (Nat.ne_of_lt (Heap.lt_size e)) e
  exact h pins _ σ H xs _ Q I1 (by simpa using rv) hw
/-- target = value -/
def tAsg (te : TE) (g : TG) : TS := fun D σ H => te σ H fun x H1 => g x σ H1 D.nx
theorem ps_asg {tg e : Expr} {te : TE} {g : TG} (he : PE X e te) (hg : PG X tg g) (hs : swapsWithSole [tg] e pos.line X.env = pure false := by rfl) (hw : swappedStores [tg] e X.env = pure none := by rfl)
    (h1 : (assignEach [tg] X.env).map (·.2) = [assign tg X.env] := by rfl) : PS X (.Assign [tg] e pos) (tAsg te g) := by
  intro pins s σ H D I h
  refine wpAny_Assign_stores (thn (he pins s σ H _ I h) fun v s1 ⟨x, H1, I1, r1, q1⟩ => ?_) hs hw
  rw [h1]
  exact thn (hg pins s1 σ H1 x v _ I1 r1 q1) fun _ s2 q => q
/-- name = value -/
theorem ps_set {i : Nat} {x : Str} {e : Expr} {te : TE} {pos' : Pos} (hN : X.N.Nodup) (hi : X.N[i]? = some x) (hx : Loc X.env.scope x) (he : PE X e te) (hs : swapsWith e (some (.Name x pos')) pos.line X.env = pure false := by rfl) (hf : X.fn x = true ∨ X.env.scope.names.lookup x = some .local := by first | exact .inl rfl | exact .inr rfl | assumption) :
    PS X (.Assign [.Name x pos'] e pos) (tAsg te (gName i)) := by
  intro pins s σ H D I h
  refine wpAny_Assign_Name (thn (he pins s σ H _ I h) fun v s1 ⟨y, H1, I1, r1, q1⟩ => ?_) hs
  exact store_ok I1 hN hi hx r1 (fun s2 I2 => ⟨_, H1, I2, q1⟩) hf
/-- name op= e -/
inductive TAugI (i : Nat) (te : TE) (ti : TIp) (D : Ends) (σ : L2.St) (H : Hp) : Prop where
  | mk (x : _) (c1 : σ[i]? = some (some x)) (c2 : te σ H fun y H1 => ti x y H1 fun z H2 => D.nx (σ.set i (some z)) H2)
def tAug (i : Nat) (te : TE) (ti : TIp) : TS := fun D σ H => TAugI i te ti D σ H
theorem ps_aug {i : Nat} {x : Str} {e : Expr} {te : TE} {op : Operator} {ti : TIp} {pos' : Pos} (hN : X.N.Nodup) (hi : X.N[i]? = some x) (hx : Loc X.env.scope x) (he : PE X e te) (ho : PIp X op ti) (hf : X.fn x = true ∨ X.env.scope.names.lookup x = some .local := by first | exact .inl rfl | exact .inr rfl | assumption) :
    PS X (.AugAssign (.Name x pos') op e pos) (tAug i te ti) := by
  intro pins s σ H D I h
  obtain ⟨v, e1, h⟩ := h
  obtain ⟨m, hn, hl⟩ := I.loc
  have vis : Vis X.env.scope x := by rcases hx with k | k; exact .inl k; exact .inr (.inl k)
  obtain ⟨u, r, l⟩ := hl i x v hi e1 vis
  refine wpAny_AugAssign_Name ?_
  have go : wpAny (model X.prog X.w) X.A (eval e X.env) (fun w s₂ => wpAny (model X.prog X.w) X.A (inplaceOp op u w) (fun r s₃ => wpAny (model X.prog X.w) X.A (storeName X.env x r) (fun _ => SP X pins D .next) X.xe s₃) X.xe s₂) X.xe s := by
    refine thn (he pins s σ H _ I h) fun w s1 ⟨y, H1, I1, r1, q1⟩ => ?_
    refine thn (ho pins s1 σ H1 v y u w _ I1 r r1 q1) fun z s2 ⟨zv, H2, I2, r2, q2⟩ => ?_
    exact store_ok I2 hN hi hx r2 (fun s3 I3 => ⟨_, H2, I3, q2⟩) hf
  rcases l with ⟨hk, hm⟩ | ⟨hk, c, hc, hcell⟩
  · exact wpAny_loadName_local I.ok.kind hk hn hm go
  · rcases hk with hk | hk
    · exact wpAny_loadName_cell I.ok.kind hk hc hcell go
    · rcases hx with k | k
      · have : X.env.scope.names.lookup x = some .free := hk
        rw [k] at this; cases this
      · have : X.env.scope.names.lookup x = some .free := hk
        rw [k] at this; cases this
/-- ints -/
def ipI (f : Int → Int → Int) : TIp := fun x y H Q => ∃ i j, x = .int i ∧ y = .int j ∧ Q (.int (f i j)) H
theorem ip_add : PIp X .Add (ipI fun i j => i + j) := by
  intro pins s σ H x y v u Q I r1 r2 h
  obtain ⟨i, j, e1, e2, q⟩ := h
  subst e1; subst e2
  obtain ⟨t, rfl⟩ := r1
  obtain ⟨t', rfl⟩ := r2
  exact iadd_int ⟨.int _, H, I.tok _, ⟨_, rfl⟩, q⟩
end

/-! ### while -/
section
variable {X : Cx} {pos : Pos}
/-- the invariant W with its measure -/
inductive GoI (tb : TS) (D : Ends) (W : Nat → St → Hp → Prop) (m : Nat) (σ : St) (H : Hp) : Prop where
  | mk (N : St → Hp → Prop) (c1 : ∀ σ' H', N σ' H' → ∃ m', m' < m ∧ W m' σ' H') (c2 : tb { D with nx := N, ct := N, bk := D.nx } σ H)
inductive TWhileI (c : TT) (tb : TS) (D : Ends) (σ : L2.St) (H : Hp) : Prop where
  | mk (W : Nat → St → Hp → Prop) (c1 : (∃ m, W m σ H)) (c2 : ∀ m σ H, W m σ H →
  c σ H fun b H1 => if b = true then GoI tb D W m σ H1 else D.nx σ H1)
def tWhile (c : TT) (tb : TS) : TS := fun D σ H => TWhileI c tb D σ H
theorem ps_while {c : Expr} {body : List Stmt} {tc : TT} {tb : TS} (hp : PassesOwn (model X.prog X.w) X.A X.env X.xe) (hc : PT X c tc) (hb : PSs X body tb) : PS X (.While c body [] pos) (tWhile tc tb) := by
  intro pins s σ H D I h
  obtain ⟨W, ⟨m0, w0⟩, turn⟩ := h
  refine wpAny_While (codeAny_whileLoop (fun n s' => ∃ σ' H', Inv X pins σ' H' s' ∧ W n σ' H') ?_ m0 ⟨σ, H, I, w0⟩)
  rintro n s1 ⟨σ1, H1, I1, w1⟩
  refine wpAny_passesOwn hp (thn (hc pins s1 σ1 H1 _ I1 (turn n σ1 H1 w1)) fun b s2 ⟨H2, I2, q2⟩ => ?_)
  cases b with
  | true =>
    obtain ⟨N, hN, q2⟩ := q2
    rw [if_pos rfl]
    refine wpAny_passesOwn hp (thn (hb pins s2 σ1 H2 _ I2 q2) fun f s3 q3 => ?_)
    cases f with
    | next =>
      obtain ⟨σ3, H3, I3, n3⟩ := q3
      obtain ⟨m', hm, w3⟩ := hN σ3 H3 n3
      exact ⟨m', hm, σ3, H3, I3, w3⟩
    | cont =>
      obtain ⟨σ3, H3, I3, n3⟩ := q3
      obtain ⟨m', hm, w3⟩ := hN σ3 H3 n3
      exact ⟨m', hm, σ3, H3, I3, w3⟩
    | brk => exact q3
    | ret v => exact q3
  | false =>
    rw [if_neg Bool.false_ne_true]
    exact wpAny_execs_nil ⟨σ1, H2, I2, q2⟩
end

/-! ### what a loop or a comprehension walks -/
/-- at turn i: it yields x (the heap may grow), or it stops -/
structure It where
  go : Nat → Hp → Prop
  yld : Nat → Hp → V → Hp → Prop
  stop : Nat → Hp → Prop
/-- the iterator's own objects may turn: they are not the frame's, not pinned, younger than the entry (or a comprehension's own) -/
def FpOk (X : Cx) (pins : List (Addr × Obj)) (H : Hp) (b : Addr) : Prop :=
  H b = none ∧ b ≠ X.env.locals ∧ b ∉ X.fs ∧ (b ∈ X.ex ∨ X.s₀.heap.objs.size ≤ b) ∧ (∀ x c, X.env.cells.lookup x = some c → c ≠ b) ∧ ∀ p ∈ X.pn ++ pins, p.1 ≠ b
theorem Inv.fpOk {X : Cx} {pins : List (Addr × Obj)} {σ : St} {H H' : Hp} {s : Shared} {b : Addr} (I : Inv X pins σ H s) (hb : s.heap.objs.size ≤ b) (hn : H' b = none) : FpOk X pins H' b := by
  refine ⟨hn, Nat.ne_of_gt (Nat.lt_of_lt_of_le I.lt hb), I.nofs hb, .inr (Nat.le_trans I.sz hb), fun x c e z => ?_, fun p hp z => ?_⟩
  · obtain ⟨v, q⟩ := I.cell x c e
    exact absurd (Nat.lt_of_lt_of_le q.lt (by rw [z]; exact hb)) (Nat.lt_irrefl _)
  · exact absurd (Nat.lt_of_lt_of_le (Heap.lt_size (I.pin p hp).1) (by rw [z]; exact hb)) (Nat.lt_irrefl _)
structure Turn (P : Program) (w : World) (K : PySem.W.Frag) (tg : Expr) (J : It) (fp : List Addr) (it : Addr) (tn : Nat → Heap → Prop) : Prop where
  mem : it ∈ fp
  obj : ∀ i h, tn i h → ∀ b ∈ fp, ∃ o, h.get? b = some o ∧ ∀ v, o.data ≠ .cell v
  keep : ∀ i h h', tn i h → (∀ b ∈ fp, ∀ o, h.get? b = some o → h'.get? b = some o) → tn i h'
  item : ∀ (X : Cx), X.prog = P → X.w = w → X.K = K → X.calm = true → ∀ (i : Nat) (pins : List (Addr × Obj)) (s : Shared) (σ : St) (H : Hp) (E : Value → Shared → Prop), Inv X pins σ H s → (∀ b ∈ fp, FpOk X pins H b) → tn i s.heap → J.go i H →
    wpAny (model P w) X.A (pyNext (.ref it)) (fun r s1 => ∃ u, r = some u ∧
      wpAny (model P w) X.A (letOwnedTupleGo tg (.ref it) u) (fun _ s2 => ∃ x H', Inv X pins σ H' s2 ∧ RelV x u ∧ J.yld i H x H' ∧ tn (i + 1) s2.heap ∧ ∀ b ∈ fp, H' b = none) E s1) E s
  done : ∀ (X : Cx), X.prog = P → X.w = w → X.K = K → X.calm = true → ∀ (i : Nat) (pins : List (Addr × Obj)) (s : Shared) (σ : St) (H : Hp) (E : Value → Shared → Prop), Inv X pins σ H s → (∀ b ∈ fp, FpOk X pins H b) → tn i s.heap → J.stop i H →
    wpAny (model P w) X.A (pyNext (.ref it)) (fun r s1 => r = none ∧ Inv X pins σ H s1) E s
  self : ∀ (A : Around) (i : Nat) (s : Shared) (Q : Value → Shared → Prop) (E : Value → Shared → Prop), tn i s.heap → Q (.ref it) s → wpAny (model P w) A (pyIter (.ref it)) Q E s
abbrev TI := St → Hp → (It → Hp → Prop) → Prop
/-- an iterator has come -/
def PIE (X : Cx) (pins : List (Addr × Obj)) (σ : St) (tg : Expr) (R : It → Hp → Prop) (itv : Value) (s2 : Shared) : Prop :=
  ∃ (it : Addr) (fp : List Addr) (tn : Nat → Heap → Prop) (J : It) (H' : Hp), itv = .ref it ∧ Inv X pins σ H' s2 ∧ Turn X.prog X.w X.K tg J fp it tn ∧ tn 0 s2.heap ∧ (∀ b ∈ fp, FpOk X pins H' b) ∧ R J H'
def PI (X : Cx) (tg iter : Expr) (wi : TI) : Prop :=
  ∀ (pins : List (Addr × Obj)) (s : Shared) (σ : St) (H : Hp) (R : It → Hp → Prop), Inv X pins σ H s → wi σ H R →
    wpAny (model X.prog X.w) X.A (eval iter X.env) (fun v s1 => wpAny (model X.prog X.w) X.A (pyIter v) (PIE X pins σ tg R) X.xe s1) X.xe s

/-- the step ahead of the store is nothing for an iterator that keeps no tuple -/
theorem go_of {M : Model} {A : Around} {E : Value → Shared → Prop} {s : Shared} {tg : Expr} {it : Addr} {u : Value} {o : Obj} {n : String} {vs : Array Value} {Q : Unit → Shared → Prop} (ho : s.heap.get? it = some o) (hc : o.cls = .type n) (hd : o.data = .fields vs)
    (hn : ["enumerate", "zip", "dict_itemiterator", "dict_reverseitemiterator", "odict_iterator", "itertools.zip_longest", "itertools.pairwise"].contains n = false) (hQ : Q () s) : wpAny M A (letOwnedTupleGo tg (.ref it) u) Q E s := by
  unfold letOwnedTupleGo
  cases tg <;> first
    | exact wpAny_pure hQ
    | (cases u <;> first
        | exact wpAny_pure hQ
        | (refine wpAny_bind (wpAny_load ho ?_)
           rw [hc, hd]
           show wpAny M A (if (["enumerate", "zip", "dict_itemiterator", "dict_reverseitemiterator", "odict_iterator", "itertools.zip_longest", "itertools.pairwise"].contains n && vs[0]? == some (rawInt _)) = true then _ else _) Q E s
           rw [if_neg (by intro h; rw [hn, Bool.false_and] at h; cases h)]
           exact wpAny_pure hQ))

/-- the list at a, as it stands at each turn (a loop may append to it) -/
def Itl (K : PySem.W.Frag) (a : Addr) : It :=
  ⟨fun i H => ∃ xs x, SqL K H a xs ∧ xs[i]? = some x, fun i H x H' => H' = H ∧ ∀ xs, SqL K H a xs → xs[i]? = some x, fun i H => ∃ xs, SqL K H a xs ∧ xs.length ≤ i⟩
/-- lo, lo + 1, .. (n of them) -/
def Itr (lo : Int) (n : Nat) : It := ⟨fun i _ => i < n, fun i H x H' => H' = H ∧ x = .int (lo + i), fun i _ => n ≤ i⟩
theorem turn_list {P : Program} {w : World} {K : PySem.W.Frag} {tg : Expr} (a it : Addr) : Turn P w K tg (Itl K a) [it] it (fun i h => h.IsListIter it a i) where
  mem := by simp
  obj := fun i h st b hb => by
    have e : b = it := by simpa using hb
    subst e
    obtain ⟨o, e, c, d⟩ := st
    exact ⟨o, e, fun v z => by rw [d] at z; cases z⟩
  keep := fun i h h' st k => st.at fun o e => k it (by simp) o e
  item := by
    intro X hP hw hK hc i pins s σ H E I hf st hg
    subst hP hw hK
    obtain ⟨xs, x, hq, hx⟩ := hg
    obtain ⟨its, rv, p, hz⟩ := I.list hq
    obtain ⟨u, hu, ru⟩ := rv.get hx
    obtain ⟨f0, f1, f2, f3, f4, f5⟩ := hf it (by simp)
    refine wpAny_pyNext_list_item st p.isList (x := u) (by simpa using hu) fun h' st' sb => ?_
    have I1 : Inv X pins σ H { s with heap := h' } := I.turned (t' := s.toks) (fun b o hb e => (sb.2 b hb).trans e) f0 f1 f3 f4 f5
    obtain ⟨o, e, c, d⟩ := id st'
    exact ⟨u, rfl, go_of (s := { s with heap := h' }) e c d (by decide) ⟨x, H, I1, ru, ⟨rfl, fun ys hy => by rw [I.list_inj hy hq]; exact hx⟩, st', fun b hb => (hf b hb).1⟩⟩
  done := by
    intro X hP hw hK hc i pins s σ H E I hf st hg
    subst hP hw hK
    obtain ⟨xs, hq, hx⟩ := hg
    obtain ⟨its, rv, p, hz⟩ := I.list hq
    obtain ⟨f0, f1, f2, f3, f4, f5⟩ := hf it (by simp)
    have hl := rv.length
    exact wpAny_pyNext_list_end (I.ok.hd hc) st p.isList (by simp; omega) fun h' eb => ⟨rfl, I.turned (t' := s.toks) (fun b o hb e => eb b o hb e) f0 f1 f3 f4 f5⟩
  self := fun _ _ _ _ _ st h => wpAny_pyIter_listiter st h
theorem turn_range {P : Program} {w : World} {K : PySem.W.Frag} {tg : Expr} (it : Addr) (lo : Int) (n : Nat) : Turn P w K tg (Itr lo n) [it] it (fun i h => IsRangeIter h it (lo + (i : Nat) * 1) ((n : Int) - (i : Nat)) 1) where
  mem := by simp
  obj := fun i h st b hb => by
    have e : b = it := by simpa using hb
    subst e
    exact ⟨_, st, fun v z => by
      have z' : Data.fields _ = Data.cell v := z
      cases z'⟩
  keep := fun i h h' st k => k it (by simp) _ st
  item := by
    intro X hP hw hK hc i pins s σ H E I hf st hg
    subst hP hw hK
    obtain ⟨f0, f1, f2, f3, f4, f5⟩ := hf it (by simp)
    have W := Walks.range (prog := X.prog) (w := X.w) (I.ok.hd hc) it lo 1 n
    refine W.item i s _ _ hg st fun v h' tk hv st' kk => ?_
    obtain ⟨t, rfl⟩ := hv
    have I1 : Inv X pins σ H { s with heap := h', toks := tk } := I.turned (fun b o hb e => kk b o (by simpa using hb) e) f0 f1 f3 f4 f5
    refine ⟨_, rfl, go_of (s := { s with heap := h', toks := tk }) (n := "range_iterator") st' rfl rfl (by decide) ⟨.int (lo + i), H, I1, ⟨t, ?_⟩, ⟨rfl, rfl⟩, st', fun b hb => (hf b hb).1⟩⟩
    rw [Int.mul_one]
  done := by
    intro X hP hw hK hc i pins s σ H E I hf st hg
    subst hP hw hK
    obtain ⟨f0, f1, f2, f3, f4, f5⟩ := hf it (by simp)
    exact wpAny_pyNext_range_end (I.ok.hd hc) st (by have : n ≤ i := hg; omega) fun h' eb => ⟨rfl, I.turned (t' := s.toks) (fun b o hb e => eb b o hb e) f0 f1 f3 f4 f5⟩
  self := fun _ _ _ _ _ st h => wpAny_pyIter_rangeiter st h
end L2

namespace L2
open PySem PySem.Spec PyProof.Rows
section
variable {X : Cx} {tg : Expr}
inductive IListI (K : PySem.W.Frag) (R : It → Hp → Prop) (x : V) (H1 : Hp) : Prop where
  | mk (a : _) (c1 : x = .ref a) (c2 : (∃ xs, SqL K H1 a xs)) (c3 : R (Itl K a) H1)
def iList (K : PySem.W.Frag) (tl : TE) : TI := fun σ H R => tl σ H fun x H1 => IListI K R x H1
theorem pi_list {l : Expr} {tl : TE} (hl : PE X l tl) : PI X tg l (iList X.K tl) := by
  intro pins s σ H R I h
  refine thn (hl pins s σ H _ I h) fun v s1 ⟨x, H1, I1, r1, q1⟩ => ?_
  obtain ⟨a, e, ⟨xs, hq⟩, q⟩ := q1
  subst e
  cases r1
  obtain ⟨its, rv, p, hz⟩ := I1.list hq
  refine wpAny_pyIter_list p.isList ?_
  refine ⟨s1.heap.objs.size, [s1.heap.objs.size], _, _, H1, rfl, I1.kept (t' := s1.toks) fun b o e => Heap.get?_push_of_some _ e, turn_list a _, ⟨_, Heap.get?_push_size _ rfl, rfl, rfl⟩, fun b hb => ?_, q⟩
  have e : b = s1.heap.objs.size := by simpa using hb
  subst e
  exact I1.fpOk (Nat.le_refl _) (I1.hok.fresh (Nat.le_refl _))
/-- a range object just made, walked -/
theorem range_it {pins : List (Addr × Obj)} {σ : St} {H : Hp} {s : Shared} {R : It → Hp → Prop} {E : Value → Shared → Prop} {lo hi : Int} {t u v : Tok} {tk : Nat} (I : Inv X pins σ H s) (h1 : -(2 ^ 62) ≤ lo) (h2 : lo < 2 ^ 62) (h3 : -(2 ^ 62) ≤ hi) (h4 : hi < 2 ^ 62)
    (q : R (Itr lo (hi - lo).toNat) H) : wpAny (model X.prog X.w) X.A (pyIter (.ref s.heap.objs.size)) (PIE X pins σ tg R) E { s with heap := s.heap.push { cls := .type "range", data := .fields #[.int lo t, .int hi u, .int 1 v] }, toks := tk } := by
  refine wpAny_pyIter_range (IsRange.new ..) (small_one h1 h2 h3 h4) ?_
  have I1 : Inv X pins σ H { s with heap := s.heap.push { cls := .type "range", data := .fields #[.int lo t, .int hi u, .int 1 v] }, toks := tk } := I.kept fun b o e => Heap.get?_push_of_some _ e
  refine ⟨(s.heap.push { cls := .type "range", data := .fields #[.int lo t, .int hi u, .int 1 v] }).objs.size, [(s.heap.push { cls := .type "range", data := .fields #[.int lo t, .int hi u, .int 1 v] }).objs.size], _, _, H, rfl,
    I1.kept (t' := tk) fun b o e => Heap.get?_push_of_some _ e, turn_range _ lo (hi - lo).toNat, ?_, fun b hb => ?_, q⟩
  · have e1 : lo + ((0 : Nat) : Int) * 1 = lo := by simp
    have e2 : (((hi - lo).toNat : Nat) : Int) - ((0 : Nat) : Int) = Builtin.Range.rangeSize lo hi 1 := by rw [rangeSize_one]; split <;> omega
    show IsRangeIter _ _ (lo + ((0 : Nat) : Int) * 1) ((((hi - lo).toNat : Nat) : Int) - ((0 : Nat) : Int)) 1
    rw [e1, e2]
    exact Heap.get?_push_size _ rfl
  · have e : b = (s.heap.push { cls := .type "range", data := .fields #[.int lo t, .int hi u, .int 1 v] }).objs.size := by simpa using hb
    subst e
    exact I1.fpOk (Nat.le_refl _) (I1.hok.fresh (Nat.le_refl _))
inductive IRng1I (R : It → Hp → Prop) (vs : List V) (H1 : Hp) : Prop where
  | mk (j : Int) (c1 : vs = [.int j]) (c2 : -(2 ^ 62) ≤ j) (c3 : j < 2 ^ 62) (c4 : R (Itr 0 j.toNat) H1)
def iRng1 (ta : TA) : TI := fun σ H R => ta σ H fun vs H1 => IRng1I R vs H1
theorem pi_range1 {a : Expr} {ta : TA} {p pos : Pos} (hg : Gl X "range") (hm : X.mg "range" = none) (ha : PA X [a] ta) (hs : starEach [a] X.env = [(false, eval a X.env)] := by rfl) : PI X tg (.Call (.Name "range" p) [a] [] pos) (iRng1 ta) := by
  intro pins s σ H R I h
  refine Call_ (ld_blt I hg hm boot_range (PyProof.Rows.callWith_type1 (thn (ha pos pins s σ H _ I h) fun us s1 ⟨vs, H1, I1, r1, q1⟩ => ?_) hs rfl))
  obtain ⟨j, e, q1, q2, q⟩ := q1
  subst e
  cases r1 with
  | cons r rr =>
    cases rr
    obtain ⟨t, rfl⟩ := r
    exact call_range_1 (range_it I1 (by omega) (by omega) q1 q2 (by simpa using q))

/-! ### for -/
/-- W: the invariant by the turn and a measure; N: what the body is to reach -/
def tFor (wi : TI) (g : TG) (tb : TS) : TS := fun D σ H => wi σ H fun J H1 => ∃ W : Nat → Nat → St → Hp → Prop, (∃ m, W 0 m σ H1) ∧ ∀ i m σ H, W i m σ H →
  (J.stop i H ∧ D.nx σ H) ∨ (J.go i H ∧ ∃ N : St → Hp → Prop, (∀ σ' H', N σ' H' → ∃ m', m' < m ∧ W (i + 1) m' σ' H') ∧ ∀ x H', J.yld i H x H' → g x σ H' fun σ2 H2 => tb { D with nx := N, ct := N, bk := D.nx } σ2 H2)
/-- the records at fp as they stand -/
def pinsAt (fp : List Addr) (h : Heap) : List (Addr × Obj) := fp.filterMap fun b => (h.get? b).map fun o => (b, o)
theorem mem_pinsAt {fp : List Addr} {h : Heap} {b : Addr} {o : Obj} (hb : b ∈ fp) (e : h.get? b = some o) : (b, o) ∈ pinsAt fp h := List.mem_filterMap.mpr ⟨b, hb, by rw [e]; rfl⟩
theorem of_pinsAt {fp : List Addr} {h : Heap} {p : Addr × Obj} (hp : p ∈ pinsAt fp h) : p.1 ∈ fp ∧ h.get? p.1 = some p.2 := by
  obtain ⟨b, hb, e⟩ := List.mem_filterMap.mp hp
  cases q : h.get? b with
  | none => rw [q] at e; cases e
  | some o =>
    rw [q] at e
    have e' : (b, o) = p := Option.some.inj e
    subst e'
    exact ⟨hb, q⟩
theorem Inv.pinned {pins : List (Addr × Obj)} {σ : St} {H : Hp} {s : Shared} {fp : List Addr} (I : Inv X pins σ H s) (hf : ∀ b ∈ fp, FpOk X pins H b) (ho : ∀ b ∈ fp, ∃ o, s.heap.get? b = some o ∧ ∀ v, o.data ≠ .cell v) : Inv X (pins ++ pinsAt fp s.heap) σ H s :=
  I.pins_of fun p hp => (List.mem_append.mp hp).elim (fun z => I.pin p (List.mem_append_right _ z)) fun z => by
    obtain ⟨hb, e⟩ := of_pinsAt z
    obtain ⟨f0, f1, f2, _⟩ := hf p.1 hb
    obtain ⟨o, e', d⟩ := ho p.1 hb
    rw [e] at e'; cases e'
    exact ⟨e, f0, f1, f2, d⟩
theorem Inv.unpinned {pins pl : List (Addr × Obj)} {σ : St} {H : Hp} {s : Shared} (I : Inv X (pins ++ pl) σ H s) : Inv X pins σ H s := I.pins_of fun p hp => I.pin p (List.mem_append_right _ (List.mem_append_left _ hp))
theorem ps_for {iter : Expr} {body : List Stmt} {wi : TI} {g : TG} {tb : TS} {pos : Pos} (hp : PassesOwn (model X.prog X.w) X.A X.env X.xe) (hc : X.calm = true) (hi : PI X tg iter wi) (hg : PG X tg g) (hb : PSs X body tb)
    (hs : ∀ x, foldedSetIterable iter X.env x = pure x := by intro _; rfl) : PS X (.For tg iter body [] pos) (tFor wi g tb) := by
  intro pins s σ H D I h
  refine wpAny_For (thn (hi pins s σ H _ I h) fun v s1 h1 => thn h1 fun itv s2 h2 => ?_) hs
  obtain ⟨it, fp, tn, J, H2, e, I2, T, st2, f2, W, ⟨m0, w0⟩, turn⟩ := h2
  subst e
  -- what stays true of the iterator's objects through the loop
  have stat : ∀ {H' : Hp}, (∀ b ∈ fp, H' b = none) → ∀ b ∈ fp, FpOk X pins H' b := fun hn b hb => ⟨hn b hb, (f2 b hb).2⟩
  refine codeAny_forLoop_any (fun n s' => ∃ i σ' H', Inv X pins σ' H' s' ∧ tn i s'.heap ∧ (∀ b ∈ fp, H' b = none) ∧ W i n σ' H') ?_ m0 ⟨0, σ, H2, I2, st2, fun b hb => (f2 b hb).1, w0⟩
  rintro n s3 ⟨i, σ3, H3, I3, st3, fr3, w3⟩
  rcases turn i n σ3 H3 w3 with ⟨stop, qn⟩ | ⟨go, N, hN, step⟩
  · refine wpAny_passesOwn hp (thn (T.done X rfl rfl rfl hc i pins s3 σ3 H3 X.xe I3 (stat fr3) st3 stop) fun r s4 ⟨hr, I4⟩ => ?_)
    subst hr
    exact wpAny_execs_nil ⟨σ3, H3, I4, qn⟩
  · refine wpAny_passesOwn hp (thn (T.item X rfl rfl rfl hc i pins s3 σ3 H3 X.xe I3 (stat fr3) st3 go) fun r s4 ⟨u, hr, h4⟩ => ?_)
    subst hr
    refine wpAny_passesOwn hp (thn h4 fun _ s5 ⟨x, H5, I5, r5, y5, st5, fr5⟩ => ?_)
    have I5' := I5.pinned (stat fr5) (T.obj _ _ st5)
    refine wpAny_passesOwn hp (thn (hg _ s5 σ3 H5 x u _ I5' r5 (step x H5 y5)) fun _ s6 ⟨σ6, H6, I6, q6⟩ => ?_)
    refine wpAny_passesOwn hp (thn (hb _ s6 σ6 H6 _ I6 q6) fun f s7 q7 => ?_)
    have again : ∀ {σ7 : St} {H7 : Hp}, Inv X (pins ++ pinsAt fp s5.heap) σ7 H7 s7 → N σ7 H7 → ∃ m, m < n ∧ ∃ i σ' H', Inv X pins σ' H' s7 ∧ tn i s7.heap ∧ (∀ b ∈ fp, H' b = none) ∧ W i m σ' H' := fun {σ7 H7} I7 n7 => by
      obtain ⟨m', hm, w7⟩ := hN σ7 H7 n7
      refine ⟨m', hm, i + 1, σ7, H7, I7.unpinned, T.keep _ _ _ st5 fun b hb o e => (I7.pin (b, o) (List.mem_append_right _ (List.mem_append_right _ (mem_pinsAt hb e)))).1, fun b hb => ?_, w7⟩
      obtain ⟨o, e, d⟩ := T.obj _ _ st5 b hb
      exact (I7.pin (b, o) (List.mem_append_right _ (List.mem_append_right _ (mem_pinsAt hb e)))).2.1
    cases f with
    | next => obtain ⟨σ7, H7, I7, n7⟩ := q7; exact again I7 n7
    | cont => obtain ⟨σ7, H7, I7, n7⟩ := q7; exact again I7 n7
    | brk => obtain ⟨σ7, H7, I7, q7⟩ := q7; exact ⟨σ7, H7, I7.unpinned, q7⟩
    | ret v => obtain ⟨x7, σ7, H7, I7, r7, q7⟩ := q7; exact ⟨x7, σ7, H7, I7.unpinned, r7, q7⟩
end

/-! ### the forms one uses -/
/-- over a list that the body leaves as it is -/
theorem for_list {K : PySem.W.Frag} {a : Addr} {xs : List V} {g : TG} {tb : TS} {D : Ends} {σ : St} {H : Hp} (Pv : Nat → St → Hp → Prop) (h0 : Pv 0 σ H) (hl : ∀ i σ H, i ≤ xs.length → Pv i σ H → SqL K H a xs)
    (hs : ∀ i x σ H, xs[i]? = some x → Pv i σ H → g x σ H fun σ2 H2 => tb { D with nx := Pv (i + 1), ct := Pv (i + 1), bk := D.nx } σ2 H2) (hd : ∀ σ H, Pv xs.length σ H → D.nx σ H) :
    ∃ W : Nat → Nat → St → Hp → Prop, (∃ m, W 0 m σ H) ∧ ∀ i m σ H, W i m σ H →
      ((Itl K a).stop i H ∧ D.nx σ H) ∨ ((Itl K a).go i H ∧ ∃ N : St → Hp → Prop, (∀ σ' H', N σ' H' → ∃ m', m' < m ∧ W (i + 1) m' σ' H') ∧ ∀ x H', (Itl K a).yld i H x H' → g x σ H' fun σ2 H2 => tb { D with nx := N, ct := N, bk := D.nx } σ2 H2) := by
  refine ⟨fun i m σ H => m = xs.length - i ∧ i ≤ xs.length ∧ Pv i σ H, ⟨xs.length, by simp, Nat.zero_le _, h0⟩, ?_⟩
  rintro i m σ H ⟨rfl, hi, p⟩
  have q := hl i σ H hi p
  by_cases hlt : i < xs.length
  · refine .inr ⟨⟨xs, xs[i], q, by simp [hlt]⟩, Pv (i + 1), fun σ' H' p' => ⟨xs.length - (i + 1), by omega, rfl, hlt, p'⟩, fun x H' y => ?_⟩
    obtain ⟨e, y⟩ := y
    subst e
    exact hs i x σ _ (y xs q) p
  · have e : i = xs.length := by omega
    subst e
    exact .inl ⟨⟨xs, q, Nat.le_refl _⟩, hd σ H p⟩
theorem for_range {lo : Int} {n : Nat} {g : TG} {tb : TS} {D : Ends} {σ : St} {H : Hp} (Pv : Nat → St → Hp → Prop) (h0 : Pv 0 σ H)
    (hs : ∀ i σ H, i < n → Pv i σ H → g (.int (lo + i)) σ H fun σ2 H2 => tb { D with nx := Pv (i + 1), ct := Pv (i + 1), bk := D.nx } σ2 H2) (hd : ∀ σ H, Pv n σ H → D.nx σ H) :
    ∃ W : Nat → Nat → St → Hp → Prop, (∃ m, W 0 m σ H) ∧ ∀ i m σ H, W i m σ H →
      ((Itr lo n).stop i H ∧ D.nx σ H) ∨ ((Itr lo n).go i H ∧ ∃ N : St → Hp → Prop, (∀ σ' H', N σ' H' → ∃ m', m' < m ∧ W (i + 1) m' σ' H') ∧ ∀ x H', (Itr lo n).yld i H x H' → g x σ H' fun σ2 H2 => tb { D with nx := N, ct := N, bk := D.nx } σ2 H2) := by
  refine ⟨fun i m σ H => m = n - i ∧ i ≤ n ∧ Pv i σ H, ⟨n, by simp, Nat.zero_le _, h0⟩, ?_⟩
  rintro i m σ H ⟨rfl, hi, p⟩
  by_cases hlt : i < n
  · refine .inr ⟨hlt, Pv (i + 1), fun σ' H' p' => ⟨n - (i + 1), by omega, rfl, hlt, p'⟩, fun x H' y => ?_⟩
    obtain ⟨e, y⟩ := y
    subst e y
    exact hs i σ _ hlt p
  · have e : i = n := by omega
    subst e
    exact .inl ⟨Nat.le_refl _, hd σ H p⟩
end L2

namespace L2
open PySem PySem.Spec PyProof.Rows

abbrev R2 := V → V → Hp → VK → Prop
/-- a two-place operation on values: f is binaryOp op, inplaceOp op or compareOp op -/
def OpR (X : Cx) (f : Value → Value → Sem Value) (r : R2) : Prop :=
  ∀ (pins : List (Addr × Obj)) (s : Shared) (σ : St) (H : Hp) (x y : V) (v u : Value) (Q : VK), Inv X pins σ H s → RelV x v → RelV y u → r x y H Q →
    wpAny (model X.prog X.w) X.A (f v u) (EP X pins σ Q) X.xe s
/-- a one-place operation -/
def UnR (X : Cx) (f : Value → Sem Value) (r : V → Hp → VK → Prop) : Prop :=
  ∀ (pins : List (Addr × Obj)) (s : Shared) (σ : St) (H : Hp) (x : V) (v : Value) (Q : VK), Inv X pins σ H s → RelV x v → r x H Q →
    wpAny (model X.prog X.w) X.A (f v) (EP X pins σ Q) X.xe s
/-- a call of a value that is known (a builtin, a type) with values -/
def CallR (X : Cx) (f : Value) (r : List V → Hp → VK → Prop) : Prop :=
  ∀ (pins : List (Addr × Obj)) (s : Shared) (σ : St) (H : Hp) (xs : List V) (us : List Value) (Q : VK), Inv X pins σ H s → Vals xs us → r xs H Q →
    wpAny (model X.prog X.w) X.A (call f us) (EP X pins σ Q) X.xe s
/-- a value's truth -/
def TruR (X : Cx) (r : V → Hp → (Bool → Hp → Prop) → Prop) : Prop :=
  ∀ (pins : List (Addr × Obj)) (s : Shared) (σ : St) (H : Hp) (x : V) (v : Value) (Q : Bool → Hp → Prop), Inv X pins σ H s → RelV x v → r x H Q →
    wpAny (model X.prog X.w) X.A (truthy v) (TP X pins σ Q) X.xe s

def tOp (r : R2) (ta tb : TE) : TE := fun σ H Q => ta σ H fun x H1 => tb σ H1 fun y H2 => r x y H2 Q
def tUn (r : V → Hp → VK → Prop) (ta : TE) : TE := fun σ H Q => ta σ H fun x H1 => r x H1 Q
/-- ints in, under C, and a value out -/
inductive RII (C : Int → Int → Prop) (g : Int → Int → V) (x : V) (y : V) (H : Hp) (Q : VK) : Prop where
  | mk (i : _) (j : _) (c1 : x = .int i) (c2 : y = .int j) (c3 : C i j) (c4 : Q (g i j) H)
def rI (C : Int → Int → Prop) (g : Int → Int → V) : R2 := fun x y H Q => RII C g x y H Q
inductive RI0I (g : Int → Int → V) (x : V) (y : V) (H : Hp) (Q : VK) : Prop where
  | mk (i : _) (j : _) (c1 : x = .int i) (c2 : y = .int j) (c3 : Q (g i j) H)
def rI0 (g : Int → Int → V) : R2 := fun x y H Q => RI0I g x y H Q
inductive RUI (g : Int → V) (x : V) (H : Hp) (Q : VK) : Prop where
  | mk (i : _) (c1 : x = .int i) (c2 : Q (g i) H)
def rU (g : Int → V) : V → Hp → VK → Prop := fun x H Q => RUI g x H Q

section
variable {X : Cx} {a b c : Expr} {ta tb tc : TE} {pos : Pos}

theorem binT (ha : PE X a ta) (hb : PE X b tb) {pins : List (Addr × Obj)} {s : Shared} {σ : St} {H : Hp} {R : V → V → Hp → Prop} (I : Inv X pins σ H s)
    (h : ta σ H fun x H1 => tb σ H1 fun y H2 => R x y H2) {Q : Value → Shared → Prop} {f : Value → Value → Sem Value}
    (hf : ∀ v u s2 x y H2, Inv X pins σ H2 s2 → RelV x v → RelV y u → R x y H2 → wpAny (model X.prog X.w) X.A (f v u) Q X.xe s2) :
    wpAny (model X.prog X.w) X.A (eval a X.env) (fun v s₁ => wpAny (model X.prog X.w) X.A (eval b X.env) (fun u s₂ => wpAny (model X.prog X.w) X.A (f v u) Q X.xe s₂) X.xe s₁) X.xe s := by
  refine thn (ha pins s σ H _ I h) fun v s1 ⟨x, H1, I1, r1, q1⟩ => ?_
  refine thn (hb pins s1 σ H1 _ I1 q1) fun u s2 ⟨y, H2, I2, r2, q2⟩ => ?_
  exact hf v u s2 x y H2 I2 r1 r2 q2

theorem pe_op {op : Operator} {r : R2} (ho : OpR X (binaryOp op) r) (ha : PE X a ta) (hb : PE X b tb) : PE X (.BinOp a op b pos) (tOp r ta tb) := by
  intro pins s σ H Q I h
  exact wpAny_BinOp (binT ha hb I h fun v u s2 x y H2 I2 rx ry q => ho pins s2 σ H2 x y v u Q I2 rx ry q)
theorem pe_un {op : UnaryOp} {r : V → Hp → VK → Prop} (ho : UnR X (unaryOp op) r) (ha : PE X a ta) : PE X (.UnaryOp op a pos) (tUn r ta) := by
  intro pins s σ H Q I h
  exact UnaryOp_ (thn (ha pins s σ H _ I h) fun v s1 ⟨x, H1, I1, r1, q1⟩ => ho pins s1 σ H1 x v Q I1 r1 q1)

/-! ### ints -/
theorem opI {f : Value → Value → Sem Value} {C : Int → Int → Prop} {g : Int → Int → Int}
    (rule : ∀ (i j : Int) (t u : Tok) (s : Shared) (Q : Value → Shared → Prop) (E : Value → Shared → Prop), C i j → Q (.int (g i j) s.toks) { s with toks := s.toks + 1 } → wpAny (model X.prog X.w) X.A (f (.int i t) (.int j u)) Q E s) :
    OpR X f (rI C fun i j => .int (g i j)) := by
  intro pins s σ H x y v u Q I rx ry h
  obtain ⟨i, j, rfl, rfl, hc, q⟩ := h
  obtain ⟨t, rfl⟩ := rx
  obtain ⟨t', rfl⟩ := ry
  exact rule i j t t' s _ _ hc ⟨.int (g i j), H, I.tok _, ⟨_, rfl⟩, q⟩
theorem opI0 {f : Value → Value → Sem Value} {g : Int → Int → Int}
    (rule : ∀ (i j : Int) (t u : Tok) (s : Shared) (Q : Value → Shared → Prop) (E : Value → Shared → Prop), Q (.int (g i j) s.toks) { s with toks := s.toks + 1 } → wpAny (model X.prog X.w) X.A (f (.int i t) (.int j u)) Q E s) :
    OpR X f (rI0 fun i j => .int (g i j)) := by
  intro pins s σ H x y v u Q I rx ry h
  obtain ⟨i, j, rfl, rfl, q⟩ := h
  obtain ⟨t, rfl⟩ := rx
  obtain ⟨t', rfl⟩ := ry
  exact rule i j t t' s _ _ ⟨.int (g i j), H, I.tok _, ⟨_, rfl⟩, q⟩
theorem opB0 {f : Value → Value → Sem Value} {g : Int → Int → Bool}
    (rule : ∀ (i j : Int) (t u : Tok) (s : Shared) (Q : Value → Shared → Prop) (E : Value → Shared → Prop), Q (.bool (g i j)) s → wpAny (model X.prog X.w) X.A (f (.int i t) (.int j u)) Q E s) :
    OpR X f (rI0 fun i j => .bl (g i j)) := by
  intro pins s σ H x y v u Q I rx ry h
  obtain ⟨i, j, rfl, rfl, q⟩ := h
  obtain ⟨t, rfl⟩ := rx
  obtain ⟨t', rfl⟩ := ry
  exact rule i j t t' s _ _ ⟨.bl (g i j), H, I, rfl, q⟩

def CDiv (i j : Int) : Prop := 0 < j ∧ j < 1073741824
def CPow (i j : Int) : Prop := 0 ≤ j ∧ j ≤ 1000000 ∧ i.natAbs < 2 ^ 64
def CMul (i j : Int) : Prop := (-(2 ^ 64) < i ∧ i < 2 ^ 64) ∨ (-(2 ^ 64) < j ∧ j < 2 ^ 64)
theorem CMul.ok {i j : Int} (h : CMul i j) : IntMulOk i j := by
  rcases h with ⟨h1, h2⟩ | ⟨h1, h2⟩
  · exact .of_left (intBits_le_64 h1 h2)
  · exact .of_right (intBits_le_64 h1 h2)

theorem op_add : OpR X (binaryOp .Add) (rI0 fun i j => .int (i + j)) := opI0 fun _ _ _ _ _ _ _ q => add_int q
theorem op_sub : OpR X (binaryOp .Sub) (rI0 fun i j => .int (i - j)) := opI0 fun _ _ _ _ _ _ _ q => sub_int q
/-- // by a positive divisor -/
theorem op_fdiv : OpR X (binaryOp .FloorDiv) (rI CDiv fun i j => .int (i / j)) := opI fun i j _ _ _ _ _ hc q => by
  have h1 : (0 : Int) < j := hc.1
  have h2 : j < 1073741824 := hc.2
  exact floordiv_int (by omega) (by rw [Int.fdiv_eq_ediv_of_nonneg i (by omega)]; exact q) (.inl (PyProof.noPylong_small (by omega)))
/-- % by a positive divisor of any size -/
theorem op_mod : OpR X (binaryOp .Mod) (rI (fun _ j => 0 < j) fun i j => .int (i % j)) := opI fun i j _ _ _ _ _ hc q => by
  have h1 : (0 : Int) < j := hc
  exact mod_int' (by omega) (by rw [Int.fmod_eq_emod_of_nonneg i (by omega)]; exact q)
theorem op_pow : OpR X (binaryOp .Pow) (rI CPow fun i j => .int (i ^ j.toNat)) := opI fun _ _ _ _ _ _ _ hc q => pow_int_small hc.1 hc.2.1 hc.2.2 q


theorem unI {f : Value → Sem Value} {g : Int → Int}
    (rule : ∀ (i : Int) (t : Tok) (s : Shared) (Q : Value → Shared → Prop) (E : Value → Shared → Prop), Q (.int (g i) s.toks) { s with toks := s.toks + 1 } → wpAny (model X.prog X.w) X.A (f (.int i t)) Q E s) :
    UnR X f (rU fun i => .int (g i)) := by
  intro pins s σ H x v Q I rx h
  obtain ⟨i, rfl, q⟩ := h
  obtain ⟨t, rfl⟩ := rx
  exact rule i t s _ _ ⟨.int (g i), H, I.tok _, ⟨_, rfl⟩, q⟩
theorem un_neg : UnR X (unaryOp .USub) (rU fun i => .int (-i)) := unI fun _ _ _ _ _ q => neg_int q

/-! ### bools among ints: n += (a < b) -/
end

/-! ### comparisons -/
/-- the scalars that == tells apart as data does -/
def scal : V → V → Bool
  | .non, .non => true | .non, .int _ => true | .int _, .non => true | .non, .bl _ => true | .bl _, .non => true | .non, .str _ => true | .str _, .non => true
  | .int _, .int _ => true | .bl _, .bl _ => true | .str _, .str _ => true | .byt _, .byt _ => true
  | .int _, .str _ => true | .str _, .int _ => true | .bl _, .str _ => true | .str _, .bl _ => true
  | _, _ => false
inductive REqI (x : V) (y : V) (H : Hp) (Q : VK) : Prop where
  | mk (c1 : scal x y = true) (c2 : Q (.bl (decide (x = y))) H)
def rEq : R2 := fun x y H Q => REqI x y H Q
inductive RNeI (x : V) (y : V) (H : Hp) (Q : VK) : Prop where
  | mk (c1 : scal x y = true) (c2 : Q (.bl (!decide (x = y))) H)
def rNe : R2 := fun x y H Q => RNeI x y H Q

theorem dec_int {i j : Int} : decide (V.int i = V.int j) = (i == j) := by
  rw [Bool.eq_iff_iff]
  simp
theorem dec_bl {i j : Bool} : decide (V.bl i = V.bl j) = (i == j) := by
  rw [Bool.eq_iff_iff]
  simp
theorem dec_str {i j : Str} : decide (V.str i = V.str j) = (i == j) := by
  rw [Bool.eq_iff_iff]
  simp
theorem dec_byt {i j : Array UInt8} : decide (V.byt i = V.byt j) = (i.toList == j.toList) := by
  rw [Bool.eq_iff_iff]
  cases i
  cases j
  simp

section
variable {X : Cx} {a b c : Expr} {ta tb tc : TE} {pos : Pos}
theorem fin_bl {pins : List (Addr × Obj)} {σ : St} {H : Hp} {s : Shared} {Q : VK} {k k' : Bool} (I : Inv X pins σ H s) (q : Q (.bl k) H) (e : k = k') : EP X pins σ Q (.bool k') s := by
  subst e
  exact ⟨.bl k, H, I, rfl, q⟩
theorem op_eq : OpR X (compareOp .Eq) rEq := by
  intro pins s σ H x y v u Q I rx ry h
  obtain ⟨hs, q⟩ := h
  cases x with
  | non =>
    cases rx
    cases y with
    | non => cases ry; exact PySem.EqNone.eq_none_none (fin_bl I q (by simp))
    | bl j => cases ry; exact PySem.EqNone.eq_none_bool (fin_bl I q (by simp))
    | int j => obtain ⟨t', rfl⟩ := ry; exact PySem.EqNone.eq_none_int (fin_bl I q (by simp))
    | str j => obtain ⟨t', rfl⟩ := ry; exact PySem.EqNone.eq_none_str (fin_bl I q (by simp))
    | _ => exact absurd (show false = true from hs) Bool.false_ne_true
  | bl i =>
    cases rx
    cases y with
    | non => cases ry; exact PySem.EqNone.eq_bool_none (fin_bl I q (by simp))
    | bl j => cases ry; exact eq_bool (fin_bl I q dec_bl)
    | str j => obtain ⟨t', rfl⟩ := ry; exact PySem.EqMixed.eq_bool_str (fin_bl I q (by simp))
    | _ => exact absurd (show false = true from hs) Bool.false_ne_true
  | int i =>
    obtain ⟨t, rfl⟩ := rx
    cases y with
    | non => cases ry; exact PySem.EqNone.eq_int_none (fin_bl I q (by simp))
    | int j => obtain ⟨t', rfl⟩ := ry; exact eq_int (fin_bl I q dec_int)
    | str j => obtain ⟨t', rfl⟩ := ry; exact PySem.EqMixed.eq_int_str (fin_bl I q (by simp))
    | _ => exact absurd (show false = true from hs) Bool.false_ne_true
  | str i =>
    obtain ⟨t, rfl⟩ := rx
    cases y with
    | non => cases ry; exact PySem.EqNone.eq_str_none (fin_bl I q (by simp))
    | bl j => cases ry; exact PySem.EqMixed.eq_str_bool (fin_bl I q (by simp))
    | int j => obtain ⟨t', rfl⟩ := ry; exact PySem.EqMixed.eq_str_int (fin_bl I q (by simp))
    | str j => obtain ⟨t', rfl⟩ := ry; exact eq_str (fin_bl I q dec_str)
    | _ => exact absurd (show false = true from hs) Bool.false_ne_true
  | byt i =>
    obtain ⟨t, rfl⟩ := rx
    cases y with
    | byt j => obtain ⟨t', rfl⟩ := ry; exact PySem.W.eq_bytes (fin_bl I q dec_byt)
    | _ => exact absurd (show false = true from hs) Bool.false_ne_true
  | _ => cases y <;> exact absurd (show false = true from hs) Bool.false_ne_true
theorem op_ne : OpR X (compareOp .NotEq) rNe := by
  intro pins s σ H x y v u Q I rx ry h
  obtain ⟨hs, q⟩ := h
  cases x with
  | non =>
    cases rx
    cases y with
    | non => cases ry; exact PySem.EqNone.ne_none_none (fin_bl I q (by simp))
    | bl j => cases ry; exact PySem.EqNone.ne_none_bool (fin_bl I q (by simp))
    | int j => obtain ⟨t', rfl⟩ := ry; exact PySem.EqNone.ne_none_int (fin_bl I q (by simp))
    | str j => obtain ⟨t', rfl⟩ := ry; exact PySem.EqNone.ne_none_str (fin_bl I q (by simp))
    | _ => exact absurd (show false = true from hs) Bool.false_ne_true
  | bl i =>
    cases rx
    cases y with
    | non => cases ry; exact PySem.EqNone.ne_bool_none (fin_bl I q (by simp))
    | bl j => cases ry; exact ne_bool (fin_bl I q (congrArg not dec_bl))
    | str j => obtain ⟨t', rfl⟩ := ry; exact PySem.EqMixed.ne_bool_str (fin_bl I q (by simp))
    | _ => exact absurd (show false = true from hs) Bool.false_ne_true
  | int i =>
    obtain ⟨t, rfl⟩ := rx
    cases y with
    | non => cases ry; exact PySem.EqNone.ne_int_none (fin_bl I q (by simp))
    | int j => obtain ⟨t', rfl⟩ := ry; exact ne_int (fin_bl I q (congrArg not dec_int))
    | str j => obtain ⟨t', rfl⟩ := ry; exact PySem.EqMixed.ne_int_str (fin_bl I q (by simp))
    | _ => exact absurd (show false = true from hs) Bool.false_ne_true
  | str i =>
    obtain ⟨t, rfl⟩ := rx
    cases y with
    | non => cases ry; exact PySem.EqNone.ne_str_none (fin_bl I q (by simp))
    | bl j => cases ry; exact PySem.EqMixed.ne_str_bool (fin_bl I q (by simp))
    | int j => obtain ⟨t', rfl⟩ := ry; exact PySem.EqMixed.ne_str_int (fin_bl I q (by simp))
    | str j => obtain ⟨t', rfl⟩ := ry; exact ne_str (fin_bl I q (congrArg not dec_str))
    | _ => exact absurd (show false = true from hs) Bool.false_ne_true
  | byt i =>
    obtain ⟨t, rfl⟩ := rx
    cases y with
    | byt j => obtain ⟨t', rfl⟩ := ry; exact PySem.W.ne_bytes (fin_bl I q (congrArg not dec_byt))
    | _ => exact absurd (show false = true from hs) Bool.false_ne_true
  | _ => cases y <;> exact absurd (show false = true from hs) Bool.false_ne_true

theorem op_lt : OpR X (compareOp .Lt) (rI0 fun i j => .bl (decide (i < j))) := opB0 fun _ _ _ _ _ _ _ q => lt_int q
theorem op_gt : OpR X (compareOp .Gt) (rI0 fun i j => .bl (decide (j < i))) := opB0 fun _ _ _ _ _ _ _ q => gt_int q
theorem op_ge : OpR X (compareOp .GtE) (rI0 fun i j => .bl (decide (j ≤ i))) := opB0 fun _ _ _ _ _ _ _ q => ge_int q

theorem op_notN : OpR X (compareOp .IsNot) (fun x y H Q => y = .non ∧ Q (.bl (!decide (x = .non))) H) := by
  intro pins s σ H x y v u Q I rx ry h
  obtain ⟨rfl, q⟩ := h
  cases ry
  refine isnot_none_gen (fin_bl I q ?_)
  cases x <;> first
    | (cases rx; rfl)
    | (obtain ⟨t, rfl⟩ := rx; rfl)


/-- two rules for one operation: by cases -/
theorem OpR.or {f : Value → Value → Sem Value} {r r' : R2} (h : OpR X f r) (h' : OpR X f r') : OpR X f (fun x y H Q => r x y H Q ∨ r' x y H Q) := by
  intro pins s σ H x y v u Q I rx ry q
  rcases q with q | q
  · exact h pins s σ H x y v u Q I rx ry q
  · exact h' pins s σ H x y v u Q I rx ry q

theorem nomark (b : Expr) {op : CmpOp} (h : op ≠ .In := by decide) (h2 : op ≠ .NotIn := by decide) : behindInMarks op b = false := by
  have e1 : (op == CmpOp.In) = false := by cases op <;> first | rfl | exact absurd rfl h
  have e2 : (op == CmpOp.NotIn) = false := by cases op <;> first | rfl | exact absurd rfl h2
  cases b <;> simp [behindInMarks, e1, e2]
/-- a comparison as a value; hm: nomark b, or (for in, not in) by with_unfolding_all rfl -/
theorem pe_cmpR {op : CmpOp} {r : R2} (ho : OpR X (compareOp op) r) (ha : PE X a ta) (hb : PE X b tb) (hm : behindInMarks op b = false) : PE X (.Compare a [op] [b] pos) (tOp r ta tb) := by
  intro pins s σ H Q I h
  exact wpAny_Compare1 (binT ha hb I h fun v u s2 x y H2 I2 rx ry q => ho pins s2 σ H2 x y v u Q I2 rx ry q) hm
/-- a reading of a value as a test -/
inductive TTestI (x : V) (H' : Hp) (Q : Bool → Hp → Prop) : Prop where
  | mk (k : _) (c1 : x = .bl k) (c2 : Q k H')
def tTest (t : TE) : TT := fun σ H Q => t σ H fun x H' => TTestI x H' Q
theorem pt_cmpR {op : CmpOp} {r : R2} (ho : OpR X (compareOp op) r) (ha : PE X a ta) (hb : PE X b tb) (hm : behindInMarks op b = false) : PT X (.Compare a [op] [b] pos) (tTest (tOp r ta tb)) := by
  intro pins s σ H Q I h
  refine wpAny_isTrue_Compare1 (thn (ha pins s σ H _ I h) fun v s1 ⟨x, H1, I1, r1, q1⟩ => thn (hb pins s1 σ H1 _ I1 q1) fun u s2 ⟨y, H2, I2, r2, q2⟩ =>
    thn (ho pins s2 σ H2 x y v u _ I2 r1 r2 q2) fun c s3 ⟨z, H3, I3, r3, k, e, q3⟩ => ?_) hm
  subst e
  cases r3
  exact wpAny_truthy_bool ⟨H3, I3, q3⟩

/-! ### truth -/
/-- a value's truth by the abstract heap -/
def TruV (K : PySem.W.Frag) (x : V) (H : Hp) (k : Bool) : Prop :=
  match x with
  | .non => k = false
  | .bl b => k = b
  | .int i => k = (i != 0)
  | .str y => y.length ≤ sizeLine ∧ k = ((y.length : Int) != 0)
  | .byt y => y.size ≤ sizeLine ∧ k = ((y.size : Int) != 0)
  | .ref p => (∃ xs, SqL K H p xs ∧ k = !xs.isEmpty) ∨ (∃ xs, SqT K H p xs ∧ k = !xs.isEmpty) ∨ ∃ kvs, H p = some (.dK kvs) ∧ k = !kvs.isEmpty
  | _ => False
theorem isEmpty_kv {κ : Type} {kvs : List (κ × V)} {vs : List (κ × Value)} (r : KV kvs vs) : (!vs.isEmpty) = !kvs.isEmpty := by
  cases r <;> rfl
theorem isEmpty_of {xs : List V} {its : List Value} (r : Vals xs its) : (!its.toArray.isEmpty) = !xs.isEmpty := by
  cases r <;> simp
theorem line63 : (sizeLine : Nat) < 2 ^ 63 := by rw [sizeLine_eq]; decide
theorem tru_ok : TruR X (fun x H Q => ∃ k, TruV X.K x H k ∧ Q k H) := by
  intro pins s σ H x v Q I rx h
  obtain ⟨k, e, q⟩ := h
  have hl := line63
  have hs : sizeLine = 16777216 := sizeLine_eq
  cases x with
  | non =>
    cases rx
    have e' : k = false := e
    subst e'
    exact truthy_none ⟨H, I, q⟩
  | bl b =>
    cases rx
    have e' : k = b := e
    subst e'
    exact wpAny_truthy_bool ⟨H, I, q⟩
  | int i =>
    obtain ⟨t, rfl⟩ := rx
    have e' : k = (i != 0) := e
    subst e'
    exact PySem.P.truthy_int ⟨H, I, q⟩
  | str y =>
    obtain ⟨t, rfl⟩ := rx
    obtain ⟨hy, e'⟩ : y.length ≤ sizeLine ∧ k = ((y.length : Int) != 0) := e
    subst e'
    exact PySem.P.truthy_str (by omega) ⟨H, I.tok _, q⟩
  | byt y =>
    obtain ⟨t, rfl⟩ := rx
    obtain ⟨hy, e'⟩ : y.size ≤ sizeLine ∧ k = ((y.size : Int) != 0) := e
    subst e'
    exact PySem.W.truthy_bytes (by omega) ⟨H, I.tok _, q⟩
  | ref p =>
    cases rx
    have e' : (∃ xs, SqL X.K H p xs ∧ k = !xs.isEmpty) ∨ (∃ xs, SqT X.K H p xs ∧ k = !xs.isEmpty) ∨ ∃ kvs, H p = some (.dK kvs) ∧ k = !kvs.isEmpty := e
    rcases e' with ⟨xs, hx, e'⟩ | ⟨xs, hx, e'⟩ | ⟨kvs, hx, e'⟩
    · subst e'
      obtain ⟨its, r, pl, hz⟩ := I.list hx
      have hlen := r.length
      exact wpAny_truthy_list pl.isList (by simp only [List.size_toArray]; omega) ⟨H, I.tok _, by rw [isEmpty_of r]; exact q⟩
    · subst e'
      obtain ⟨its, r, pl, hz⟩ := I.tuple hx
      have hlen := r.length
      exact truthy_tuple pl (by simp only [List.size_toArray]; omega) ⟨H, I.tok _, by rw [isEmpty_of r]; exact q⟩
    · subst e'
      obtain ⟨hz, hS, vs, r, m⟩ : kvs.length ≤ sizeLine ∧ (p == sysModules) = false ∧ ∃ vs, KV kvs vs ∧ s.heap.DictOf (mixKind X.prog X.w) p vs := I.hok p _ hx
      have hlen : kvs.length = vs.length := Paired.length r
      exact wpAny_truthy_dict hS m (by omega) ⟨H, I.tok _, by rw [isEmpty_kv r]; exact q⟩
  | _ => exact (show False from e).elim
/-- any expression whose test is its value's truth (a name, a call, a subscript, a field ..: he by fun _ => rfl) -/
theorem pt_truth (ha : PE X a ta) (he : ∀ whole, isTrue a X.env whole = (do let v ← whole; standAt a.pos; holding [v] (truthy v))) :
    PT X a (fun σ H Q => ta σ H fun x H' => ∃ k, TruV X.K x H' k ∧ Q k H') := by
  intro pins s σ H Q I h
  exact isTrue_plain (thn (ha pins s σ H _ I h) fun v s1 ⟨x, H1, I1, r1, q1⟩ => tru_ok pins s1 σ H1 x v Q I1 r1 q1) (he _)

/-! ### strs and bytes -/
theorem op_add_str : OpR X (binaryOp .Add) (fun x y H Q => ∃ i j, x = .str i ∧ y = .str j ∧ i.length + j.length ≤ sizeLine ∧ Q (.str (i ++ j)) H) := by
  intro pins s σ H x y v u Q I rx ry h
  obtain ⟨i, j, rfl, rfl, hz, q⟩ := h
  obtain ⟨t, rfl⟩ := rx
  obtain ⟨t', rfl⟩ := ry
  exact add_str (fun t' tk => ⟨.str (i ++ j), H, I.tok _, ⟨_, rfl⟩, q⟩) hz


/-! ### scalar builtins, by CallR -/
theorem vals1 {x : V} {us : List Value} (r : Vals [x] us) : ∃ u, us = [u] ∧ RelV x u := by
  cases r with
  | cons r1 r2 => cases r2; exact ⟨_, rfl, r1⟩
theorem vals2 {x y : V} {us : List Value} (r : Vals [x, y] us) : ∃ u w', us = [u, w'] ∧ RelV x u ∧ RelV y w' := by
  cases r with
  | cons r1 r2 =>
    cases r2 with
    | cons r3 r4 => cases r4; exact ⟨_, _, rfl, r1, r3⟩
theorem call_abs : CallR X (.builtin "abs") (fun xs H Q => ∃ i, xs = [.int i] ∧ Q (.int (if i < 0 then -i else i)) H) := by
  intro pins s σ H xs us Q I r h
  obtain ⟨i, rfl, q⟩ := h
  obtain ⟨u, rfl, t, rfl⟩ := vals1 r
  exact call_abs_int fun u tk => ⟨.int (if i < 0 then -i else i), H, I.tok _, ⟨_, rfl⟩, q⟩
theorem call_int1 : CallR X (.type "int") (fun xs H Q => (∃ i, xs = [.int i] ∧ Q (.int i) H) ∨ ∃ k, xs = [.bl k] ∧ Q (.int (if k then 1 else 0)) H) := by
  intro pins s σ H xs us Q I r h
  rcases h with ⟨i, rfl, q⟩ | ⟨k, rfl, q⟩
  · obtain ⟨u, rfl, t, rfl⟩ := vals1 r
    exact call_int_int ⟨.int i, H, I, ⟨_, rfl⟩, q⟩
  · obtain ⟨u, rfl, r1⟩ := vals1 r
    cases r1
    exact call_int_bool ⟨.int (if k then 1 else 0), H, I.tok _, ⟨_, rfl⟩, q⟩
end
end L2

namespace L2
open PySem PySem.Spec PyProof.Rows

/-! ### an instance, its attributes a map -/
structure ObjM (h : Heap) (x dx C : Addr) (mA : Str → Option Value) : Prop where
  obj : h.get? x = some (PySem.W.instObj C dx)
  ns : h.Ns1 dx mA
  ne : dx ≠ x

theorem lookIn_ns {h : Heap} {dx : Addr} {mA : Str → Option Value} (n : h.Ns1 dx mA) : ∃ od, h.get? dx = some od ∧ ∀ name, PySem.W.lookIn name od = some (mA name) := by
  obtain ⟨o, es, ep, ho, hd, hk, _, hm⟩ := n
  refine ⟨o, ho, fun name => ?_⟩
  have e := hm name
  unfold nsFind findBy at e
  rw [← Array.find?_toList] at e
  unfold PySem.W.lookIn
  rw [hd]
  dsimp only
  split
  · rename_i y q
    rw [q] at e
    exact congrArg some e
  · rename_i q
    rw [q] at e
    have a : es.toList.any (·.refKey) = false := by
      rw [List.any_eq_false]
      intro y hy
      obtain ⟨z, t, hkey⟩ := hk y (Array.mem_toList_iff.mp hy)
      simp [DictEntry.refKey, hkey]
    have a' : ¬ es.toList.any (·.refKey) = true := by rw [a]; exact Bool.false_ne_true
    rw [if_neg a']
    exact congrArg some e

theorem ObjM.look {h : Heap} {x dx C : Addr} {mA : Str → Option Value} (I : ObjM h x dx C mA) : ∃ od, PySem.W.InstAt h x (PySem.W.instObj C dx) C (some od) ∧ ∀ name, PySem.W.lookIn name od = some (mA name) :=
  let ⟨od, ho, hl⟩ := lookIn_ns I.ns
  ⟨od, ⟨I.obj, rfl, rfl, ho⟩, hl⟩

section
variable {prog : Program} {w : World} {A : Around} {E : Value → Shared → Prop} {s : Shared} {K : PySem.W.Frag} {x dx C f : Addr} {mA : Str → Option Value} {name : Str} {v : Value}



theorem get_meth {pl : Sem Bool} {Q : Value × List Value → Shared → Prop} (X : K.In s.heap) (I : ObjM s.heap x dx C mA) (hg : PySem.W.plainGet K C name = true)
    (hf : PySem.W.findIn K (.ref C) name = some (some (.ref f))) (ht : PySem.W.isFn K (.ref f) = true) (hv : mA name = none) (h : Q (.ref f, [.ref x]) s) :
    wpAny (model prog w) A (getMethod (.ref x) name pl) Q E s := by
  obtain ⟨od, J, hl⟩ := I.look
  exact PySem.W.method_fn X J (PySem.W.plainGet_of hg).1 (PySem.W.plainGet_of hg).2 hf (beq_iff_eq.mp ht) (by show (PySem.W.lookIn name od).map (·.isSome) = some false; rw [hl, hv]; rfl) h


/-- C(..): the dict at the heap's end, the instance behind it; then its __init__ -/
theorem make_map {R : Result → Shared → Prop} {vs : List Value} {kw : List (Str × Value)} (X : K.In s.heap) (hm : PySem.W.makesIn K C = true)
    (hi : PySem.W.findIn K (.ref C) "__init__" = some (some (.ref f))) (hf : PySem.W.typeIn K (.ref f) = some (.type "function"))
    (h : codeAny (model prog w) (A.under (.builtin "type.__call__" ⟨.ref C :: vs, kw⟩)) (.call (.ref f) ⟨.ref (s.heap.objs.size + 1) :: vs, kw⟩) (PySem.W.InitBack (s.heap.objs.size + 1) R)
      { s with heap := (s.heap.push PySem.W.emptyDict).push (PySem.W.instObj C s.heap.objs.size) }) :
    codeAny (model prog w) A (.call (.ref C) ⟨vs, kw⟩) R s := by
  obtain ⟨hh, g, d, t, os⟩ := s
  exact PySem.W.make_core (PySem.W.makes_of X hm) (PySem.W.looks_findIn X hi) (fun self => PySem.W.bind_fn X self hf) (.inl rfl) h
end

/-! ### the attributes as a list of pairs -/

theorem RelO.none_of {o : Option Value} (r : RelO none o) : o = none := by
  cases o with
  | none => rfl
  | some u => exact (show False from r).elim

section
variable {P : Program} {w : World} {H H' : Hp} {h h' : Heap} {a C dx : Addr} {fs fs' : List (Str × V)}
theorem ins_get (hok : HOk P w H h) (e : H a = some (.ins C dx fs)) : ∃ mA, ObjM h a dx C mA ∧ (∀ f, RelO (fs.lookup f) (mA f)) ∧ PySem.Within mA (fs.map (·.1)) ∧ fs.length ≤ 1000 ∧ H dx = some (.own a) := by
  obtain ⟨d, z, ne, ob, mA, n, r, q⟩ := (show ObjOk P w H h a (.ins C dx fs) from hok a _ e)
  exact ⟨mA, ⟨ob, n, ne⟩, r, q, z, d⟩
end

/-! ### what of the text a class must have -/
structure Cls (K : PySem.W.Frag) (C : Addr) : Prop where
  pg : PySem.W.plainGet K C Str.empty = true
  hd : PySem.W.hasDictIn K C = true
  po : PySem.W.plainOver K C = true
  sa : PySem.W.findIn K (.ref C) "__setattr__" = some (some (.builtin "object.__setattr__"))
theorem Cls.get {K : PySem.W.Frag} {C : Addr} (c : Cls K C) (f : Str) : PySem.W.plainGet K C f = true := c.pg
/-- no class of it has the name -/
def NoAttr (K : PySem.W.Frag) (C : Addr) (f : Str) : Prop := PySem.W.findIn K (.ref C) f = some none
/-- a method: a plain def of the class or of one above it -/
structure Meth (K : PySem.W.Frag) (C : Addr) (m : Str) (f : Addr) : Prop where
  at_ : PySem.W.findIn K (.ref C) m = some (some (.ref f))
  fn : PySem.W.isFn K (.ref f) = true
  kp : PySem.W.keepIn K (.ref f) = true

section
variable {X : Cx} {pins : List (Addr × Obj)} {σ : St} {H : Hp} {s : Shared} {a C dx : Addr} {fs : List (Str × V)} {f : Str} {v : V} {A : Around} {E : Value → Shared → Prop}



theorem getmeth_ok {m : Str} {g : Addr} {pl : Sem Bool} {Q : Value × List Value → Shared → Prop} (I : Inv X pins σ H s) (e : H a = some (.ins C dx fs)) (c : Cls X.K C) (k : Meth X.K C m g) (l : fs.lookup m = none)
    (h : Q (.ref g, [.ref a]) s) : wpAny (model X.prog X.w) A (getMethod (.ref a) m pl) Q E s := by
  obtain ⟨mA, O, r, _, _, _⟩ := ins_get I.hok e
  have hn : mA m = none := RelO.none_of (by rw [← l]; exact r m)
  exact get_meth I.kIn O (c.get m) k.at_ k.fn hn h


/-- a new instance, tracked, without attributes -/
theorem Inv.made (I : Inv X pins σ H s) : Inv X pins σ (upd (upd H s.heap.objs.size (.own (s.heap.objs.size + 1))) (s.heap.objs.size + 1) (.ins C s.heap.objs.size []))
    { s with heap := (s.heap.push PySem.W.emptyDict).push (PySem.W.instObj C s.heap.objs.size) } := by
  have e1 : (s.heap.push PySem.W.emptyDict).get? s.heap.objs.size = some PySem.W.emptyDict := Heap.get?_push_size s.heap rfl
  have e2 : ((s.heap.push PySem.W.emptyDict).push (PySem.W.instObj C s.heap.objs.size)).get? (s.heap.objs.size + 1) = some (PySem.W.instObj C s.heap.objs.size) := by
    have := Heap.get?_push_size (s.heap.push PySem.W.emptyDict) (o := PySem.W.instObj C s.heap.objs.size) rfl
    rwa [Heap.size_push] at this
  have e3 : (s.heap.push PySem.W.emptyDict).Ns s.heap.objs.size (fun _ => none) := ⟨PySem.W.emptyDict, #[], _, e1, rfl, (fun e he => absurd he (by simp)), fun _ => rfl⟩
  have I1 := I.laid (a := s.heap.objs.size) (o := .own (s.heap.objs.size + 1)) (h' := s.heap.push PySem.W.emptyDict) (t' := s.toks) (fun b u q => Heap.get?_push_of_some _ q) (Nat.le_refl _) ⟨_, e1⟩
  refine I1.laid (a := s.heap.objs.size + 1) (o := .ins C s.heap.objs.size []) (t' := s.toks) (fun b u q => Heap.get?_push_of_some _ q) (Nat.le_of_eq (Heap.size_push _ _)) ?_
  have ne : s.heap.objs.size ≠ s.heap.objs.size + 1 := Nat.ne_of_lt (Nat.lt_succ_self _)
  refine ⟨by rw [upd_ne ne, upd_same], Nat.zero_le _, ne, e2, fun _ => none, (Heap.Ns1.of_empty e3).at fun o q => Heap.get?_push_of_some _ q, fun _ => True.intro, fun y hy => absurd rfl hy⟩

end

/-! ### readings and rules -/
/-- e.f, an attribute of the instance -/
inductive TFldI (K : PySem.W.Frag) (f : Str) (x : V) (H1 : Hp) (Q : VK) : Prop where
  | mk (a : _) (C : _) (dx : _) (fs : _) (v : _) (c1 : x = .ref a) (c2 : H1 a = some (.ins C dx fs)) (c3 : Cls K C) (c4 : NoAttr K C f) (c5 : fs.lookup f = some v) (c6 : Q v H1)

section
variable {X : Cx} {o e value : Expr} {f : Str} {pos pos' tpos : Pos} {ta tv : TE}

/-- what is between an instance and its method: the tree of a method call -/
theorem methcall_of {pl : Sem Bool} {m : Str} {apos : Pos} {args : List Expr} {pins : List (Addr × Obj)} {s : Shared} {σ : St} {H : Hp} {Q : Value → Shared → Prop} {te : TE} (he : PE X e te) (I : Inv X pins σ H s)
    (h : te σ H fun x H1 => ∃ a C dx fs g, x = .ref a ∧ H1 a = some (.ins C dx fs) ∧ Cls X.K C ∧ Meth X.K C m g ∧ fs.lookup m = none ∧
      ∀ s1, Inv X pins σ H1 s1 → wpAny (model X.prog X.w) X.A (callWith pos (.ref g) [.ref a] (backTo pos (starEach args X.env)) (backToKw pos (keywordEach [] X.env))) Q X.xe s1)
    (ht : eval (.Call (.Attribute e m apos) args [] pos) X.env = (do
      let ov ← eval e X.env
      standAt apos.atName
      let (f, first) ← holding [ov] (getMethod ov m pl)
      callWith pos f first (backTo pos (starEach args X.env)) (backToKw pos (keywordEach [] X.env)))) :
    wpAny (model X.prog X.w) X.A (eval (.Call (.Attribute e m apos) args [] pos) X.env) Q X.xe s := by
  refine PySem.W.methodCall_KW (pl := pl) (thn (he pins s σ H _ I h) fun u s1 ⟨x, H1, I1, rx, a, C, dx, fs, g, ex, ea, c, k, l, q⟩ => ?_) ht
  subst ex
  obtain rfl : u = Value.ref a := rx
  exact getmeth_ok I1 ea c k l (q s1 I1)
end

/-! ### isinstance -/
section
variable {X : Cx} {pins : List (Addr × Obj)} {σ : St} {H : Hp} {s : Shared} {A : Around} {E : Value → Shared → Prop} {Q : Value → Shared → Prop} {c : Value} {b : Bool}
/-- the type of a value, as the fragment's deciders take it; for an instance its class -/
inductive TyOf (K : PySem.W.Frag) (H : Hp) : V → Value → Prop where
  | non : TyOf K H .non (.type "NoneType")
  | bl (x : Bool) : TyOf K H (.bl x) (.type "bool")
  | int (i : Int) : TyOf K H (.int i) (.type "int")
  | str (x : Str) : TyOf K H (.str x) (.type "str")
  | flt (x : UInt64) : TyOf K H (.flt x) (.type "float")
  | lst {a : Addr} {xs : List V} (e : H a = some (.lst xs)) : TyOf K H (.ref a) (.type "list")
  | frz {a : Addr} {o : Obj} {xs : List V} (e : H a = some (.frz o (.lst xs))) : TyOf K H (.ref a) (.type "list")
  | tup {a : Addr} {xs : List V} (e : H a = some (.tup xs)) : TyOf K H (.ref a) (.type "tuple")
  | dK {a : Addr} {kvs : List (Key × V)} (e : H a = some (.dK kvs)) : TyOf K H (.ref a) (.type "dict")
  | dT {a : Addr} {kvs : List (List Key × V)} (e : H a = some (.dT kvs)) : TyOf K H (.ref a) (.type "dict")
  | ins {a C dx : Addr} {fs : List (Str × V)} (e : H a = some (.ins C dx fs)) (cl : Cls K C) (ha : PySem.W.findIn K (.ref C) "__class__" = some (some (.builtin "object.__class__")))
      (hn : PySem.W.specialIn K (.builtin "object.__class__") "__get__" = some (some (.builtin "getset_descriptor.__get__"))) (htk : PySem.W.takesIn K (.builtin "object.__class__") = some true)
      (hm : PySem.W.mroIn K C (.type "object") = some true) : TyOf K H (.ref a) (.ref C)
/-- isinstance(x, c) for one class c, a built-in or an own one: kitOne's answer -/
theorem isinst_ok {x : V} {u t : Value} (I : Inv X pins σ H s) (rx : RelV x u) (ty : TyOf X.K H x t) (e : PySem.W.kitOne X.K t c = some b) (h : ∀ tk, Q (.bool b) { s with toks := tk }) :
    wpAny (model X.prog X.w) A (call (.builtin "isinstance") [u, c]) Q E s := by
  cases ty with
  | non => cases (show u = Value.none from rx); exact PySem.W.kia_one PySem.W.kitx_none I.kIn True.intro e (fun z => nomatch z) h
  | bl y => cases (show u = Value.bool y from rx); exact PySem.W.kia_one PySem.W.kitx_bool I.kIn True.intro e (fun z => nomatch z) h
  | int i => obtain ⟨t, q⟩ := (show ∃ t, u = Value.int i t from rx); cases q; exact PySem.W.kia_one PySem.W.kitx_int I.kIn True.intro e (fun z => nomatch z) h
  | str y => obtain ⟨t, q⟩ := (show ∃ t, u = Value.str y t from rx); cases q; exact PySem.W.kia_one PySem.W.kitx_str I.kIn True.intro e (fun z => nomatch z) h
  | flt y => obtain ⟨t, q⟩ := (show ∃ t, u = Value.float y t from rx); cases q; exact PySem.W.kia_one PySem.W.kitx_float I.kIn True.intro e (fun z => nomatch z) h
  | @lst a xs ea =>
    cases (show u = Value.ref a from rx)
    obtain ⟨_, _, n, _, h1⟩ := (show ObjOk X.prog X.w H s.heap a (.lst xs) from I.hok a _ ea)
    exact PySem.W.kia_one PySem.W.kitx_list I.kIn ⟨_, h1, rfl⟩ e (fun z => nomatch z) h
  | @frz a ob xs ea =>
    cases (show u = Value.ref a from rx)
    obtain ⟨_, _, _, n, _, h1⟩ := (show ObjOk X.prog X.w H s.heap a (.frz ob (.lst xs)) from I.hok a _ ea)
    exact PySem.W.kia_one PySem.W.kitx_list I.kIn ⟨_, h1, rfl⟩ e (fun z => nomatch z) h
  | @tup a xs ea =>
    cases (show u = Value.ref a from rx)
    obtain ⟨_, _, _, p⟩ := (show ObjOk X.prog X.w H s.heap a (.tup xs) from I.hok a _ ea)
    obtain ⟨o, h1, h2, _⟩ := p
    exact PySem.W.kia_one PySem.W.kitx_tuple I.kIn ⟨o, h1, h2⟩ e (fun z => nomatch z) h
  | @dK a kvs ea =>
    cases (show u = Value.ref a from rx)
    obtain ⟨_, _, vs, _, p⟩ := (show ObjOk X.prog X.w H s.heap a (.dK kvs) from I.hok a _ ea)
    obtain ⟨o, es, ep, h1, h2, _⟩ := p
    exact PySem.W.kia_one PySem.W.kitx_dict I.kIn ⟨o, h1, h2.1⟩ e (fun z => nomatch z) h
  | @dT a kvs ea =>
    cases (show u = Value.ref a from rx)
    obtain ⟨_, _, xs, _, o, es, ep, h1, h2, _⟩ := (show ObjOk X.prog X.w H s.heap a (.dT kvs) from I.hok a _ ea)
    exact PySem.W.kia_one PySem.W.kitx_dict I.kIn ⟨o, h1, h2.1⟩ e (fun z => nomatch z) h
  | @ins a C dx fs ea cl ha hn htk hm =>
    cases (show u = Value.ref a from rx)
    obtain ⟨mA, O, _⟩ := ins_get I.hok ea
    obtain ⟨od, J, _⟩ := O.look
    exact PySem.W.kia_one (PySem.W.kitx_own (cl.get _) cl.hd ha hn htk hm) I.kIn J e (fun z => nomatch z) h
end
end L2

namespace L2
open PySem PySem.Spec PyProof.Rows

/-! ### room -/
structure Room (k : Nat) (A : Around) : Prop where
  hd : A.handled = none
  dp : A.depth + 3 * k + 5 < recursionLimit
  un : A.units + 16 * k + 200 < cLine
theorem Room.mono {j k : Nat} {A : Around} (r : Room k A) (h : j ≤ k) : Room j A := ⟨r.hd, by have := r.dp; omega, by have := r.un; omega⟩
theorem Room.deeper {k : Nat} {A : Around} (r : Room (k + 1) A) (env : Env) : Room k (A.deeper env) :=
  ⟨r.hd, by have := r.dp; show A.depth + 1 + 3 * k + 5 < _; omega, by have := r.un; show A.units + 3 + 16 * k + 200 < _; omega⟩
theorem Room.in1 {k : Nat} {A : Around} (r : Room (k + 1) A) : Room k A.in1 :=
  ⟨r.hd, by have := r.dp; show A.depth + 3 * k + 5 < _; omega, by have := r.un; show A.units + 1 + 16 * k + 200 < _; omega⟩
theorem make_depth {A : Around} {C : Addr} {us : List Value} {kw : List (Str × Value)} : (A.under (.builtin "type.__call__" ⟨.ref C :: us, kw⟩)).depth = A.depth + 1 := by
  first | rfl | simp [Around.under, Code.weight, Code.isCreation, Code.isGuard, Code.isCaller, Code.frames, Code.isFrame, guardIds]
theorem make_units {A : Around} {C : Addr} {us : List Value} {kw : List (Str × Value)} : (A.under (.builtin "type.__call__" ⟨.ref C :: us, kw⟩)).units = A.units + 1 := by
  first | rfl | simp [Around.under, Code.cUnits, Code.frames, Code.isFrame]
theorem Room.make {k : Nat} {A : Around} (r : Room (k + 1) A) (C : Addr) (us : List Value) (kw : List (Str × Value)) : Room k (A.under (.builtin "type.__call__" ⟨.ref C :: us, kw⟩)) :=
  ⟨r.hd, by have := r.dp; rw [make_depth]; omega, by have := r.un; rw [make_units]; omega⟩
theorem Room.depth {k : Nat} {A : Around} (r : Room k A) : A.depth < recursionLimit := by have := r.dp; omega
theorem Room.units {k : Nat} {A : Around} (r : Room k A) : A.units + 64 < cLine := by have := r.un; omega
theorem Room.units0 {k : Nat} {A : Around} (r : Room k A) : A.units < cLine := by have := r.un; omega

/-! ### argument lists and displays -/
def tNil : TA := fun _ H Q => Q [] H
def tCons (ta : TE) (tr : TA) : TA := fun σ H Q => ta σ H fun x H1 => tr σ H1 fun xs H2 => Q (x :: xs) H2
section
variable {X : Cx} {e : Expr} {es : List Expr} {te : TE} {t : TA} {pos : Pos}
theorem pa_nil : PA X [] tNil := fun _ _ _ _ H Q I h => Calls.spliced_nil ⟨[], H, I, .nil, h⟩
theorem pa_cons (ha : PE X e te) (hr : PA X es t) (hs : starEach (e :: es) X.env = (false, eval e X.env) :: starEach es X.env := by rfl) : PA X (e :: es) (tCons te t) := by
  intro pos pins s σ H Q I h
  rw [hs]
  show wpAny _ _ (spliced ((false, eval e X.env) :: backTo pos (starEach es X.env))) _ _ s
  refine Calls.spliced_cons (thn (ha pins s σ H _ I h) fun u s1 ⟨x, H1, I1, r1, q1⟩ => ?_)
  exact thn (hr pos pins s1 σ H1 _ I1 q1) fun us s2 ⟨xs, H2, I2, r2, q2⟩ => ⟨x :: xs, H2, I2, .cons r1 r2, q2⟩

end

/-! ### what a def promises -/
/-- a def's promise: the bound arguments in the parameters' order, the heap, the wanted end, the wanted exception -/
abbrev Sp := List V → Hp → VK → XK → Prop
/-- how an exception lies behind a call (file 08 gives it): the callers' frames, abstract heap and state ahead of the call, the wish, the exception, the state -/
abbrev CXT := List Env → Hp → Shared → XK → Value → Shared → Prop

/-- the state at a call -/
structure Env0 (P : Program) (w : World) (K : PySem.W.Frag) (mg : Str → Option Value) (base : Heap) (A : Around) (outer : List Env) (s : Shared) (H : Hp) : Prop where
  frames : A.frames = some outer
  mod : Mod K mg base
  bs : ∀ b o, base.get? b = some o → s.heap.get? b = some o ∧ H b = none
  bsz : base.objs.size ≤ s.heap.objs.size
  funs : s.heap.FunFrames base outer
  frf : ∀ b ∈ frs outer, H b = none
  hok : HOk P w H s.heap
  bare : AllBare s.gens
/-- a call's end -/
def CE (outer : List Env) (P : Program) (w : World) (H : Hp) (s : Shared) (Q : VK) (u : Value) (s' : Shared) : Prop :=
  ∃ v H', s'.os = s.os ∧ AllBare s'.gens ∧ Un (frs outer) [] H H' s.heap s'.heap ∧ HOk P w H' s'.heap ∧ RelV v u ∧ Q v H'
def CR (CX : CXT) (outer : List Env) (P : Program) (w : World) (H : Hp) (s : Shared) (Q : VK) (E : XK) (r : Result) (s' : Shared) : Prop :=
  match r with
  | .ok (.ret u) => CE outer P w H s Q u s'
  | .ok _ => False
  | .error e => CX outer H s E e s'
structure FnOk (P : Program) (w : World) (K : PySem.W.Frag) (mg : Str → Option Value) (base : Heap) (CX : CXT) (k : Nat) (f : Addr) (fd : FuncData) (ps : List Str) (sp : Sp) : Prop where
  len : ∀ vs H Q E, sp vs H Q E → vs.length = ps.length
  run : ∀ (A : Around) (outer : List Env) (s : Shared) (H : Hp) (args : Args) (us : List Value) (vs : List V) (Q : VK) (E : XK), Room k A → Env0 P w K mg base A outer s H → BindsTo s fd args (ps.zip us) → Vals vs us → sp vs H Q E →
    codeAny (model P w) A (.call (.ref f) args) (CR CX outer P w H s Q E) s
theorem FnOk.mono {P : Program} {w : World} {K : PySem.W.Frag} {mg : Str → Option Value} {base : Heap} {CX : CXT} {j k : Nat} {f : Addr} {fd : FuncData} {ps : List Str} {sp : Sp} (F : FnOk P w K mg base CX j f fd ps sp) (h : j ≤ k) :
    FnOk P w K mg base CX k f fd ps sp := ⟨F.len, fun A outer s H args us vs Q E hr => F.run A outer s H args us vs Q E (hr.mono h)⟩
/-- a weaker promise -/
theorem FnOk.imp {P : Program} {w : World} {K : PySem.W.Frag} {mg : Str → Option Value} {base : Heap} {CX : CXT} {k : Nat} {f : Addr} {fd : FuncData} {ps : List Str} {sp sp' : Sp} (F : FnOk P w K mg base CX k f fd ps sp)
    (h : ∀ vs H Q E, sp' vs H Q E → sp vs H Q E) : FnOk P w K mg base CX k f fd ps sp' :=
  ⟨fun vs H Q E q => F.len vs H Q E (h _ _ _ _ q), fun A outer s H args us vs Q E hr he hb hv hs => F.run A outer s H args us vs Q E hr he hb hv (h _ _ _ _ hs)⟩

theorem Env0.make {P : Program} {w : World} {K : PySem.W.Frag} {mg : Str → Option Value} {base : Heap} {A : Around} {outer : List Env} {s : Shared} {H : Hp} (e : Env0 P w K mg base A outer s H) (C : Addr) (us : List Value) (kw : List (Str × Value)) :
    Env0 P w K mg base (A.under (.builtin "type.__call__" ⟨.ref C :: us, kw⟩)) outer s H := ⟨by first | exact e.frames | (simpa [Around.under, Code.envs, Code.isFrame, pushEnvs] using e.frames), e.mod, e.bs, e.bsz, e.funs, e.frf, e.hok, e.bare⟩
theorem Env0.in1 {P : Program} {w : World} {K : PySem.W.Frag} {mg : Str → Option Value} {base : Heap} {A : Around} {outer : List Env} {s : Shared} {H : Hp} (e : Env0 P w K mg base A outer s H) :
    Env0 P w K mg base A.in1 outer s H := ⟨e.frames, e.mod, e.bs, e.bsz, e.funs, e.frf, e.hok, e.bare⟩

section
variable {X : Cx} {pins : List (Addr × Obj)} {σ : St} {H : Hp} {s s' : Shared}
/-- from a body: what a callee wants -/
theorem Inv.env0 (I : Inv X pins σ H s) : Env0 X.prog X.w X.K X.mg X.base X.A X.stack s H :=
  ⟨I.ok.frames, I.ok.mod, I.bs, Nat.le_trans I.ok.bsz I.sz, I.stack, I.stkFree, I.hok, I.bare⟩
/-- behind a call -/
theorem Inv.after {Q : VK} {u : Value} (I : Inv X pins σ H s) (h : CE X.stack X.prog X.w H s Q u s') : EP X pins σ Q u s' := by
  obtain ⟨v, H', os, bare, un, hok, r, q⟩ := h
  obtain ⟨hh, g, d, t, os'⟩ := s'
  obtain rfl : os' = s.os := os
  exact ⟨v, H', I.call (h' := hh) (g' := g) (d' := d) (t' := t) (ch := []) un hok bare (fun b z => absurd z (by simp)), r, q⟩
end

/-! ### calls -/
/-- f(..): the written arguments, then the defaults dvs; E: what is wanted of an exception -/
def tCall (sp : Sp) (dvs : List V) (E : XK) (t : TA) : TE := fun σ H Q => t σ H fun vs H1 => sp (vs ++ dvs) H1 Q E
/-- o.m(..) of an instance of the class at C -/
inductive TMethI (C : Addr) (m : Str) (sp : Sp) (dvs : List V) (E : XK) (t : TA) (σ : L2.St) (x : V) (H1 : Hp) (Q : VK) : Prop where
  | mk (a : _) (dx : _) (fs : _) (c1 : x = .ref a) (c2 : H1 a = some (.ins C dx fs)) (c3 : fs.lookup m = none) (c4 : t σ H1 fun vs H2 => sp (x :: (vs ++ dvs)) H2 Q E)
/-- C(..): a new instance and its dict, then __init__ -/
def tMake (C : Addr) (sp : Sp) (dvs : List V) (E : XK) (t : TA) : TE := fun σ H Q => t σ H fun vs H1 => ∀ x dx, H1 x = none → H1 dx = none → dx ≠ x →
  sp (.ref x :: (vs ++ dvs)) (upd (upd H1 dx (.own x)) x (.ins C dx [])) (fun v H2 => v = .non ∧ Q (.ref x) H2) E

/-- how the parameters are bound: us the positional arguments, kw the keywords' values by name, ds the defaults that fill up -/
def Binds (K : PySem.W.Frag) (fd : FuncData) (ps : List Str) (ds : List Value) : Prop :=
  ∀ (s : Shared) (us : List Value), K.In s.heap → (us ++ ds).length = ps.length → BindsTo s fd ⟨us, []⟩ (ps.zip (us ++ ds))
/-- every parameter is given -/
theorem Binds.all {K : PySem.W.Frag} {fd : FuncData} {ps : List Str} (h : ∀ us : List Value, us.length = ps.length → bindArgs fd ⟨us, []⟩ = pure (ps.zip us)) : Binds K fd ps [] := fun s us _ hl => by
  rw [List.append_nil] at hl ⊢
  exact .of_eq (h us hl)

/-- an exception of a callee reaches what this body wants of exceptions -/
def Passes (CX : CXT) (X : Cx) (E : XK) : Prop := ∀ (pins : List (Addr × Obj)) (σ : St) (H : Hp) (s : Shared) (e : Value) (s' : Shared), Inv X pins σ H s → CX X.stack H s E e s' → X.xe e s'

section
variable {X : Cx} {CX : CXT} {k : Nat} {f C : Addr} {fd : FuncData} {ps : List Str} {sp : Sp} {dvs : List V} {ds : List Value} {E : XK} {x m : Str} {p pos apos : Pos} {e o : Expr} {es : List Expr} {ta : TE} {t : TA}

/-- the callee runs -/
theorem run_fn {pins : List (Addr × Obj)} {σ : St} {H : Hp} {s : Shared} {Q : VK} {us : List Value} {vs : List V} (F : FnOk X.prog X.w X.K X.mg X.base CX k f fd ps sp) (hr : Room k X.A) (hb : Binds X.K fd ps ds) (hd : Vals dvs ds) (hx : Passes CX X E)
    (I : Inv X pins σ H s) (r : Vals vs us) (h : sp (vs ++ dvs) H Q E) : wpAny (model X.prog X.w) X.A (call (.ref f) us) (EP X pins σ Q) X.xe s := by
  have r2 : Vals (vs ++ dvs) (us ++ ds) := r.append hd
  have hl : (us ++ ds).length = ps.length := by rw [← r2.length]; exact F.len _ _ _ _ h
  refine wpAny_call (codeAny_mono (F.run X.A X.stack s H ⟨us, []⟩ (us ++ ds) (vs ++ dvs) Q E hr I.env0 (hb s us I.kIn hl) r2 h) fun r s' hq => ?_)
  cases r with
  | error e => exact hx pins σ H s e s' I hq
  | ok fl =>
    cases fl with
    | ret u => exact I.after hq
    | next => exact False.elim hq
    | brk => exact False.elim hq
    | cont => exact False.elim hq

theorem pe_call (F : FnOk X.prog X.w X.K X.mg X.base CX k f fd ps sp) (hr : Room k X.A) (hg : Gl X x) (hm : X.mg x = some (.ref f)) (hk : PySem.W.keepIn X.K (.ref f) = true) (hb : Binds X.K fd ps ds) (hd : Vals dvs ds) (hx : Passes CX X E)
    (ha : PA X (e :: es) t) (hdb : (x == ("__debug__" : Str)) = false := by decide) (he : starEach (e :: es) X.env = (false, eval e X.env) :: starEach es X.env := by rfl) (hpl : (backTo pos (starEach es X.env)).any (·.1) = false := by rfl) :
    PE X (.Call (.Name x p) (e :: es) [] pos) (tCall sp dvs E t) := by
  intro pins s σ H Q I h
  refine wpAny_Call_Name_kw (ld_glob I hg hm ?_ hdb)
  refine PySem.W.callWith_K (h₀ := X.base) I.ok.mod.kin hk (thn (ha pos pins s σ H _ I h) fun us s1 ⟨vs, H1, I1, r, q⟩ => ⟨I1.kIn, ?_⟩) he hpl
  exact run_fn F hr hb hd hx I1 r q



end

/-! ### keywords -/
section
variable {X : Cx} {CX : CXT} {k : Nat} {f C : Addr} {fd : FuncData} {ps ks : List Str} {sp : Sp} {E : XK} {x m : Str} {p pos apos kpos : Pos} {e o : Expr} {es : List Expr} {kws : List Keyword} {te ta : TE} {t tk : TA} {nm : Option Str}

variable {g : List Value → List Value → List Value} {gV : List V → List V → List V}
end

/-! ### a def's body keeps its promise -/
/-- names: the parameters first -/
structure FnScope (N P : List Str) (sc : Scope) : Prop where
  kind : sc.kind = .function
  co : sc.isCoroutine = false
  gen : sc.isGenerator = false
  nd : N.Nodup
  pre : N.take P.length = P
  par : ∀ x ∈ P, sc.names.lookup x = some .local ∨ sc.names.lookup x = some .cell
  nofree : ∀ y ∈ sc.names, y.2 ≠ .free

theorem bindL_out {kindOf : Str → Option NameKind} {x : Str} : ∀ {binds : List (Str × Value)} {m : Str → Option Value}, (∀ v, (x, v) ∉ binds) → bindL kindOf binds m x = m x
  | [], _, _ => rfl
  | (n, v) :: r, m, h => by
    unfold bindL
    rw [bindL_out fun w hw => h w (List.mem_cons_of_mem _ hw)]
    split
    · have : x ≠ n := by rintro rfl; exact h v List.mem_cons_self
      simp [this]
    · rfl
theorem bindC_out {kindOf : Str → Option NameKind} {x : Str} : ∀ {binds : List (Str × Value)} {m : Str → Option Value}, (∀ v, (x, v) ∉ binds) → bindC kindOf binds m x = m x
  | [], _, _ => rfl
  | (n, v) :: r, m, h => by
    unfold bindC
    rw [bindC_out fun w hw => h w (List.mem_cons_of_mem _ hw)]
    split
    · rfl
    · have : x ≠ n := by rintro rfl; exact h v List.mem_cons_self
      simp [this]
theorem bindL_get {kindOf : Str → Option NameKind} {x : Str} {v : Value} : ∀ {P : List Str} {vs : List Value} {i : Nat} {m : Str → Option Value}, P.Nodup → P[i]? = some x → vs[i]? = some v → kindOf x = some .local →
    bindL kindOf (P.zip vs) m x = some v
  | [], _, _, _, _, h, _, _ => by simp at h
  | _ :: _, [], _, _, _, _, h, _ => by simp at h
  | p :: P, w :: vs, 0, m, nd, h1, h2, hk => by
    simp at h1 h2; subst h1; subst h2
    show bindL kindOf ((p, w) :: P.zip vs) m p = _
    unfold bindL
    rw [bindL_out fun v hv => (List.nodup_cons.mp nd).1 (List.of_mem_zip hv).1, if_pos hk]
    simp
  | p :: P, w :: vs, i + 1, m, nd, h1, h2, hk => by
    show bindL kindOf ((p, w) :: P.zip vs) m x = _
    unfold bindL
    exact bindL_get (i := i) (List.nodup_cons.mp nd).2 (by simpa using h1) (by simpa using h2) hk
theorem bindC_get {kindOf : Str → Option NameKind} {x : Str} {v : Value} : ∀ {P : List Str} {vs : List Value} {i : Nat} {m : Str → Option Value}, P.Nodup → P[i]? = some x → vs[i]? = some v → kindOf x ≠ some .local →
    bindC kindOf (P.zip vs) m x = some v
  | [], _, _, _, _, h, _, _ => by simp at h
  | _ :: _, [], _, _, _, _, h, _ => by simp at h
  | p :: P, w :: vs, 0, m, nd, h1, h2, hk => by
    simp at h1 h2; subst h1; subst h2
    show bindC kindOf ((p, w) :: P.zip vs) m p = _
    unfold bindC
    rw [bindC_out fun v hv => (List.nodup_cons.mp nd).1 (List.of_mem_zip hv).1, if_neg hk]
    simp
  | p :: P, w :: vs, i + 1, m, nd, h1, h2, hk => by
    show bindC kindOf ((p, w) :: P.zip vs) m x = _
    unfold bindC
    exact bindC_get (i := i) (List.nodup_cons.mp nd).2 (by simpa using h1) (by simpa using h2) hk

/-- the names' values at the entry -/
def start (N : List Str) (vs : List V) : St := vs.map some ++ List.replicate (N.length - vs.length) none

/-- the context of a def's body, at its entry; an exception leaves the frame, then lies as CX says -/
def cxOf (CX : CXT) (P : Program) (w : World) (K : PySem.W.Frag) (mg : Str → Option Value) (base : Heap) (N : List Str) (qual : Str) (scope : Scope) (f : Addr) (cd : Value) (A : Around) (outer : List Env) (s : Shared) (H : Hp) (E : XK) : Cx where
  prog := P
  w := w
  K := K
  mg := mg
  base := base
  A := A.deeper (envOfC qual scope s.heap.objs.size f cd)
  N := N
  s₀ := s
  H₀ := H
  env := envOfC qual scope s.heap.objs.size f cd
  outer := outer
  stack := envOfC qual scope s.heap.objs.size f cd :: outer
  ex := []
  calm := true
  fn := fun _ => true
  pn := []
  xe := fun e s' => wpAny (model P w) (A.deeper (envOfC qual scope s.heap.objs.size f cd)) (leaving (envOfC qual scope s.heap.objs.size f cd) e) (fun _ s'' => CX outer H s E e s'') (fun e' s'' => CX outer H s E e' s'') s'

theorem cell_has {sc : Scope} {n : Nat} {x : Str} (h : sc.names.lookup x = some .cell) : ∃ c, (cellsFrom n sc.names []).lookup x = some c := by
  have q := PySem.W.cellsFrom_some sc.names n [] (.inl h)
  exact Option.isSome_iff_exists.mp q

theorem inv_start {CX : CXT} {P : Program} {w : World} {K : PySem.W.Frag} {mg : Str → Option Value} {base : Heap} {N ps : List Str} {qual : Str} {scope : Scope} {f : Addr} {cd : Value} {A : Around} {outer : List Env} {s s1 : Shared} {H : Hp} {E : XK} {us : List Value} {vs : List V}
    (S : FnScope N ps scope) (hd : A.handled = none) (e0 : Env0 P w K mg base A outer s H) (hl : vs.length = ps.length) (r : Vals vs us)
    (x : InCallC s s.heap.objs.size (bindL (envOfC qual scope s.heap.objs.size f cd).kindOf (ps.zip us) fun _ => none) (cellsFrom (s.heap.objs.size + 1) scope.names []) (bindC (envOfC qual scope s.heap.objs.size f cd).kindOf (ps.zip us) fun _ => none) s1) :
    Inv (cxOf CX P w K mg base N qual scope f cd A outer s H E) [] (start N vs) H s1 := by
  have hpl : ps.length ≤ N.length := by have := congrArg List.length S.pre; rw [List.length_take] at this; omega
  obtain ⟨h1, tk, rfl, hk⟩ := x.done
  have noA : ∀ b : Addr, b ∉ (cxOf CX P w K mg base N qual scope f cd A outer s H E).ex := fun b z => absurd (show b ∈ ([] : List Addr) from z) (by simp)
  refine ⟨⟨e0.mod, S.kind, rfl, rfl, Nat.le_refl _, fun y z c h1 h2 => ?_, fun y hy => ?_, fun y c _ h => ?_, fun _ => hd, Around.frames_deeper e0.frames, .inr ⟨rfl, rfl⟩, fun b z => absurd z (noA b), e0.bs, e0.bsz, fun b _ _ => noA b, fun b z => absurd z (noA b), e0.funs, e0.frf⟩,
    rfl, e0.bare, Un.kept hk, ⟨_, x.toInCall.ns, fun i y v h1 h2 h3 => ?_⟩, fun y c h => ⟨_, x.cell y c h⟩, e0.hok.fresh (Nat.le_refl _), fun y c h => ?_, fun p hp => absurd (show p ∈ ([] : List (Addr × Obj)) from hp) (by simp), e0.hok.kept hk, ?_⟩
  · exact name_of_addr x.apart (PySem.mem_of_lookup h1) (PySem.mem_of_lookup h2)
  · have hy : scope.names.lookup y = some .cell ∨ scope.names.lookup y = some .free := hy
    rcases hy with hy | hy
    · exact cell_has hy
    · exact absurd rfl (S.nofree _ (PySem.mem_of_lookup hy))
  · exact Nat.le_of_lt (x.above y c (PySem.mem_of_lookup h))
  · have hi : i < vs.length := by
      unfold start at h2
      by_cases hi : i < vs.length
      · exact hi
      · rw [List.getElem?_append_right (by simpa using hi)] at h2
        rw [List.getElem?_replicate] at h2
        split at h2 <;> cases h2
    have ha : vs[i]? = some v := by
      unfold start at h2
      rw [List.getElem?_append_left (by simpa using hi), List.getElem?_map] at h2
      cases e : vs[i]? with
      | none => rw [e] at h2; cases h2
      | some a => rw [e] at h2; cases h2; rfl
    obtain ⟨u, hu, rv⟩ := r.get ha
    have hp : ps[i]? = some y := by
      rw [← S.pre, List.getElem?_take_of_lt (by omega)]; exact h1
    have ndP : ps.Nodup := by rw [← S.pre]; exact S.nd.sublist (List.take_sublist _ _)
    refine ⟨u, rv, ?_⟩
    rcases S.par y (List.mem_of_getElem? hp) with k | k
    · exact .inl ⟨k, bindL_get ndP hp hu k⟩
    · obtain ⟨c, e⟩ := cell_has (n := s.heap.objs.size + 1) k
      refine .inr ⟨.inl k, c, e, ?_⟩
      have q := x.cell y c e
      rw [bindC_get ndP hp hu (by show scope.names.lookup y ≠ _; rw [k]; decide)] at q
      exact q
  · exact e0.hok.fresh (Nat.le_of_lt (x.above y c (PySem.mem_of_lookup h)))
  · unfold start
    show _ = N.length
    rw [List.length_append, List.length_map, List.length_replicate]
    omega

/-- THE RULE: a def (or a method) of the text, by its body. The body's reading t is chosen for each entry; it is run at the parameters' values -/
theorem fn_of {CX : CXT} {P : Program} {w : World} {K : PySem.W.Frag} {mg : Str → Option Value} {base : Heap} {k : Nat} {f : Addr} {name qual : Str} {params : Arguments} {body : List Stmt} {scope : Scope} {dV kV doc pm cdv ct oc : Value} {an od : Option Addr}
    {osl : Array (Option Value)} {N ps : List Str} {sp : Sp} (lk : K.lookup f = some ⟨oc, od, .func (PySem.W.fnOf name qual params body scope dV kV doc pm an cdv ct), osl⟩) (hcd : PySem.W.codeIn K cdv qual = true) (S : FnScope N ps scope)
    (len : ∀ vs H Q E, sp vs H Q E → vs.length = ps.length)
    (hbody : ∀ (A : Around) (outer : List Env) (s : Shared) (H : Hp) (vs : List V) (Q : VK) (E : XK), Room k (A.deeper (envOfC qual scope s.heap.objs.size f cdv)) → sp vs H Q E →
      ∃ t, PSs (cxOf CX P w K mg base N qual scope f cdv A outer s H E) body t ∧ t { nx := fun _ H' => Q .non H', rt := Q } (start N vs) H) :
    FnOk P w K mg base CX (k + 1) f (PySem.W.fnOf name qual params body scope dV kV doc pm an cdv ct) ps sp := by
  refine ⟨len, fun A outer s H args us vs Q E hr e0 hb r hsp => ?_⟩
  have hl := len _ _ _ _ hsp
  have KX : K.In s.heap := e0.mod.kin.keeps fun b o e => (e0.bs b o e).1
  have lim : s.heap.NoLimit := e0.mod.nolimit.keeps fun b o e => (e0.bs b o e).1
  have hkind : ∀ y ∈ ps.zip us, scope.names.lookup y.1 = some .local ∨ (scope.names.lookup y.1 = some .cell ∧ ((cellsFrom (s.heap.objs.size + 1) scope.names []).lookup y.1).isSome = true) := fun ⟨n, v⟩ hy => by
    rcases S.par n (List.of_mem_zip hy).1 with q | q
    · exact .inl q
    · exact .inr ⟨q, PySem.W.cellsFrom_some _ _ _ (.inl q)⟩
  refine codeAny_call_function hr.depth (KX _ _ lk) rfl S.co S.gen rfl (PySem.W.codeRec_of KX hcd) (hb _ _ _ _ ?_)
  refine wpAny_newFunctionEnv_cells S.kind hkind fun env he s1 x => ?_
  subst he
  refine ⟨lim.keeps x.toInCall.keep, codeAny_func ?_⟩
  obtain ⟨t, ht, hq⟩ := hbody A outer s H vs Q E (hr.deeper _) hsp
  have I : Inv (cxOf CX P w K mg base N qual scope f cdv A outer s H E) [] (start N vs) H s1 := inv_start S hr.hd e0 hl r x
  refine wpAny_mono (ht [] s1 (start N vs) H _ I hq) (fun fl s' hs => ?_) fun e s' hs => hs
  have fin : ∀ {σ' : St} {H' : Hp} {v : V} {u : Value}, Inv (cxOf CX P w K mg base N qual scope f cdv A outer s H E) [] σ' H' s' → RelV v u → Q v H' → CE outer P w H s Q u s' :=
    fun {σ' H' v u} J rv q => ⟨v, H', J.os, J.bare, J.base, J.hok, rv, q⟩
  cases fl with
  | ret u =>
    obtain ⟨v, σ', H', J, rv, q⟩ := hs
    exact fin J rv q
  | next =>
    obtain ⟨σ', H', J, q⟩ := hs
    exact fin (v := V.non) (u := Value.none) J rfl q
  | brk =>
    obtain ⟨_, _, _, q⟩ := hs
    exact False.elim q
  | cont =>
    obtain ⟨_, _, _, q⟩ := hs
    exact False.elim q
end L2

namespace L2
open PySem PySem.Spec PyProof.Rows
section
variable {X : Cx} {x : Str} {p pos : Pos} {e : Expr} {es : List Expr} {t : TA} {id T : String} {r : List V → Hp → VK → Prop}

def tCB (r : List V → Hp → VK → Prop) (t : TA) : TE := fun σ H Q => t σ H fun vs H1 => r vs H1 Q
/-- f(e, ..), f a built-in function -/
theorem pe_callB (hc : CallR X (.builtin id) r) (hg : Gl X x) (hm : X.mg x = none) (hv : bootBuiltins x = some (.builtin id)) (ha : PA X (e :: es) t) (hn : x ≠ "__name__" := by decide) (hdb : (x == ("__debug__" : Str)) = false := by decide)
    (he : starEach (e :: es) X.env = (false, eval e X.env) :: starEach es X.env := by rfl) (hpl : (backTo pos (starEach es X.env)).any (·.1) = false := by rfl) : PE X (.Call (.Name x p) (e :: es) [] pos) (tCB r t) := by
  intro pins s σ H Q I h
  refine wpAny_Call_Name_kw (ld_blt I hg hm hv ?_ hn hdb)
  exact PyProof.Rows.callWith_builtin1 (thn (ha pos pins s σ H _ I h) fun us s1 ⟨vs, H1, I1, r1, q1⟩ => hc pins s1 σ H1 vs us Q I1 r1 q1) he hpl
/-- T(e, ..), T a built-in type -/
theorem pe_callTy (hc : CallR X (.type T) r) (hg : Gl X x) (hm : X.mg x = none) (hv : bootBuiltins x = some (.type T)) (ha : PA X (e :: es) t) (hn : x ≠ "__name__" := by decide) (hdb : (x == ("__debug__" : Str)) = false := by decide)
    (he : starEach (e :: es) X.env = (false, eval e X.env) :: starEach es X.env := by rfl) (hpl : (backTo pos (starEach es X.env)).any (·.1) = false := by rfl) : PE X (.Call (.Name x p) (e :: es) [] pos) (tCB r t) := by
  intro pins s σ H Q I h
  refine wpAny_Call_Name_kw (ld_blt I hg hm hv ?_ hn hdb)
  exact PyProof.Rows.callWith_type1 (thn (ha pos pins s σ H _ I h) fun us s1 ⟨vs, H1, I1, r1, q1⟩ => hc pins s1 σ H1 vs us Q I1 r1 q1) he hpl
end
end L2

namespace HT
open PySem PyProof.Rows



section
open PySem.SeqAt
open PySem.AutoSeq1 (wpAny_loadPart')
open PySem.MeetsSeq PySem.MeetsSeq2 PySem.MeetsSeq3

end

section
variable {prog : Program} {w : World} {A : Around} {E : Value → Shared → Prop} {s : Shared}



/-! ### t[a:b], not the whole -/
/-- a slice's bound as a place among n (d where it is left out) -/
def sIx (n d : Nat) : Option Int → Nat
  | none => d
  | some v => if v < 0 then (v + (n : Int)).toNat else min v.toNat n
theorem sIx_le (n d : Nat) (hd : d ≤ n) (o : Option Int) : sIx n d o ≤ n := by
  cases o with
  | none => exact hd
  | some v =>
    show (if v < 0 then (v + (n : Int)).toNat else min v.toNat n) ≤ n
    by_cases hv : v < 0
    · rw [if_pos hv]; omega
    · rw [if_neg hv]; exact Nat.min_le_right _ _
theorem clip_eq (v : Int) (n d : Nat) : (if v < 0 then max (v + (n : Int)) 0 else min v (n : Int)) = ((sIx n d (some v) : Nat) : Int) := by
  show (if v < 0 then max (v + (n : Int)) 0 else min v (n : Int)) = (((if v < 0 then (v + (n : Int)).toNat else min v.toNat n) : Nat) : Int)
  by_cases hv : v < 0
  · simp only [if_pos hv]; omega
  · simp only [if_neg hv]; omega
theorem adjust_gen (lo hi : Option Int) (n : Nat) : Builtin.Slice.sliceAdjust lo hi 1 (n : Int) = (((sIx n 0 lo : Nat) : Int), ((sIx n n hi : Nat) : Int)) := by
  have h1 : ¬ ((1 : Int) < 0) := by omega
  unfold Builtin.Slice.sliceAdjust
  simp only [h1, if_false]
  refine Prod.ext ?_ ?_
  · cases lo with
    | none => rfl
    | some v => exact clip_eq v n 0
  · cases hi with
    | none => rfl
    | some v => exact clip_eq v n n
theorem places_gen (i j : Nat) : Builtin.Slice.slicePlaces (i : Int) (j : Int) 1 = j - i := by
  unfold Builtin.Slice.slicePlaces
  have h1 : (1 : Int) > 0 := by omega
  simp only [h1, if_true, Int.ediv_one]
  split <;> omega
theorem slicePart_ {v : Value} {o : Option Int} {Q : Option Int → Shared → Prop} (p : IsPart v o) (h : Q o s) : wpAny (model prog w) A (Builtin.Slice.slicePartIndex v) Q E s := by
  cases p with
  | none => exact slicePart_none h
  | int i t => exact slicePart_int h
theorem sliceApplied_gen {sl : Addr} {vl vu : Value} {lo hi : Option Int} {n : Nat} {Q : Int × Int × Nat → Shared → Prop} (hs : s.heap.IsSliceOf sl vl vu .none) (pl : IsPart vl lo) (pu : IsPart vu hi)
    (h : Q (((sIx n 0 lo : Nat) : Int), 1, sIx n n hi - sIx n 0 lo) s) : wpAny (model prog w) A (Builtin.Slice.sliceApplied (.ref sl) (pure (n : Int))) Q E s := by
  obtain ⟨os, hos, hcs, hds⟩ := id hs
  unfold Builtin.Slice.sliceApplied Builtin.Slice.sliceFields
  refine wpAny_bind (wpAny_bind (wpAny_field hos hds (x := vl) rfl (wpAny_bind (wpAny_field hos hds (x := vu) rfl (wpAny_bind (wpAny_field hos hds (x := .none) rfl (wpAny_pure ?_)))))))
  refine wpAny_bind (slicePart_none ?_)
  show wpAny _ _ (if ((1 : Int) == 0) = true then _ else _) _ _ s
  rw [if_neg (by decide)]
  refine wpAny_bind (slicePart_ pl (wpAny_bind (slicePart_ pu (wpAny_bind (wpAny_pure ?_)))))
  show wpAny _ _ (match Builtin.Slice.sliceAdjust lo hi 1 (n : Int) with | (lo, hi) => pure (lo, (1 : Int), Builtin.Slice.slicePlaces lo hi 1)) _ _ s
  rw [adjust_gen lo hi n]
  show wpAny _ _ (pure (((sIx n 0 lo : Nat) : Int), (1 : Int), Builtin.Slice.slicePlaces ((sIx n 0 lo : Nat) : Int) ((sIx n n hi : Nat) : Int) 1)) _ _ s
  rw [places_gen]
  exact wpAny_pure h
theorem pick_gen (xs : Array Value) (i k : Nat) : ((List.range k).filterMap fun (m : Nat) => xs[((i : Int) + (m : Int) * 1).toNat]?).toArray = ((xs.toList.drop i).take k).toArray := by
  have e : (fun (m : Nat) => xs[((i : Int) + (m : Int) * 1).toNat]?) = fun m => xs[i + m]? := by
    funext m
    have : ((i : Int) + (m : Int) * 1).toNat = i + m := by omega
    rw [this]
  rw [e]
  have := pick_run xs i k
  rw [List.filterMap_map] at this
  have e2 : ((fun x => xs[x]?) ∘ fun x => i + x) = fun m => xs[i + m]? := rfl
  rw [e2] at this
  rw [this]

theorem getItem_tuple_cut {t sl : Addr} {items : Array Value} {vl vu : Value} {lo hi : Option Int} {Q : Value → Shared → Prop} (ht : IsTup s.heap t items) (hs : s.heap.IsSliceOf sl vl vu .none) (pl : IsPart vl lo) (pu : IsPart vu hi)
    (hw : ¬ (sIx items.size 0 lo = 0 ∧ sIx items.size items.size hi = items.size))
    (h : Q (.ref s.heap.objs.size) { s with heap := s.heap.push { cls := .type "tuple", data := .seq ((items.toList.drop (sIx items.size 0 lo)).take (sIx items.size items.size hi - sIx items.size 0 lo)).toArray } })
    (hsz : items.size ≤ sizeLine) : wpAny (model prog w) A (getItem (.ref t) (.ref sl)) Q E s := by
  have htake : sizeOk (.seq ((items.toList.drop (sIx items.size 0 lo)).take (sIx items.size items.size hi - sIx items.size 0 lo)).toArray) := by
    show ((items.toList.drop (sIx items.size 0 lo)).take (sIx items.size items.size hi - sIx items.size 0 lo)).toArray.size ≤ sizeLine
    rw [List.size_toArray, List.length_take, List.length_drop, Array.length_toList]
    omega
  have hj : sIx items.size items.size hi ≤ items.size := sIx_le _ _ (Nat.le_refl _) hi
  obtain ⟨os, hos, hcs, hds⟩ := id hs
  have hTs : s.TypeIs (.ref sl) "slice" := ⟨os, hos, hcs⟩
  unfold getItem
  try with_reducible refine wpAny_holding ?_
  first | refine wpAny_bind (wpAny_pure ?_) | skip
  refine wpAny_bind (wpAny_sequenceKey ht.typeIs (by decide) ?_)
  refine wpAny_bind (wpAny_callSpecial?_slot (name := Str.ofString "__getitem__") ht.typeIs PyProof.Rows.slot_tuple_getitem
    (wpAny_call_entry PyProof.Rows.slot_tuple_getitem ht.typeIs entry_tuple_getitem ?_ (args_tuple_getitem _ _)))
  show wpAny _ _ (Builtin.Tuple.tupleItemsOf (.ref t) >>= _) _ _ s
  refine wpAny_bind (tupleItemsOf_ ht ?_)
  refine wpAny_bind (wpAny_typeOf hTs ?_)
  rw [if_pos (by decide)]
  refine wpAny_bind (sliceApplied_gen hs pl pu ?_)
  have hno : ¬ ((((sIx items.size 0 lo : Nat) : Int) == 0 && (1 : Int) == 1 && (sIx items.size items.size hi - sIx items.size 0 lo) == items.size) = true) := by
    intro q
    rw [Bool.and_eq_true, Bool.and_eq_true] at q
    have q1 : ((sIx items.size 0 lo : Nat) : Int) = 0 := eq_of_beq q.1.1
    have q2 : sIx items.size items.size hi - sIx items.size 0 lo = items.size := eq_of_beq q.2
    exact hw ⟨by omega, by omega⟩
  show wpAny _ _ (if (((sIx items.size 0 lo : Nat) : Int) == 0 && (1 : Int) == 1 && (sIx items.size items.size hi - sIx items.size 0 lo) == items.size) = true then _ else _) _ _ s
  rw [if_neg hno, pick_gen]
  first
    | exact wpAny_bind (m := Builtin.Tuple.tupleExact _) (wpAny_newObj_type (wpAny_pure ⟨_, rfl, wpAny_pure h⟩) htake)
    | exact wpAny_bind (m := Builtin.Tuple.tupleExact _) (wpAny_newObj_type (wpAny_bind (wpAny_pure (wpAny_pure ⟨_, rfl, wpAny_pure h⟩))) htake)
    | exact wpAny_bind (wpAny_bind (m := Builtin.Tuple.tupleExact _) (wpAny_newObj_type (wpAny_pure (wpAny_pure ⟨_, rfl, wpAny_pure h⟩)) htake))
    | exact wpAny_bind (wpAny_bind (m := Builtin.Tuple.tupleExact _) (wpAny_newObj_type (wpAny_pure ⟨_, rfl, wpAny_pure h⟩) htake))
end
end HT

namespace L2
open PySem PySem.Spec PyProof.Rows

/-! ### the parts of a slice -/
abbrev TO := St → Hp → (Option Int → Hp → Prop) → Prop
/-- a slice's part (left out, or an int) -/
def PO (X : Cx) (e : Option Expr) (t : TO) : Prop :=
  ∀ (pins : List (Addr × Obj)) (s : Shared) (σ : St) (H : Hp) (Q : Option Int → Hp → Prop), Inv X pins σ H s → t σ H Q →
    wpAny (model X.prog X.w) X.A (evalPart e X.env) (fun u s' => ∃ o H', Inv X pins σ H' s' ∧ IsPart u o ∧ Q o H') X.xe s
def tNoPart : TO := fun _ H Q => Q none H
inductive TPartI (x : V) (H1 : Hp) (Q : Option Int → Hp → Prop) : Prop where
  | mk (i : _) (c1 : x = .int i) (c2 : Q (some i) H1)
def tPart (t : TE) : TO := fun σ H Q => t σ H fun x H1 => TPartI x H1 Q


section
variable {X : Cx} {e : Expr} {te : TE} {lo hi : Option Expr} {tl th : TO} {pos p2 : Pos}

theorem po_none : PO X none tNoPart := by
  intro pins s σ H Q I h
  rw [evalPart_none]
  exact wpAny_pure ⟨none, H, I, .none, h⟩
theorem po_some (h : PE X e te) : PO X (some e) (tPart te) := by
  intro pins s σ H Q I hw
  rw [evalPart_some]
  refine thn (h pins s σ H _ I hw) fun u s1 ⟨x, H1, I1, r1, q1⟩ => ?_
  obtain ⟨i, rfl, q⟩ := q1
  obtain ⟨t, rfl⟩ := r1
  exact ⟨some i, H1, I1, .int i t, q⟩

/-- what a slice of a value is, by values: the slice object stands at sl -/
def SlR (X : Cx) (r : V → Option Int → Option Int → Hp → VK → Prop) : Prop :=
  ∀ (pins : List (Addr × Obj)) (s : Shared) (σ : St) (H : Hp) (x : V) (v vl vu : Value) (lo hi : Option Int) (sl : Addr) (Q : VK), Inv X pins σ H s → RelV x v → s.heap.IsSliceOf sl vl vu .none → IsPart vl lo → IsPart vu hi → r x lo hi H Q →
    ∃ T id, typeLookup (.type T) "__getitem__" = pure (some (.builtin id)) ∧ s.TypeIs v T ∧ wpAny (model X.prog X.w) X.A (getItem v (.ref sl)) (EP X pins σ Q) X.xe s
theorem SlR.or {r r' : V → Option Int → Option Int → Hp → VK → Prop} (h : SlR X r) (h' : SlR X r') : SlR X (fun x lo hi H Q => r x lo hi H Q ∨ r' x lo hi H Q) := by
  intro pins s σ H x v vl vu lo hi sl Q I rx hs pl pu q
  rcases q with q | q
  · exact h pins s σ H x v vl vu lo hi sl Q I rx hs pl pu q
  · exact h' pins s σ H x v vl vu lo hi sl Q I rx hs pl pu q
def tSl (r : V → Option Int → Option Int → Hp → VK → Prop) (te : TE) (tl th : TO) : TE := fun σ H Q => te σ H fun x H1 => tl σ H1 fun l H2 => th σ H2 fun u H3 => r x l u H3 Q
/-- a[lo:hi], any a -/
theorem pe_slice {r : V → Option Int → Option Int → Hp → VK → Prop} (hr : SlR X r) (he : PE X e te) (hl : PO X lo tl) (hu : PO X hi th) : PE X (.Subscript e (.Slice lo hi none p2) pos) (tSl r te tl th) := by
  intro pins s σ H Q I h
  refine Subscript_ (thn (he pins s σ H _ I h) fun v s1 ⟨x, H1, I1, r1, q1⟩ => ?_)
  refine wpAny_Slice (thn (hl pins s1 σ H1 _ I1 q1) fun vl s2 ⟨l, H2, I2, pl, q2⟩ => thn (hu pins s2 σ H2 _ I2 q2) fun vu s3 ⟨u, H3, I3, pu, q3⟩ => ?_)
  rw [evalPart_none]
  refine wpAny_pure ?_
  have I4 : Inv X pins σ H3 { s3 with heap := s3.heap.push { cls := .type "slice", data := .fields #[vl, vu, .none] } } := I3.kept (t' := s3.toks) fun b ob q => Heap.get?_push_of_some _ q
  obtain ⟨T, id, hT, ht, hg⟩ := hr pins { s3 with heap := s3.heap.push { cls := .type "slice", data := .fields #[vl, vu, .none] } } σ H3 x v vl vu l u s3.heap.objs.size Q I4 r1 (Heap.IsSliceOf.new ..) pl pu q3
  show wpAny (model X.prog X.w) X.A (subscriptTail e (.Slice lo hi none p2) v (.ref s3.heap.objs.size)) (EP X pins σ Q) X.xe { s3 with heap := s3.heap.push { cls := .type "slice", data := .fields #[vl, vu, .none] } }
  exact tail_any (ops := [.ref s3.heap.objs.size, v]) ht hT hg (by with_unfolding_all rfl)

/-- the items of xs[lo:hi] -/
def cutV (xs : List V) (lo hi : Option Int) : List V := (xs.drop (HT.sIx xs.length 0 lo)).take (HT.sIx xs.length xs.length hi - HT.sIx xs.length 0 lo)
theorem cutV_length (xs : List V) (lo hi : Option Int) : (cutV xs lo hi).length ≤ xs.length := by
  unfold cutV
  rw [List.length_take, List.length_drop]
  omega
/-- t[lo:hi], not the whole of it (the whole would be t itself) -/
inductive RSlTI (K : PySem.W.Frag) (x : V) (lo : Option Int) (hi : Option Int) (H : Hp) (Q : VK) : Prop where
  | mk (a : _) (xs : _) (c1 : x = .ref a) (c2 : SqT K H a xs) (c3 : ¬ (HT.sIx xs.length 0 lo = 0 ∧ HT.sIx xs.length xs.length hi = xs.length)) (c4 : ∀ p, H p = none → Q (.ref p) (upd H p (.tup (cutV xs lo hi))))
def rSlT (K : PySem.W.Frag) : V → Option Int → Option Int → Hp → VK → Prop := fun x lo hi H Q => RSlTI K x lo hi H Q
theorem sl_tup : SlR X (rSlT X.K) := by
  intro pins s σ H x v vl vu lo hi sl Q I rx hs pl pu h
  obtain ⟨a, xs, rfl, hx, hw, q⟩ := h
  cases rx
  obtain ⟨its, r, ht, hz⟩ := I.tuple hx
  have hlen : its.toArray.size = xs.length := by rw [List.size_toArray]; exact r.length.symm
  refine ⟨"tuple", _, PyProof.Rows.slot_tuple_getitem.lookup, ht.typeIs, ?_⟩
  refine HT.getItem_tuple_cut ht hs pl pu (by rw [hlen]; exact hw) ?_ (by rw [hlen]; exact hz)
  rw [hlen]
  refine ⟨.ref s.heap.objs.size, _, I.laid (t' := s.toks) (o := .tup (cutV xs lo hi)) (fun b ob q => Heap.get?_push_of_some _ q) (Nat.le_refl _) ?_, rfl, q _ (I.hok.fresh (Nat.le_refl _))⟩
  exact ⟨Nat.le_trans (cutV_length xs lo hi) hz, _, (r.drop (HT.sIx xs.length 0 lo)).take (HT.sIx xs.length xs.length hi - HT.sIx xs.length 0 lo), IsTup.new _ _⟩

/-! ### t < u, t + u -/
end
end L2

namespace L2
open PySem PySem.Spec PyProof.Rows

/-! ### places -/
/-- the place that an index of any sign means -/
def ixN (n : Nat) (i : Int) : Option Nat := if 0 ≤ i then (if i < n then some i.toNat else none) else if -(n : Int) ≤ i then some (i + n).toNat else none
def atI {α : Type} (xs : List α) (i : Int) : Option α := (ixN xs.length i).bind fun j => xs[j]?
theorem ixN_seq {n : Nat} {i : Int} {j : Nat} (h : ixN n i = some j) : seqIndex? i n = some j ∧ j < n ∧ -(n : Int) ≤ i ∧ i < n := by
  unfold ixN at h
  by_cases h0 : 0 ≤ i
  · rw [if_pos h0] at h
    by_cases h1 : i < n
    · rw [if_pos h1] at h
      have e : i.toNat = j := Option.some.inj h
      exact ⟨by rw [seqIndex_of h0 h1, e], by omega, by omega, h1⟩
    · rw [if_neg h1] at h; cases h
  · rw [if_neg h0] at h
    by_cases h1 : -(n : Int) ≤ i
    · rw [if_pos h1] at h
      have e : (i + n).toNat = j := Option.some.inj h
      exact ⟨by rw [seqIndex_neg (by omega) h1, e], by omega, h1, by omega⟩
    · rw [if_neg h1] at h; cases h
theorem atI_get {α : Type} {xs : List α} {i : Int} {v : α} (h : atI xs i = some v) : ∃ j, seqIndex? i xs.length = some j ∧ xs[j]? = some v ∧ j < xs.length ∧ -(xs.length : Int) ≤ i ∧ i < xs.length := by
  unfold atI at h
  cases e : ixN xs.length i with
  | none => rw [e] at h; cases h
  | some j =>
    rw [e] at h
    obtain ⟨h1, h2, h3, h4⟩ := ixN_seq e
    exact ⟨j, h1, h, h2, h3, h4⟩
theorem atI_nat {α : Type} {xs : List α} {j : Nat} {v : α} (h : xs[j]? = some v) : atI xs (j : Int) = some v := by
  have hj : j < xs.length := (List.getElem?_eq_some_iff.mp h).1
  have e : ixN xs.length (j : Int) = some j := by
    unfold ixN
    rw [if_pos (by omega), if_pos (by omega)]; simp
  unfold atI; rw [e]; exact h

/-! ### what may be subscripted -/
/-- what stands as an index of a plain subscript -/
def PlainIx (b : Expr) : Prop := ∀ o i, subscripted b false o i = operate [o, i] (getItem o i)
/-- a subscript by values -/
def IxR (X : Cx) (r : R2) : Prop :=
  ∀ (value slice : Expr) (pins : List (Addr × Obj)) (s : Shared) (σ : St) (H : Hp) (x y : V) (v u : Value) (Q : VK), Inv X pins σ H s → RelV x v → RelV y u → r x y H Q →
    subscripted slice false v u = operate [v, u] (getItem v u) → wpAny (model X.prog X.w) X.A (subscriptTail value slice v u) (EP X pins σ Q) X.xe s
/-- a call of a builtin's method by values: the receiver, the arguments -/
def MtR (X : Cx) (id : String) (r : V → List V → Hp → VK → Prop) : Prop :=
  ∀ (pins : List (Addr × Obj)) (s : Shared) (σ : St) (H : Hp) (x : V) (xs : List V) (v : Value) (us : List Value) (Q : VK), Inv X pins σ H s → RelV x v → Vals xs us → r x xs H Q →
    wpAny (model X.prog X.w) X.A (call (.builtin id) (v :: us)) (EP X pins σ Q) X.xe s
section
variable {X : Cx} {a b : Expr} {ta tb : TE} {pos : Pos}
theorem IxR.or {r r' : R2} (h : IxR X r) (h' : IxR X r') : IxR X (fun x y H Q => r x y H Q ∨ r' x y H Q) := by
  intro value slice pins s σ H x y v u Q I rx ry q hs
  rcases q with q | q
  · exact h value slice pins s σ H x y v u Q I rx ry q hs
  · exact h' value slice pins s σ H x y v u Q I rx ry q hs
theorem MtR.or {id : String} {r r' : V → List V → Hp → VK → Prop} (h : MtR X id r) (h' : MtR X id r') : MtR X id (fun x xs H Q => r x xs H Q ∨ r' x xs H Q) := by
  intro pins s σ H x xs v us Q I rx rs q
  rcases q with q | q
  · exact h pins s σ H x xs v us Q I rx rs q
  · exact h' pins s σ H x xs v us Q I rx rs q
/-- a[b] -/
theorem pe_ix {r : R2} (hr : IxR X r) (ha : PE X a ta) (hb : PE X b tb) (hs : PlainIx b) : PE X (.Subscript a b pos) (tOp r ta tb) := by
  intro pins s σ H Q I h
  exact Subscript_ (binT ha hb I h fun v u s2 x y H2 I2 rx ry q => hr a b pins s2 σ H2 x y v u Q I2 rx ry q (hs _ _))

inductive RIxLI (K : PySem.W.Frag) (x : V) (y : V) (H : Hp) (Q : VK) : Prop where
  | mk (p : _) (xs : _) (i : _) (v : _) (c1 : x = .ref p) (c2 : y = .int i) (c3 : SqL K H p xs) (c4 : atI xs i = some v) (c5 : Q v H)
def rIxL (K : PySem.W.Frag) : R2 := fun x y H Q => RIxLI K x y H Q
inductive RIxTI (K : PySem.W.Frag) (x : V) (y : V) (H : Hp) (Q : VK) : Prop where
  | mk (p : _) (xs : _) (i : _) (v : _) (c1 : x = .ref p) (c2 : y = .int i) (c3 : SqT K H p xs) (c4 : atI xs i = some v) (c5 : Q v H)
def rIxT (K : PySem.W.Frag) : R2 := fun x y H Q => RIxTI K x y H Q
inductive RIxSI (x : V) (y : V) (H : Hp) (Q : VK) : Prop where
  | mk (z : _) (i : _) (c : _) (c1 : x = .str z) (c2 : y = .int i) (c3 : z.length ≤ sizeLine) (c4 : atI z.cps.toList i = some c) (c5 : Q (.str ⟨#[c]⟩) H)
def rIxS : R2 := fun x y H Q => RIxSI x y H Q
theorem ix_list : IxR X (rIxL X.K) := by
  intro value slice pins s σ H x y v u Q I rx ry h hs
  obtain ⟨p, xs, i, z, rfl, rfl, hq, he, q⟩ := h
  cases rx
  obtain ⟨t, rfl⟩ := ry
  obtain ⟨its, r, pl, hz⟩ := I.list hq
  obtain ⟨j, h1, h2, h3, h4, h5⟩ := atI_get he
  obtain ⟨w, ew, rw'⟩ := r.get h2
  have hl := r.length
  have hn := line63
  have fin : EP X pins σ Q w s := ⟨z, H, I, rw', q⟩
  by_cases h0 : 0 ≤ i
  · have hj : i.toNat = j := by
      rw [seqIndex_of h0 h5] at h1
      exact Option.some.inj h1
    exact item_listR pl.isList h0 (by omega) (by rw [hj]; simpa using ew) fin hs
  · have hj : (i + (its.toArray.size : Int)).toNat = j := by
      rw [seqIndex_neg (by omega) h4] at h1
      rw [List.size_toArray, ← hl]
      exact Option.some.inj h1
    exact subscriptTail_builtinR (x := w) pl.isList.typeIs slot_list_getitem.lookup
      (wpAny_getItem_list_neg (Q := fun r s' => r = w ∧ EP X pins σ Q r s') pl.isList (by omega) (by rw [List.size_toArray] <;> omega) (by omega) (by rw [hj]; simpa using ew) ⟨rfl, fin⟩) hs
theorem ix_tup : IxR X (rIxT X.K) := by
  intro value slice pins s σ H x y v u Q I rx ry h hs
  obtain ⟨p, xs, i, z, rfl, rfl, hq, he, q⟩ := h
  cases rx
  obtain ⟨t, rfl⟩ := ry
  obtain ⟨its, r, pl, hz⟩ := I.tuple hq
  obtain ⟨j, h1, h2, h3, h4, h5⟩ := atI_get he
  obtain ⟨w, ew, rw'⟩ := r.get h2
  have hl := r.length
  have hn := line63
  have fin : EP X pins σ Q w s := ⟨z, H, I, rw', q⟩
  exact subscriptTail_builtinR (x := w) pl.typeIs slot_tuple_getitem.lookup
    (getItem_tuple (j := j) (Q := fun r s' => r = w ∧ EP X pins σ Q r s') pl (by omega) (by omega) (by rw [List.size_toArray, ← hl]; exact h1) (by simpa using ew) ⟨rfl, fin⟩) hs
theorem ix_str : IxR X rIxS := by
  intro value slice pins s σ H x y v u Q I rx ry h hs
  obtain ⟨z, i, c, rfl, rfl, hz, he, q⟩ := h
  obtain ⟨t, rfl⟩ := rx
  obtain ⟨t', rfl⟩ := ry
  obtain ⟨j, h1, h2, h3, h4, h5⟩ := atI_get he
  have hl : z.cps.toList.length = z.length := by simp [Str.length]
  rw [hl] at h1 h4 h5
  have hn := line63
  exact tail_any (typeIs_str s z t) slot_str_getitem.lookup (getItem_str (c := c) (by
    have e1 : decide (i < -(2 ^ 63 : Int)) = false := decide_eq_false (by omega)
    have e2 : decide (i ≥ 2 ^ 63) = false := decide_eq_false (by omega)
    rw [e1, e2, Bool.or_false]) (by rw [h1]; simpa using h2) ⟨.str ⟨#[c]⟩, H, I.tok _, ⟨_, rfl⟩, q⟩) hs

/-! ### xs[i] = v, any sign -/
theorem Inv.lst {pins : List (Addr × Obj)} {σ : St} {H : Hp} {s : Shared} {p : Addr} {xs : List V} (I : Inv X pins σ H s) (h : H p = some (.lst xs)) :
    ∃ (its : List Value) (n : Nat), Vals xs its ∧ s.heap.get? p = some { cls := .type "list", data := .seq its.toArray n } ∧ xs.length ≤ sizeLine := by
  obtain ⟨z, its, n, r, e⟩ := I.hok p _ h
  exact ⟨its, n, r, e, z⟩

/-! ### slices -/
theorem slice_bounds (lo hi : Option Int) (n : Nat) : (sliceBounds lo hi none n).1 = ((HT.sIx n 0 lo : Nat) : Int) ∧ (sliceBounds lo hi none n).2.1 = ((HT.sIx n n hi : Nat) : Int) ∧ (sliceBounds lo hi none n).2.2 = 1 := by
  refine ⟨?_, ?_, rfl⟩
  · cases lo with
    | none => simp [sliceBounds, HT.sIx]
    | some i =>
      simp only [sliceBounds, HT.sIx, Option.getD_none, show (1 : Int) > 0 by decide, if_true]
      by_cases h : i < 0
      · simp only [h, if_true] <;> omega
      · simp only [h, if_false] <;> omega
  · cases hi with
    | none => simp [sliceBounds, HT.sIx]
    | some i =>
      simp only [sliceBounds, HT.sIx, Option.getD_none, show (1 : Int) > 0 by decide, if_true]
      by_cases h : i < 0
      · simp only [h, if_true] <;> omega
      · simp only [h, if_false] <;> omega
theorem slicePick_cut (its : List Value) (lo hi : Option Int) : slicePick its.toArray lo hi none = ((its.drop (HT.sIx its.length 0 lo)).take (HT.sIx its.length its.length hi - HT.sIx its.length 0 lo)).toArray := by
  obtain ⟨h1, h2, h3⟩ := slice_bounds lo hi its.toArray.size
  unfold slicePick
  rw [h1, h2, h3]
  simp only [sliceRange_one, pick_run, List.size_toArray] <;> rfl
/-- xs[lo:hi] of a list: a new list -/
inductive RSlLI (K : PySem.W.Frag) (x : V) (lo : Option Int) (hi : Option Int) (H : Hp) (Q : VK) : Prop where
  | mk (a : _) (xs : _) (c1 : x = .ref a) (c2 : SqL K H a xs) (c3 : ∀ p, H p = none → Q (.ref p) (upd H p (.lst (cutV xs lo hi))))
def rSlL (K : PySem.W.Frag) : V → Option Int → Option Int → Hp → VK → Prop := fun x lo hi H Q => RSlLI K x lo hi H Q
theorem sl_list : SlR X (rSlL X.K) := by
  intro pins s σ H x v vl vu lo hi sl Q I rx hs pl pu h
  obtain ⟨a, xs, rfl, hx, q⟩ := h
  cases rx
  obtain ⟨its, r, ht, hz⟩ := I.list hx
  have hlen := r.length
  refine ⟨"list", _, slot_list_getitem.lookup, ht.isList.typeIs, ?_⟩
  refine wpAny_getItem_list_slice ht.isList hs pl pu .none (by simp) ?_ (by rw [List.size_toArray] <;> omega)
  rw [slicePick_cut, ← hlen]
  refine ⟨.ref s.heap.objs.size, _, I.laid (t' := s.toks) (o := .lst (cutV xs lo hi)) (fun b ob q => Heap.get?_push_of_some _ q) (Nat.le_refl _) ?_, rfl, q _ (I.hok.fresh (Nat.le_refl _))⟩
  exact ⟨Nat.le_trans (cutV_length xs lo hi) hz, _, 0, (r.drop (HT.sIx xs.length 0 lo)).take (HT.sIx xs.length xs.length hi - HT.sIx xs.length 0 lo), Heap.get?_push_size _ rfl⟩

/-! ### in, not in: flat items -/
def flatV : V → Bool
  | .non => true
  | .bl _ => true
  | .int _ => true
  | .str _ => true
  | _ => false
/-- == of flat values -/
def eqV : V → V → Bool
  | .non, .non => true
  | .bl a, .bl b => a == b
  | .bl a, .int b => (if a then 1 else 0) == b
  | .int a, .bl b => a == (if b then 1 else 0)
  | .int a, .int b => a == b
  | .str a, .str b => a == b
  | _, _ => false
theorem eqAt_V {A : Around} {s : Shared} {y x : V} {u v : Value} (ry : RelV y u) (rx : RelV x v) (fy : flatV y = true) (fx : flatV x = true) : SeqAt.EqAt A s u v (eqV y x) := by
  cases y with
  | non =>
    cases ry
    cases x with
    | non => cases rx; exact SeqAt.EqAt.same _
    | bl b => cases rx; exact SeqAt.EqAt.none_bool b
    | int b => obtain ⟨t, rfl⟩ := rx; exact SeqAt.EqAt.none_int b t
    | str b => obtain ⟨t, rfl⟩ := rx; exact SeqAt.EqAt.none_str b t
    | _ => exact absurd (show false = true from fx) Bool.false_ne_true
  | bl a =>
    cases ry
    cases x with
    | non => cases rx; exact SeqAt.EqAt.bool_none a
    | bl b => cases rx; exact SeqAt.EqAt.bool_bool a b
    | int b => obtain ⟨t, rfl⟩ := rx; exact SeqAt.EqAt.bool_int a b t
    | str b => obtain ⟨t, rfl⟩ := rx; exact SeqAt.EqAt.bool_str a b t
    | _ => exact absurd (show false = true from fx) Bool.false_ne_true
  | int a =>
    obtain ⟨t', rfl⟩ := ry
    cases x with
    | non => cases rx; exact SeqAt.EqAt.int_none a t'
    | bl b => cases rx; exact SeqAt.EqAt.int_bool a t' b
    | int b => obtain ⟨t, rfl⟩ := rx; exact SeqAt.EqAt.int_int a t' b t
    | str b => obtain ⟨t, rfl⟩ := rx; exact SeqAt.EqAt.int_str a t' b t
    | _ => exact absurd (show false = true from fx) Bool.false_ne_true
  | str a =>
    obtain ⟨t', rfl⟩ := ry
    cases x with
    | non => cases rx; exact SeqAt.EqAt.str_none a t'
    | bl b => cases rx; exact SeqAt.EqAt.str_bool a t' b
    | int b => obtain ⟨t, rfl⟩ := rx; exact SeqAt.EqAt.str_int a t' b t
    | str b => obtain ⟨t, rfl⟩ := rx; exact SeqAt.EqAt.str_str a t' b t
    | _ => exact absurd (show false = true from fx) Bool.false_ne_true
  | _ => exact absurd (show false = true from fy) Bool.false_ne_true
/-- the items' answers, read off the values (a value's own answer does not lean on its token) -/
def eqU (x : V) (u : Value) : Bool := match u with
  | .none => eqV .non x
  | .bool b => eqV (.bl b) x
  | .int i _ => eqV (.int i) x
  | .str z _ => eqV (.str z) x
  | _ => false
theorem eqU_of {x y : V} {u : Value} (r : RelV y u) (f : flatV y = true) : eqU x u = eqV y x := by
  cases y with
  | non => cases r; rfl
  | bl b => cases r; rfl
  | int i => obtain ⟨t, rfl⟩ := r; rfl
  | str z => obtain ⟨t, rfl⟩ := r; rfl
  | _ => exact absurd (show false = true from f) Bool.false_ne_true
theorem any_eqU {x : V} : ∀ {xs : List V} {us : List Value}, Vals xs us → xs.all flatV = true → us.any (eqU x) = xs.any fun y => eqV y x
  | _, _, .nil, _ => rfl
  | y :: xs, u :: us, .cons r t, f => by
    rw [List.all_cons, Bool.and_eq_true] at f
    rw [List.any_cons, List.any_cons, eqU_of r f.1, any_eqU t f.2]
theorem mem_eqAt {A : Around} {s : Shared} {x : V} {v : Value} (rx : RelV x v) (fx : flatV x = true) : ∀ {xs : List V} {us : List Value}, Vals xs us → xs.all flatV = true → ∀ u ∈ us, SeqAt.EqAt A s u v (eqU x u)
  | _, _, .nil, _ => fun u hu => by cases hu
  | y :: xs, u :: us, .cons r t, f => fun u' hu => by
    rw [List.all_cons, Bool.and_eq_true] at f
    rcases List.mem_cons.mp hu with rfl | hu
    · rw [eqU_of r f.1]; exact eqAt_V r rx f.1 fx
    · exact mem_eqAt rx fx t f.2 u' hu
def inV (x : V) (xs : List V) : Bool := xs.any fun y => eqV y x
/-- x in a list or tuple of flat items -/
inductive RInI (K : PySem.W.Frag) (neg : Bool) (x : V) (y : V) (H : Hp) (Q : VK) : Prop where
  | mk (p : _) (xs : _) (c1 : y = .ref p) (c2 : (SqL K H p xs ∨ SqT K H p xs)) (c3 : flatV x = true) (c4 : xs.all flatV = true) (c5 : Q (.bl (if neg then !inV x xs else inV x xs)) H)
def rIn (K : PySem.W.Frag) (neg : Bool) : R2 := fun x y H Q => RInI K neg x y H Q
theorem op_in_seq : OpR X (compareOp .In) (rIn X.K false) := by
  intro pins s σ H x y v u Q I rx ry h
  obtain ⟨p, xs, rfl, hq, fx, fs, q⟩ := h
  cases ry
  rcases hq with hq | hq
  · obtain ⟨its, r, pl, hz⟩ := I.list hq
    refine SeqAt.in_listAt (eqU x) pl.isList (fun w hw => mem_eqAt rx fx r fs w (by simpa using hw)) ⟨.bl _, H, I, rfl, ?_⟩
    rw [show its.toArray.any (eqU x) = its.any (eqU x) by simp, any_eqU r fs]
    exact q
  · obtain ⟨its, r, pl, hz⟩ := I.tuple hq
    refine SeqAt.in_tupleAt (eqU x) pl (fun w hw => mem_eqAt rx fx r fs w (by simpa using hw)) ⟨.bl _, H, I, rfl, ?_⟩
    rw [show its.toArray.any (eqU x) = its.any (eqU x) by simp, any_eqU r fs]
    exact q

/-! ### len, list(x), tuple(x) of any list or tuple that is read -/
theorem call_len_seq : CallR X (.builtin "len") (fun xs H Q => ∃ p ys, xs = [.ref p] ∧ (SqL X.K H p ys ∨ SqT X.K H p ys) ∧ Q (.int ys.length) H) := by
  intro pins s σ H xs us Q I r h
  obtain ⟨p, ys, rfl, hq, q⟩ := h
  obtain ⟨u, rfl, rx⟩ := vals1 r
  cases rx
  have hn := line63
  rcases hq with hq | hq
  · obtain ⟨its, r', pl, hz⟩ := I.list hq
    have hlen := r'.length
    exact Calls.call_len_list pl.isList (by simp only [List.size_toArray] <;> omega) ⟨.int ys.length, H, I.tok _, ⟨s.toks + 1, by rw [List.size_toArray, hlen]⟩, q⟩
  · obtain ⟨its, r', pl, hz⟩ := I.tuple hq
    have hlen := r'.length
    exact len_tuple pl (by simp only [List.size_toArray] <;> omega) ⟨.int ys.length, H, I.tok _, ⟨s.toks + 1, by rw [List.size_toArray, hlen]⟩, q⟩
theorem CallR.or {f : Value} {r r' : List V → Hp → VK → Prop} (h : CallR X f r) (h' : CallR X f r') : CallR X f (fun xs H Q => r xs H Q ∨ r' xs H Q) := by
  intro pins s σ H xs us Q I rs q
  rcases q with q | q
  · exact h pins s σ H xs us Q I rs q
  · exact h' pins s σ H xs us Q I rs q

/-! ### the call of a builtin's method: o.m(..) -/
/-- the value is of that builtin type -/
def tyV (K : PySem.W.Frag) (T : String) (x : V) (H : Hp) : Prop := match x with
  | .str _ => T = "str"
  | .int _ => T = "int"
  | .ref p => (T = "list" ∧ ∃ xs, SqL K H p xs) ∨ (T = "tuple" ∧ ∃ o, K.lookup p = some o ∧ o.cls = .type "tuple" ∧ o.dict = none) ∨
      (T = "dict" ∧ ((∃ kvs, H p = some (.dK kvs)) ∨ ∃ kvs, H p = some (.dT kvs))) ∨ (T = "set" ∧ ∃ S n, H p = some (.set S n))
  | _ => False
theorem tyV_is {pins : List (Addr × Obj)} {σ : St} {H : Hp} {s : Shared} {T : String} {x : V} {v : Value} (I : Inv X pins σ H s) (r : RelV x v) (ty : tyV X.K T x H) :
    s.TypeIs v T ∧ ∀ a, v = .ref a → ∃ ob, s.heap.get? a = some ob ∧ ob.dict = none := by
  cases x with
  | str z =>
    obtain ⟨t, rfl⟩ := r
    cases (show T = "str" from ty)
    exact ⟨typeIs_str s z t, fun _ e => nomatch e⟩
  | int i =>
    obtain ⟨t, rfl⟩ := r
    cases (show T = "int" from ty)
    exact ⟨typeIs_int s i t, fun _ e => nomatch e⟩
  | ref p =>
    cases r
    rcases ty with ⟨rfl, xs, hq⟩ | ⟨rfl, o, hk, hc, hd⟩ | ⟨rfl, hk⟩ | ⟨rfl, S, n, hk⟩
    · obtain ⟨its, _, pl, _⟩ := I.list hq
      refine ⟨pl.isList.typeIs, fun a e => ?_⟩
      cases e
      obtain ⟨o, n, e, c, hd, _⟩ := pl
      exact ⟨o, e, hd⟩
    · refine ⟨⟨o, I.kIn p o hk, hc⟩, fun a e => ?_⟩
      cases e
      exact ⟨o, I.kIn _ o hk, hd⟩
    · have z : ∃ o, s.heap.get? p = some o ∧ o.ExactDict := by
        rcases hk with ⟨kvs, hk⟩ | ⟨kvs, hk⟩
        · obtain ⟨_, _, _, _, o, _, _, e, ex, _⟩ := I.hok p _ hk
          exact ⟨o, e, ex⟩
        · obtain ⟨_, _, _, _, o, _, _, e, ex, _⟩ := I.hok p _ hk
          exact ⟨o, e, ex⟩
      obtain ⟨o, e, ex⟩ := z
      refine ⟨⟨o, e, ex.1⟩, fun a e2 => ?_⟩
      cases e2
      exact ⟨o, e, ex.2.1⟩
    · obtain ⟨o, _, _, _, e, ex, _⟩ := I.hok p _ hk
      refine ⟨⟨o, e, ex.1⟩, fun a e2 => ?_⟩
      cases e2
      exact ⟨o, e, ex.2.1⟩
  | _ => exact False.elim ty
inductive TBM0I (K : PySem.W.Frag) (T : String) (r : V → List V → Hp → VK → Prop) (x : V) (H1 : Hp) (Q : VK) : Prop where
  | mk (c1 : tyV K T x H1) (c2 : r x [] H1 Q)
def tBM0 (K : PySem.W.Frag) (T : String) (r : V → List V → Hp → VK → Prop) (to : TE) : TE := fun σ H Q => to σ H fun x H1 => TBM0I K T r x H1 Q
inductive TBMI (K : PySem.W.Frag) (T : String) (r : V → List V → Hp → VK → Prop) (t : TA) (σ : L2.St) (x : V) (H1 : Hp) (Q : VK) : Prop where
  | mk (c1 : tyV K T x H1) (c2 : t σ H1 fun xs H2 => r x xs H2 Q)
def tBM (K : PySem.W.Frag) (T : String) (r : V → List V → Hp → VK → Prop) (to : TE) (t : TA) : TE := fun σ H Q => to σ H fun x H1 => TBMI K T r t σ x H1 Q
variable {o e : Expr} {es : List Expr} {to : TE} {t : TA} {name : Str} {apos cpos : Pos} {T id : String} {r : V → List V → Hp → VK → Prop}
theorem pe_bm0 (pa : PlainAttrs T) (slot : Slot T name id) (hty : typeOf (.builtin id) = pure (.type "method_descriptor")) (hm : MtR X id r) (ho : PE X o to)
    (hbase : attributeBase o name X.env (eval o X.env) = eval o X.env := by rfl) (hline : (apos.endLine == cpos.line) = true := by rfl) : PE X (.Call (.Attribute o name apos) [] [] cpos) (tBM0 X.K T r to) := by
  intro pins s σ H Q I h
  refine wpAny_Call_method0_late hbase hline (thn (ho pins s σ H _ I h) fun v s1 ⟨x, H1, I1, r1, ty, q1⟩ => ?_)
  obtain ⟨h1, h2⟩ := tyV_is I1 r1 ty
  exact ⟨T, id, pa, slot, hty, h1, h2, Calls.callWith_builtin rfl (PySem.evalArgs_none (hm pins s1 σ H1 x [] v [] Q I1 r1 .nil q1))⟩
theorem pe_bm (pa : PlainAttrs T) (slot : Slot T name id) (hty : typeOf (.builtin id) = pure (.type "method_descriptor")) (hm : MtR X id r) (ho : PE X o to) (ha : PA X (e :: es) t)
    (hbase : attributeBase o name X.env (eval o X.env) = eval o X.env := by rfl)
    (hfew : ((backTo cpos (starEach (e :: es) X.env)).all (fun x => !x.1) && (backToKw cpos (keywordEach [] X.env)).all (fun x => x.1.isSome)
      && decide ((e :: es).length + ([] : List Keyword).length + (if ([] : List Keyword).isEmpty then 0 else 1) < 30)) = true := by rfl)
    (hline : (apos.endLine == cpos.line) = true := by rfl) (hs : starEach (e :: es) X.env = (false, eval e X.env) :: starEach es X.env := by rfl) (hplain : (backTo cpos (starEach es X.env)).any (·.1) = false := by rfl) :
    PE X (.Call (.Attribute o name apos) (e :: es) [] cpos) (tBM X.K T r to t) := by
  intro pins s σ H Q I h
  refine wpAny_Call_method_late hbase hfew hline rfl (thn (ho pins s σ H _ I h) fun v s1 ⟨x, H1, I1, r1, ty, q1⟩ => ?_)
  obtain ⟨h1, h2⟩ := tyV_is I1 r1 ty
  refine ⟨T, id, pa, slot, hty, h1, h2, ?_⟩
  have hA := ha cpos pins s1 σ H1 _ I1 q1
  rw [hs] at hA ⊢
  refine Calls.callWith_builtin (by show (false || (backTo cpos (starEach es X.env)).any (·.1)) = false; rw [hplain] <;> rfl) (Calls.evalArgs_plain ?_)
  exact thn hA fun us s2 ⟨vs, H2, I2, r2, q2⟩ => hm pins s2 σ H2 x vs v us Q I2 r1 r2 q2
/- xs.append(e), list.index on a module's tuple .. are MtR facts of 06m -/
end
end L2

namespace L2
open PySem PySem.Spec PyProof.Rows

def MtM (X : Cx) (id : String) (r : V → List V → Hp → VK → Prop) : Prop :=
  ∀ (pins : List (Addr × Obj)) (s : Shared) (σ : St) (H : Hp) (x : V) (xs : List V) (v : Value) (us : List Value) (Q : VK), Inv X pins σ H s → RelV x v → Vals xs us → r x xs H Q →
    wpAny (model X.prog X.w) X.A (call (.builtin id) (v :: us)) (EP X pins σ Q) X.xe s

/-! ### lists of values -/
theorem Vals.one : ∀ {x : V} {us : List Value}, Vals [x] us → ∃ u, us = [u] ∧ RelV x u
  | _, _, .cons r .nil => ⟨_, rfl, r⟩
theorem Vals.two : ∀ {x y : V} {us : List Value}, Vals [x, y] us → ∃ u v, us = [u, v] ∧ RelV x u ∧ RelV y v
  | _, _, _, .cons r (.cons q .nil) => ⟨_, _, rfl, r, q⟩
theorem Vals.zero : ∀ {us : List Value}, Vals [] us → us = []
  | _, .nil => rfl
theorem Vals.dropLast {xs : List V} {us : List Value} (h : Vals xs us) : Vals xs.dropLast us.dropLast := by
  induction h with
  | nil => exact .nil
  | cons r t ih =>
    cases t with
    | nil => exact .nil
    | cons q t' => exact .cons r ih
theorem Vals.eraseIdx : ∀ {xs : List V} {us : List Value} (i : Nat), Vals xs us → Vals (xs.eraseIdx i) (us.eraseIdx i)
  | _, _, _, .nil => .nil
  | _, _, 0, .cons _ t => t
  | _, _, i + 1, .cons r t => .cons r (Vals.eraseIdx i t)
theorem Vals.reverse {xs : List V} {us : List Value} (h : Vals xs us) : Vals xs.reverse us.reverse := by
  induction h with
  | nil => exact .nil
  | cons r t ih => rw [List.reverse_cons, List.reverse_cons]; exact Vals.append ih (.cons r .nil)
theorem erase_last {α : Type} (l : List α) : l.eraseIdx (l.length - 1) = l.dropLast := by
  induction l with
  | nil => rfl
  | cons a r ih =>
    cases r with
    | nil => rfl
    | cons b r =>
      have e : (a :: b :: r).length - 1 = ((b :: r).length - 1) + 1 := by
        have h1 : (a :: b :: r).length = r.length + 2 := rfl
        have h2 : (b :: r).length = r.length + 1 := rfl
        omega
      rw [e, List.eraseIdx_cons_succ, ih]
      all_goals rfl

section
variable {X : Cx} {pins : List (Addr × Obj)} {σ : St} {H : Hp} {s : Shared} {l b : Addr} {xs ys zs : List V}

/-! ### the two steps: a tracked list is rewritten, a new list is laid -/
theorem Inv.lset {its its' : List Value} {n : Nat} {f : Array Value → Array Value} {t' : Nat} (I : Inv X pins σ H s) (hH : H l = some (.lst xs))
    (e : s.heap.get? l = some { cls := .type "list", data := .seq its.toArray n }) (hf : f its.toArray = its'.toArray) (hv : Vals ys its') (hz : ys.length ≤ sizeLine) :
    Inv X pins σ (upd H l (.lst ys)) { s with heap := s.heap.update l (Obj.mapSeq f), toks := t' } := by
  have q := PySem.IsL.update e f
  rw [hf] at q
  refine I.write (x := l) (e := l) (by rw [hH]; exact trivial) (.inl rfl) (fun b' u hb hu => (Heap.get?_update_other s.heap (Obj.mapSeq f) (Ne.symm hb)).trans hu) ⟨_, q⟩ ?_
  exact ⟨hz, its', _, hv, q⟩
theorem Inv.lnew {its : List Value} {t' : Nat} (I : Inv X pins σ H s) (hv : Vals ys its) (hz : ys.length ≤ sizeLine) :
    Inv X pins σ (upd H s.heap.objs.size (.lst ys)) { s with heap := s.heap.push { cls := .type "list", data := .seq its.toArray }, toks := t' } :=
  I.laid (fun _ _ q => Heap.get?_push_of_some _ q) (Nat.le_refl _) ⟨hz, its, 0, hv, Heap.get?_push_size _ rfl⟩
theorem Inv.fresh (I : Inv X pins σ H s) : H s.heap.objs.size = none := I.hok.fresh (Nat.le_refl _)
theorem Inv.lstM (I : Inv X pins σ H s) (hH : H l = some (.lst xs)) : xs.length ≤ sizeLine ∧ ∃ (its : List Value) (n : Nat), Vals xs its ∧ xs.length = its.length ∧ s.heap.get? l = some { cls := .type "list", data := .seq its.toArray n } := by
  obtain ⟨z, its, n, r, e⟩ := I.hok l _ hH
  exact ⟨z, its, n, r, r.length, e⟩

theorem notLongL {n : Nat} (h : n ≤ sizeLine) : Builtin.List.listTooLong n = false := by
  unfold Builtin.List.listTooLong
  exact decide_eq_false (by omega)
end

section
variable {X : Cx}

/-! ### methods -/
def rAppend : V → List V → Hp → VK → Prop := fun x vs H Q => ∃ l xs y, x = .ref l ∧ vs = [y] ∧ H l = some (.lst xs) ∧ xs.length < sizeLine ∧ Q .non (upd H l (.lst (xs ++ [y])))
theorem mt_append : MtM X "list.append" rAppend := by
  intro pins s σ H x vs v us Q I rx rv h
  obtain ⟨l, xs, y, rfl, rfl, hH, hz, q⟩ := h
  cases rx
  obtain ⟨u, rfl, ru⟩ := rv.one
  obtain ⟨z, its, n, r, hl, e⟩ := I.lstM hH
  refine call_meets F.slot_list_append ⟨_, e, rfl⟩ F.entry_list_append (F.args_list_append_2 _ _) (PySem.list_append l its.toArray n u (by rw [List.size_toArray]; omega)) ⟨e, ?_⟩
  refine ⟨.non, _, I.lset (its' := its ++ [u]) hH e (by simp) (r.append (.cons ru .nil)) ?_, rfl, q⟩
  rw [List.length_append, List.length_singleton]
  omega

def rExtend : V → List V → Hp → VK → Prop := fun x vs H Q => ∃ l b xs zs, x = .ref l ∧ vs = [.ref b] ∧ H l = some (.lst xs) ∧ H b = some (.lst zs) ∧ xs.length + zs.length ≤ sizeLine ∧ Q .non (upd H l (.lst (xs ++ zs)))
theorem mt_extend : MtM X "list.extend" rExtend := by
  intro pins s σ H x vs v us Q I rx rv h
  obtain ⟨l, b, xs, zs, rfl, rfl, hH, hB, hz, q⟩ := h
  cases rx
  obtain ⟨u, rfl, ru⟩ := rv.one
  cases ru
  obtain ⟨z, its, n, r, hl, e⟩ := I.lstM hH
  obtain ⟨z2, its2, n2, r2, hl2, e2⟩ := I.lstM hB
  have hsz : its.toArray.size + its2.toArray.size ≤ sizeLine := by rw [List.size_toArray, List.size_toArray]; omega
  have hlong : ¬ (!its.toArray.isEmpty && Builtin.List.listTooLong (its.toArray.size + its2.toArray.size)) = true := by
    rw [notLongL hsz, Bool.and_false]
    exact Bool.false_ne_true
  refine call_meets F.slot_list_extend ⟨_, e, rfl⟩ F.entry_list_extend (F.args_list_extend_2 _ _)
    (AutoSeq1.list_extend_list_list_0 l its.toArray n b its2.toArray n2 hlong (by rw [List.size_toArray]; omega) (by omega)) ⟨e, e2, ?_⟩
  refine ⟨.non, _, I.lset (its' := its ++ its2) hH e (by simp) (r.append r2) ?_, rfl, q⟩
  rw [List.length_append]
  omega

def rPop : V → List V → Hp → VK → Prop := fun x vs H Q => ∃ l xs y, x = .ref l ∧ vs = [] ∧ H l = some (.lst xs) ∧ xs[xs.length - 1]? = some y ∧ Q y (upd H l (.lst xs.dropLast))
theorem mt_pop : MtM X "list.pop" rPop := by
  intro pins s σ H x vs v us Q I rx rv h
  obtain ⟨l, xs, y, rfl, rfl, hH, hy, q⟩ := h
  cases rx
  have hus := rv.zero
  subst hus
  obtain ⟨z, its, n, r, hl, e⟩ := I.lstM hH
  obtain ⟨u, hu, ru⟩ := r.get hy
  have hy' : its.toArray[its.toArray.size - 1]? = some u := by
    show its.toArray[its.length - 1]? = some u
    rw [← Array.getElem?_toList, ← hl]
    exact hu
  refine call_meets F.slot_list_pop ⟨_, e, rfl⟩ F.entry_list_pop (F.args_list_pop_1 _) (MeetsSeq.list_pop_last l its.toArray n u hy' (by rw [List.size_toArray]; omega)) ⟨e, ?_⟩
  refine ⟨y, _, I.lset (its' := its.dropLast) hH e ?_ r.dropLast ?_, ru, q⟩
  · show its.toArray.eraseIdxIfInBounds (its.toArray.size - 1) = its.dropLast.toArray
    rw [List.size_toArray, List.eraseIdxIfInBounds_toArray, erase_last]
  · rw [List.length_dropLast]
    omega




/-! ### list + list, list += list, list * int -/
def rCat : R2 := fun x y H Q => ∃ l b xs zs, x = .ref l ∧ y = .ref b ∧ H l = some (.lst xs) ∧ H b = some (.lst zs) ∧ xs.length + zs.length ≤ sizeLine ∧ ∀ p, H p = none → Q (.ref p) (upd H p (.lst (xs ++ zs)))
theorem op_cat : OpR X (binaryOp .Add) rCat := by
  intro pins s σ H x y v u Q I rx ry h
  obtain ⟨l, b, xs, zs, rfl, rfl, hH, hB, hz, q⟩ := h
  cases rx
  cases ry
  obtain ⟨z, its, n, r, hl, e⟩ := I.lstM hH
  obtain ⟨z2, its2, n2, r2, hl2, e2⟩ := I.lstM hB
  refine PySem.P.add_list e e2 ?_ (by rw [List.size_toArray, List.size_toArray]; omega)
  have ea : its.toArray ++ its2.toArray = (its ++ its2).toArray := by simp
  rw [ea]
  exact ⟨.ref _, _, I.lnew (t' := s.toks) (r.append r2) (by rw [List.length_append]; omega), rfl, q _ I.fresh⟩

/-! ### del xs[i] -/
end

/-! ### xs[a:b] = ys -/
section
variable {prog : Program} {w : World} {A : Around} {E : Value → Shared → Prop} {s : Shared}
set_option maxRecDepth 100000 in
end

section
variable {X : Cx}
end
end L2


namespace L2
open PySem PySem.Spec PyProof.Rows

/-! ### lists of pairs as tables -/
section
variable {κ : Type} [DecidableEq κ]
def valV (kvs : List (κ × V)) (k : κ) : Option V := (kvs.find? fun kv => decide (kv.1 = k)).map (·.2)
/-- in its place, or at the end -/
def putK (kvs : List (κ × V)) (k : κ) (v : V) : List (κ × V) :=
  if (kvs.any fun kv => decide (kv.1 = k)) = true then kvs.map (fun kv => if kv.1 = k then (kv.1, v) else kv) else kvs ++ [(k, v)]
def dropK (kvs : List (κ × V)) (k : κ) : List (κ × V) := kvs.filter fun kv => decide (kv.1 ≠ k)

theorem valV_pos {p : κ × V} {r : List (κ × V)} {k : κ} (e : p.1 = k) : valV (p :: r) k = some p.2 := by simp [valV, List.find?_cons, e]
theorem valV_neg {p : κ × V} {r : List (κ × V)} {k : κ} (e : ¬ p.1 = k) : valV (p :: r) k = valV r k := by simp [valV, List.find?_cons, e]

theorem RelO.getD {o : Option V} {u : Option Value} {d : V} {d' : Value} (r : RelO o u) (rd : RelV d d') : RelV (o.getD d) (u.getD d') := by
  cases o with
  | none => cases u with
    | none => exact rd
    | some _ => exact (show False from r).elim
  | some _ => cases u with
    | none => exact (show False from r).elim
    | some _ => exact r

/-- raw tables of the same keys -/
theorem KV.val {kvs : List (κ × V)} {vs : List (κ × Value)} (r : KV kvs vs) (k : κ) : RelO (valV kvs k) (valueAt vs k) := by
  unfold KV at r
  induction r with
  | nil => exact True.intro
  | @cons p q ps qs h t ih =>
    obtain ⟨h1, h2⟩ := h
    by_cases e : p.1 = k
    · have e' : q.1 = k := h1.symm.trans e
      have b : valueAt (q :: qs) k = some q.2 := by simp [valueAt, List.find?_cons, e']
      rw [valV_pos e, b]; exact h2
    · have e' : ¬ q.1 = k := fun z => e (h1.trans z)
      have b : valueAt (q :: qs) k = valueAt qs k := by simp [valueAt, List.find?_cons, e']
      rw [valV_neg e, b]; exact ih
theorem KV.any {kvs : List (κ × V)} {vs : List (κ × Value)} (r : KV kvs vs) (k : κ) : (kvs.any fun kv => decide (kv.1 = k)) = vs.any fun kv => decide (kv.1 = k) := by
  unfold KV at r
  induction r with
  | nil => rfl
  | cons h t ih => rw [List.any_cons, List.any_cons, ih, h.1]
theorem KV.drop {kvs : List (κ × V)} {vs : List (κ × Value)} (r : KV kvs vs) (k : κ) : KV (dropK kvs k) (without vs k) := by
  unfold KV at r ⊢
  unfold dropK without
  induction r with
  | nil => exact .nil
  | @cons p q ps qs h t ih =>
    obtain ⟨h1, h2⟩ := h
    rw [List.filter_cons, List.filter_cons]
    by_cases e : p.1 = k
    · have a : ¬ decide (p.1 ≠ k) = true := by simp [e]
      have b : ¬ decide (q.1 ≠ k) = true := by simp [h1.symm.trans e]
      rw [if_neg a, if_neg b]; exact ih
    · have e' : ¬ q.1 = k := fun z => e (h1.trans z)
      have a : decide (p.1 ≠ k) = true := by simp [e]
      have b : decide (q.1 ≠ k) = true := by simp [e']
      rw [if_pos a, if_pos b]; exact .cons ⟨h1, h2⟩ ih
theorem KV.keys {kvs : List (κ × V)} {vs : List (κ × Value)} (r : KV kvs vs) : kvs.map (·.1) = vs.map (·.1) := by
  unfold KV at r
  induction r with
  | nil => rfl
  | cons h t ih => rw [List.map_cons, List.map_cons, ih, h.1]
theorem KV.length {kvs : List (κ × V)} {vs : List (κ × Value)} (r : KV kvs vs) : kvs.length = vs.length := Paired.length r
end


/-! ### a tracked dict, its keys ints and texts or tuples of these -/

/-- raw entries of a dict with tuple keys -/
abbrev KT (H : Hp) : List (List Key × V) → List (List Key × Addr × Value) → Prop := Paired fun p q => p.1 = q.1 ∧ H q.2.1 = some (.tup (p.1.map kV)) ∧ RelV p.2 q.2.2
theorem KT.val {H : Hp} {kvs : List (List Key × V)} {xs : List (List Key × Addr × Value)} (r : KT H kvs xs) (k : List Key) : RelO (valV kvs k) ((atKey xs k).map (·.2)) := by
  induction r with
  | nil => exact True.intro
  | @cons p q ps qs h t ih =>
    obtain ⟨h1, _, h2⟩ := h
    by_cases e : p.1 = k
    · have e' : q.1 = k := h1.symm.trans e
      have b : atKey (q :: qs) k = some q.2 := by simp [atKey, List.find?_cons, e']
      rw [valV_pos e, b]; exact h2
    · have e' : ¬ q.1 = k := fun z => e (h1.trans z)
      have b : atKey (q :: qs) k = atKey qs k := by simp [atKey, List.find?_cons, e']
      rw [valV_neg e, b]; exact ih
theorem KT.keeps {H H' : Hp} {kvs : List (List Key × V)} {xs : List (List Key × Addr × Value)} (r : KT H kvs xs) (ht : ∀ b ys, H b = some (.tup ys) → H' b = some (.tup ys)) : KT H' kvs xs :=
  Paired.mapP r fun _ _ z => ⟨z.1, ht _ _ z.2.1, z.2.2⟩

section
variable {P : Program} {w : World} {H : Hp} {h : Heap} {a : Addr}
end

/-- what the dict at a holds at the key y -/
def DGet (H : Hp) (a : Addr) (y : V) (r : Option V) : Prop :=
  (∃ kvs k, Rd H a (.dK kvs) ∧ y = kV k ∧ r = valV kvs k) ∨ ∃ kvs k b, Rd H a (.dT kvs) ∧ y = .ref b ∧ H b = some (.tup (k.map kV)) ∧ r = valV kvs k
/-- the heap behind a[y] = v -/
def DPut (H : Hp) (a : Addr) (y v : V) (H' : Hp) : Prop :=
  (∃ kvs k, H a = some (.dK kvs) ∧ y = kV k ∧ kvs.length < sizeLine ∧ H' = upd H a (.dK (putK kvs k v))) ∨
  ∃ kvs k b, H a = some (.dT kvs) ∧ y = .ref b ∧ H b = some (.tup (k.map kV)) ∧ kvs.length < sizeLine ∧ H' = upd H a (.dT (putK kvs k v))
theorem DGet.k {H : Hp} {a : Addr} {kvs : List (Key × V)} {k : Key} (e : H a = some (.dK kvs)) : DGet H a (kV k) (valV kvs k) := .inl ⟨kvs, k, .inl e, rfl, rfl⟩
theorem DGet.t {H : Hp} {a b : Addr} {kvs : List (List Key × V)} {k : List Key} (e : H a = some (.dT kvs)) (eb : H b = some (.tup (k.map kV))) : DGet H a (.ref b) (valV kvs k) := .inr ⟨kvs, k, b, .inl e, rfl, eb, rfl⟩
theorem DPut.k {H : Hp} {a : Addr} {kvs : List (Key × V)} {k : Key} {v : V} (e : H a = some (.dK kvs)) (hl : kvs.length < sizeLine) : DPut H a (kV k) v (upd H a (.dK (putK kvs k v))) := .inl ⟨kvs, k, e, rfl, hl, rfl⟩
theorem DPut.t {H : Hp} {a b : Addr} {kvs : List (List Key × V)} {k : List Key} {v : V} (e : H a = some (.dT kvs)) (eb : H b = some (.tup (k.map kV))) (hl : kvs.length < sizeLine) :
    DPut H a (.ref b) v (upd H a (.dT (putK kvs k v))) := .inr ⟨kvs, k, b, e, rfl, eb, hl, rfl⟩


section
variable {X : Cx} {pins : List (Addr × Obj)} {σ : St} {H : Hp} {s : Shared} {a : Addr} {y v : V} {u r : Value} {o : Option V} {A : Around} {E : Value → Shared → Prop}

theorem Inv.big (I : Inv X pins σ H s) : sysModules < s.heap.objs.size := by
  have h : mainGlobals < s.heap.objs.size := (I.mod.glob.keeps I.bk).lt
  exact Nat.lt_trans (by decide) h

end

section
variable {X : Cx} {pins : List (Addr × Obj)} {σ : St} {H : Hp} {s : Shared} {a : Addr} {kvs : List (Key × V)} {k : Key} {u : Value} {A : Around} {E : Value → Shared → Prop}
end


/-! ### readings and rules -/



section
variable {X : Cx} {o i e value : Expr} {pos pos' tpos : Pos} {td ty tv : TE}
end


/-! ### displays -/
section
variable {X : Cx} {pos : Pos}
end




/-! ### methods -/
/-- a method call o.m(e) of a built-in, with one argument: what must be seen of the text -/
structure M1 (X : Cx) (o : Expr) (m : Str) (apos : Pos) (e : Expr) (cpos : Pos) : Prop where
  base : attributeBase o m X.env (eval o X.env) = eval o X.env
  few : ((backTo cpos (starEach [e] X.env)).all (fun x => !x.1) && (backToKw cpos (keywordEach [] X.env)).all (fun x => x.1.isSome)
    && decide (([e] : List Expr).length + ([] : List Keyword).length + (if ([] : List Keyword).isEmpty then 0 else 1) < 30)) = true
  line : (apos.endLine == cpos.line) = true
  trees : backTo cpos (starEach [e] X.env) = [(false, eval e X.env)]
structure M2 (X : Cx) (o : Expr) (m : Str) (apos : Pos) (e f : Expr) (cpos : Pos) : Prop where
  base : attributeBase o m X.env (eval o X.env) = eval o X.env
  few : ((backTo cpos (starEach [e, f] X.env)).all (fun x => !x.1) && (backToKw cpos (keywordEach [] X.env)).all (fun x => x.1.isSome)
    && decide (([e, f] : List Expr).length + ([] : List Keyword).length + (if ([] : List Keyword).isEmpty then 0 else 1) < 30)) = true
  line : (apos.endLine == cpos.line) = true
  trees : backTo cpos (starEach [e, f] X.env) = [(false, eval e X.env), (false, eval f X.env)]


section
variable {X : Cx} {pins : List (Addr × Obj)} {σ : St} {H : Hp} {s : Shared} {a : Addr} {y d : V} {u r : Value} {o : Option V} {A : Around} {E : Value → Shared → Prop}
end

section
variable {X : Cx} {o e f : Expr} {apos cpos : Pos} {td ty tx : TE}
end

/-! ### dict(d): a copy -/
section
variable {X : Cx} {pins : List (Addr × Obj)} {σ : St} {H : Hp} {s : Shared} {a : Addr} {kvs : List (Key × V)} {A : Around} {E : Value → Shared → Prop}
end


section
variable {X : Cx} {pins : List (Addr × Obj)} {σ : St} {H : Hp} {s : Shared} {a : Addr} {y : V} {u : Value} {A : Around} {E : Value → Shared → Prop}
end
end L2

namespace Att
open PySem PySem.W PySem.Calls PyProof.Rows

/-! ### the script -/
theorem ints_of_wellAll {P : Params} {h : Heap} : ∀ (ns : List Int) (vs : List Value), WellAll P h vs (ns.map WData.int) → IntsAre vs ns := by
  intro ns
  induction ns with
  | nil =>
    intro vs w
    rw [List.map_nil] at w
    cases w
    exact .nil
  | cons n ns ih =>
    intro vs w
    rw [List.map_cons] at w
    cases w with
    | cons a b =>
      cases a
      exact .cons _ _ (ih _ b)

theorem script_of {l : OpenLaw} {n : Nat} (hn : l.most = some n) {P : Params} {h : Heap} {args : List WData} {vals : List Value}
    (hpre : l.row.toRowW.claim.pre args = true) (hwl : WellAll P h vals args) :
    ∃ a vs ns, vals = [Value.ref a] ∧ args = [WData.list (ns.map WData.int)] ∧ h.get? a = some { cls := .type "list", data := .seq vs.toArray } ∧ IntsAre vs ns ∧ ns.length ≤ n := by
  have hsh : WShape.hasAll [] args [.list .int] = true := (pre_splitW hpre).1
  have hc : l.pre.holds [] { args := args } = true := (pre_splitW hpre).2
  obtain ⟨d, r, rfl, h1, h2⟩ := hasAllW_cons hsh
  obtain rfl := hasAllW_nil h2
  obtain ⟨xs, rfl, h3⟩ := hasW_list h1
  obtain ⟨ns, rfl⟩ := items_int h3
  have hlen : ns.length ≤ n := by
    unfold OpenLaw.pre at hc
    have h4 : (WTm.not (.lt (.lit (.int (n : Int))) (.len (.arg 0)))).holds [] { args := [.list (ns.map .int)] } = true := by
      have h4 := (holds_andW hc).1
      rw [hn] at h4
      exact h4
    have h5 := condW_of h4 (w_not (w_lt w_lit (w_len_list (w_arg rfl))))
    rw [List.length_map] at h5
    refine Nat.le_of_not_lt fun q => ?_
    have q' : (n : Int) < ((ns.length : Nat) : Int) := by omega
    first
      | (rw [decide_eq_true q'] at h5; exact absurd h5 (by decide))
      | (simp at h5; omega)
  cases hwl with
  | cons w1 w2 =>
    cases w2
    cases w1 with
    | list ho hall => exact ⟨_, _, ns, rfl, rfl, ho, ints_of_wellAll ns _ hall, hlen⟩

theorem post_true (l : OpenLaw) (args : List WData) : l.row.toRowW.claim.post args (.bool true) args = true :=
  postW_of (r := l.row.toRowW) (X := (true == true))
    (show WShape.has [] (.bool true) .bool = true by first | rfl | decide | simp [WShape.has, WShape.arms, WShape.armsAll])
    (show (WTm.eq .res (.lit (.bool true))).value [] { args := args, res := some (.bool true), after := args } = some (.bool (true == true)) from w_eq_bool (w_res rfl) w_lit) rfl

/-! ### the attachment: holds_open's last premise (the goal 'hc' behind k_head) from a wpAny of the law's body -/

/-- the same from a codeAny of the CALL (for a layer whose function contracts speak of calls) -/
theorem attach_call {l : OpenLaw} {n : Nat} {q : Program} {loose : List Str} {XP : (Str → Option Value) → Heap → Prop} {YP : World → Heap → Prop} {d : DefRec}
    (hn : l.most = some n) (hdf : d.params.defaults = [])
    (call : ∀ (w : World) (s₀ s₁ : Shared) (mg mb : Str → Option Value) (fa : Addr) (o : Obj) (pm cd doc : Value) (a : Addr) (vs : List Value) (ns : List Int),
      Ground q loose [] XP w s₀ mg mb s₁.heap → YP w s₁.heap →
      s₁.heap.get? fa = some o → o.data = .func (docDef d.name d.params d.body d.scope pm cd doc) → s₁.heap.CodeRec cd d.name → mg d.name = some (.ref fa) →
      s₁.heap.get? a = some { cls := .type "list", data := .seq vs.toArray } → IntsAre vs ns → ns.length ≤ n → s₁.gens = #[] →
      codeAny (model l.prog w) callerA (.call (.ref fa) ⟨[.ref a], []⟩) (fun r s' => r = .ok (.ret (.bool true)) ∧ OldK s₁.heap s'.heap ∧ s'.os = s₁.os ∧ AllBare s'.gens) s₁) :
    WalkO q loose XP YP l.row.toRowW d [] (fun f vs => PySem.call f vs) := by
  intro w s₀ s₁ mg mb G Y fa o pm cd doc dV kV ho hd hcd hD hmg hg args vals as hpre hlay hrd hwl hlo
  obtain rfl : dV = .none := Dflts.none hD hdf
  obtain rfl : kV = .none := Dflts.noKw hD
  obtain ⟨a, vs, ns, rfl, rfl, hobj, hints, hlen⟩ := script_of hn hpre hwl
  refine enter_call (codeAny_mono (call w s₀ s₁ mg mb fa o pm cd doc a vs ns G Y ho (fd_plain hd) hcd hmg hobj hints hlen hg) fun r s' hq => ?_)
  obtain ⟨rfl, h2, h3, h4⟩ := hq
  exact ⟨.inl ⟨.bool true, .bool true, [], rfl, fun _ => rfl, .bool true, post_true l _, fun _ => ⟨List.Pairwise.nil, fun _ hm => (nomatch hm)⟩⟩, h2, h3, h4⟩


/-! ### rules over ANY heap (no ledger) from facts about the written part K: the library's own take a ledger (News) for what they write -/
section
variable {prog : Program} {w : World} {A : Around} {E : Value → Shared → Prop} {s : Shared} {K : Frag}


/-- C(..): dict at size, instance at size + 1, then __init__ -/
theorem make_obj {R : Result → Shared → Prop} {C fI : Addr} {rest : List Value} {kw : List (Str × Value)}
    (X : K.In s.heap) (hm : makesIn K C = true) (hi : findIn K (.ref C) "__init__" = some (some (.ref fI))) (hf : isFn K (.ref fI) = true)
    (h : codeAny (model prog w) (A.under (.builtin "type.__call__" ⟨.ref C :: rest, kw⟩)) (.call (.ref fI) ⟨.ref (s.heap.objs.size + 1) :: rest, kw⟩) (InitBack (s.heap.objs.size + 1) R)
      { s with heap := (s.heap.push emptyDict).push (instObj C s.heap.objs.size) }) : codeAny (model prog w) A (.call (.ref C) ⟨rest, kw⟩) R s := by
  obtain ⟨hh, g, d, t, os⟩ := s
  exact make_core (makes_of X hm) (looks_findIn X hi) (fun self => bind_fn X self (beq_iff_eq.mp hf)) (.inl rfl) h

/-- x.name where the instance's dict holds the name and the class does not -/
theorem get_field {x C : Addr} {ox : Obj} {es : List DictEntry} {n : Nat} {name : Str} {expr : Bool} {v : Value} {Q : Value → Shared → Prop}
    (X : K.In s.heap) (I : PySem.W.InstAt s.heap x ox C (some (dictOf es n))) (hg : plainGet K C name = true) (hh : hasDictIn K C = true) (ha : findIn K (.ref C) name = some none)
    (hl : getL name es = some (some v)) (hv : handedIn v = true) (h : Q v { s with toks := s.toks + 1 }) : wpAny (model prog w) A (getAttr (.ref x) name expr) Q E s :=
  get_value X I (plainGet_of hg).1 (findObj_own hh ha rfl hl) hv h


/-! the whole heap as the ledger: makes every rule that writes through a ledger a rule over any heap -/
def ledger (h : Heap) (L d : Addr) : List (Addr × Obj) := (List.range h.objs.size).filterMap fun a => if a = L ∨ a = d then none else (h.get? a).map fun o => (a, o)

end
end Att

namespace L2
open PySem PySem.Spec PyProof.Rows

theorem vals_ints : ∀ {vs : List Value} {ns : List Int}, IntsAre vs ns → Vals (ns.map V.int) vs
  | _, _, .nil => .nil
  | _, _, .cons n t h => .cons ⟨t, rfl⟩ (vals_ints h)


end L2

namespace L2
open PySem PySem.Spec PyProof.Rows


end L2



/-! SHORT WORDS over the layer: a def of the text, its body, what a loop and a test want. -/
namespace L2
open PySem PySem.Spec PyProof.Rows

/-! ### the text by places -/
def defArgs (s : Stmt) : Arguments := match s with
  | .FunctionDef _ a _ _ _ _ _ _ _ _ => a
  | _ => { posonlyargs := [], args := [], vararg := none, kwonlyargs := [], kw_defaults := [], kwarg := none, defaults := [] }
def defBody (s : Stmt) : List Stmt := match s with
  | .FunctionDef _ _ b _ _ _ _ _ _ _ => b
  | _ => []
def defScope (s : Stmt) : Scope := match s with
  | .FunctionDef _ _ _ _ _ _ sc _ _ _ => sc
  | _ => { kind := .function, names := [], isGenerator := false, isCoroutine := false }

/-! ### no exception leaves a def -/
abbrev CX0 : CXT := fun _ _ _ _ _ _ => False
abbrev E0 : XK := fun _ _ _ => False
theorem pass0 {X : Cx} : Passes CX0 X E0 := fun _ _ _ _ _ _ _ h => h.elim

/-! ### a def (or method) of the text as it stands behind the top -/
structure Fun (K : PySem.W.Frag) (x qual : Str) (st : Stmt) (f : Addr) (fd : FuncData) : Prop where
  ex : ∃ (oc : Value) (od : Option Addr) (kV doc pm : Value) (an : Option Addr) (cdv ct : Value) (osl : Array (Option Value)),
    fd = PySem.W.fnOf x qual (defArgs st) (defBody st) (defScope st) .none kV doc pm an cdv ct ∧ K.lookup f = some ⟨oc, od, .func fd, osl⟩ ∧ PySem.W.codeIn K cdv qual = true
  kp : PySem.W.keepIn K (.ref f) = true
section
variable {P : Program} {w : World} {K : PySem.W.Frag} {mg : Str → Option Value} {base : Heap}
/-- THE RULE for a def: its body as a term of rules, and the reading of that term -/
theorem Fun.ok {x qual : Str} {st : Stmt} {f : Addr} {fd : FuncData} {N ps : List Str} {k : Nat} {sp : Sp} (F : Fun K x qual st f fd) (S : FnScope N ps (defScope st)) (len : ∀ vs H Q E, sp vs H Q E → vs.length = ps.length)
    (hbody : ∀ (cdv : Value) (A : Around) (outer : List Env) (s : Shared) (H : Hp) (vs : List V) (Q : VK) (E : XK), Room k (A.deeper (envOfC qual (defScope st) s.heap.objs.size f cdv)) → sp vs H Q E →
      ∃ t, PSs (cxOf CX0 P w K mg base N qual (defScope st) f cdv A outer s H E).nox (defBody st) t ∧ t { nx := fun _ H' => Q .non H', rt := Q } (start N vs) H) : FnOk P w K mg base CX0 (k + 1) f fd ps sp := by
  obtain ⟨oc, od, kV, doc, pm, an, cdv, ct, osl, rfl, lk, hcd⟩ := F.ex
  refine fn_of lk hcd S len fun A outer s H vs Q E hr hsp => ?_
  obtain ⟨t, h, q⟩ := hbody cdv A outer s H vs Q E hr hsp
  exact ⟨t, h.nox, q⟩
/-- how its arguments bind (no defaults): h is «fun _ _ _ _ _ _ us hl => match us, hl with | [_, _], _ => rfl», one _ a parameter -/
theorem Fun.binds {x qual : Str} {st : Stmt} {f : Addr} {fd : FuncData} {ps : List Str} (F : Fun K x qual st f fd)
    (h : ∀ (kV doc pm : Value) (an : Option Addr) (cdv ct : Value) (us : List Value), us.length = ps.length → bindArgs (PySem.W.fnOf x qual (defArgs st) (defBody st) (defScope st) .none kV doc pm an cdv ct) ⟨us, []⟩ = pure (ps.zip us)) : Binds K fd ps [] := by
  obtain ⟨oc, od, kV, doc, pm, an, cdv, ct, osl, rfl, lk, hcd⟩ := F.ex
  exact .all (h kV doc pm an cdv ct)
theorem fun_mk {x qual : Str} {st : Stmt} {f : Addr} {oc : Value} {od an : Option Addr} {osl : Array (Option Value)} {kV doc pm cdv ct : Value} (l : K.lookup f = some ⟨oc, od, .func (PySem.W.fnOf x qual (defArgs st) (defBody st) (defScope st) .none kV doc pm an cdv ct), osl⟩)
    (c : PySem.W.codeIn K cdv qual = true) (k : PySem.W.keepIn K (.ref f) = true) : Fun K x qual st f (PySem.W.fnOf x qual (defArgs st) (defBody st) (defScope st) .none kV doc pm an cdv ct) := ⟨⟨oc, od, kV, doc, pm, an, cdv, ct, osl, rfl, l, c⟩, k⟩
end
theorem hu_of {A : Around} {k : Nat} (hr : Room k A) : A.units + 1 < cLine := Nat.lt_of_le_of_lt (Nat.add_le_add_left (by decide : 1 ≤ 64) _) hr.units

/-! ### expressions in short: the name that stands in the i-th slot -/
section
variable {X : Cx}
theorem pv (i : Nat) {x : Str} {pos : Pos} (hN : X.N[i]? = some x := by rfl) (hv : Vis X.env.scope x := by first | exact Or.inl rfl | exact Or.inr (Or.inl rfl) | exact Or.inr (Or.inr rfl)) (hd : (x == ("__debug__" : Str)) = false := by decide)
    (hcd : (x == ("__classdict__" : Str)) = false := by decide) : PE X (.Name x pos) (tVar i) := pe_var hN hv hd hcd
end

/-! ### tests -/
theorem iteF {A B : Prop} (h : B) : if false = true then A else B := by
  rw [if_neg Bool.false_ne_true]
  exact h
theorem iteT {A B : Prop} (h : A) : if true = true then A else B := by
  rw [if_pos rfl]
  exact h

/-! ### heaps -/
/-- all that was tracked is as it was -/
def Same (H H' : Hp) : Prop := ∀ b o, H b = some o → H' b = some o
theorem Same.refl (H : Hp) : Same H H := fun _ _ h => h
theorem Same.trans {H H1 H2 : Hp} (a : Same H H1) (b : Same H1 H2) : Same H H2 := fun c o h => b c o (a c o h)
theorem Same.free {H H' : Hp} (e : Same H H') {l : Addr} (h : H' l = Option.none) : H l = Option.none := by
  cases q : H l with
  | none => rfl
  | some o =>
    rw [e l o q] at h
    cases h
theorem Same.seq {K : PySem.W.Frag} {H H' : Hp} {a : Addr} {xs : List V} (e : Same H H') (h : SqL K H a xs) : SqL K H' a xs := by
  rcases h with (h | ⟨o, h⟩) | h
  · exact .inl (.inl (e _ _ h))
  · exact .inl (.inr ⟨o, e _ _ h⟩)
  · exact .inr h

/-! ### a dict's pairs: keys that differ -/
section
variable {κ : Type} [DecidableEq κ]
end
end L2

set_option maxHeartbeats 4000000
/-! terms, their size, the paths of their steps: plain mathematics -/
namespace NC

/-- a term, over any kind of words -/
inductive T (W : Type) where
  | name (w : W)
  | place (n : Nat)
  | form (b : T W)
  | call (a b : T W)

variable {W : Type}

/-- how many parts -/
def T.size : T W → Nat
  | .name _ => 1
  | .place _ => 1
  | .form b => b.size + 1
  | .call a b => a.size + b.size + 1
/-- how deep -/
def T.deep : T W → Nat
  | .name _ => 1
  | .place _ => 1
  | .form b => b.deep + 1
  | .call a b => max a.deep b.deep + 1
theorem T.deep_le : ∀ t : T W, t.deep ≤ t.size
  | .name _ => Nat.le_refl _
  | .place _ => Nat.le_refl _
  | .form b => Nat.succ_le_succ b.deep_le
  | .call a b => by
    have h1 := a.deep_le
    have h2 := b.deep_le
    simp only [T.deep, T.size]
    omega
theorem T.size_pos : ∀ t : T W, 1 ≤ t.size
  | .name _ => Nat.le_refl _
  | .place _ => Nat.le_refl _
  | .form b => by simp only [T.size]; omega
  | .call a b => by simp only [T.size]; omega

def T.isForm : T W → Bool
  | .form _ => true
  | _ => false
/-- the paths of the calls of forms, a call ahead of those in it -/
def T.spots : T W → List (List Int)
  | .name _ => []
  | .place _ => []
  | .form b => b.spots.map (0 :: ·)
  | .call a b => (if a.isForm then [[]] else []) ++ (a.spots.map (0 :: ·) ++ b.spots.map (1 :: ·))

/-- behind a path -/
def under (p : List Int) (t : T W) : List (List Int) := t.spots.map (p ++ ·)


/-! ### the order of paths -/
/-- Python's order of two lists of whole numbers -/
def lex : List Int → List Int → Bool
  | [], [] => false
  | [], _ :: _ => true
  | _ :: _, [] => false
  | x :: xs, y :: ys => if x = y then lex xs ys else decide (x < y)




end NC
/-! raising, filling: over the parts of a term, and as the program does it with a pile -/
namespace NC
variable {W : Type}
/-- each part with the forms round it -/
def T.parts : Nat → T W → List (T W × Nat)
  | k, .name w => [(.name w, k)]
  | k, .place n => [(.place n, k)]
  | k, .form b => (.form b, k) :: b.parts (k + 1)
  | k, .call a b => (.call a b, k) :: (a.parts k ++ b.parts k)
/-- the same, the other one first -/
def T.lparts : Nat → T W → List (T W × Nat)
  | k, .name w => [(.name w, k)]
  | k, .place n => [(.place n, k)]
  | k, .form b => (.form b, k) :: b.lparts (k + 1)
  | k, .call a b => (.call a b, k) :: (b.lparts k ++ a.lparts k)
def T.rebuild (g : T W → Nat → T W) : Nat → T W → T W
  | k, .name w => g (.name w) k
  | k, .place n => g (.place n) k
  | k, .form b => .form (b.rebuild g (k + 1))
  | k, .call a b => .call (a.rebuild g k) (b.rebuild g k)
section
variable {g : T W → Nat → T W}
end
/-- a leaf raised; a leaf filled -/
def liftG (by_ : Nat) : T W → Nat → T W
  | .place n, k => if k ≤ n then .place (n + by_) else .place n
  | t, _ => t
def T.lift (by_ : Nat) (t : T W) : T W := t.rebuild (liftG by_) 0
def fillG (u : T W) : T W → Nat → T W
  | .place n, k => if n < k then .place n else if n = k then u.lift k else .place (n - 1)
  | t, _ => t
def T.fill (t u : T W) : T W := t.rebuild (fillG u) 0
end NC
/-! ### list < list, of whole numbers -/
namespace NC
open PySem PyProof.Rows PySem.SeqAt
open PySem.AutoSeq1 (wpAny_loadPart')
open PySem.MeetsSeq PySem.MeetsSeq2 PySem.MeetsSeq3
end NC
/-! ### the library's sort, by questions: it puts in order (paths, by lex) -/
namespace NC
open PySem PySem.W PyProof.Rows
section
variable {α β : Type} {n : Nat} {lt : Nat → Nat → Bool}
/-- the tree asks places below n alone, and with these answers comes to R -/
def KOk (n : Nat) (lt : Nat → Nat → Bool) {α : Type} : KasT α → (α → Prop) → Prop
  | .ret a, R => R a
  | .ask i j k, R => i < n ∧ j < n ∧ KOk n lt (k (lt i j)) R
theorem KOk.mono {R R' : α → Prop} (m : ∀ a, R a → R' a) : ∀ {t : KasT α}, KOk n lt t R → KOk n lt t R'
  | .ret a, h => m a h
  | .ask _ _ k, h => ⟨h.1, h.2.1, KOk.mono m (t := k _) h.2.2⟩
theorem KOk.bind {f : α → KasT β} {R : β → Prop} : ∀ {t : KasT α}, KOk n lt t (fun a => KOk n lt (f a) R) → KOk n lt (t.bind f) R
  | .ret _, h => h
  | .ask _ _ k, h => ⟨h.1, h.2.1, KOk.bind (t := k _) h.2.2⟩
end
section
variable (key : Nat → List Int)
variable {key}
variable {n : Nat} {p : Array Nat}
/-- a turning about of 0 .. n - 1 -/
structure Pm (n : Nat) (p : Array Nat) : Prop where
  perm : p.Perm (List.toArray (List.range n))
theorem Pm.size (h : Pm n p) : p.size = n := by rw [h.perm.size_eq]; simp
theorem Pm.lt (h : Pm n p) {i : Nat} (hi : i < n) : p.getD i 0 < n := by
  have hi' : i < p.size := by rw [h.size]; exact hi
  have e : p.getD i 0 = p[i] := by simp [Array.getD, hi']
  rw [e]
  have m : p[i] ∈ (List.range n) := (Array.perm_iff_toList_perm.mp h.perm).mem_iff.mp (by simp)
  exact List.mem_range.mp m

end
end NC
/-! ### rules of our own over the hand layer: heaps that keep, deep ==, sorted lists of paths, isinstance -/
namespace NC
open PySem PySem.Spec PyProof.Rows L2

/-! #### what a step keeps -/
/-- all that is tracked stays, but at L -/
def Keep (L : List Addr) (H H' : Hp) : Prop := ∀ b o, b ∉ L → H b = some o → H' b = some o
def Tups (H H' : Hp) : Prop := ∀ b xs, H b = some (.tup xs) → H' b = some (.tup xs)
section
variable {L L' : List Addr} {H H1 H2 H' : Hp} {p l : Addr} {o : HO} {xs ys : List V}
theorem Keep.refl (L : List Addr) (H : Hp) : Keep L H H := fun _ _ _ h => h
theorem Keep.trans (a : Keep L H H1) (b : Keep L H1 H2) : Keep L H H2 := fun c o n h => b c o n (a c o n h)
theorem Keep.mono (a : Keep L H H1) (h : ∀ x ∈ L, x ∈ L') : Keep L' H H1 := fun c o n q => a c o (fun z => n (h c z)) q
theorem Keep.of_same (a : Same H H1) : Keep L H H1 := fun c o _ q => a c o q
theorem same_new (hp : H p = none) : Same H (upd H p o) := fun b u h => by rw [upd_ne (ne_of_none h hp)]; exact h
theorem keep_set (h : l ∈ L) : Keep L H (upd H l o) := fun b u n q => by
  rw [upd_ne (fun z => n (by rw [z]; exact h))]; exact q
theorem Tups.refl (H : Hp) : Tups H H := fun _ _ h => h
theorem Tups.trans (a : Tups H H1) (b : Tups H1 H2) : Tups H H2 := fun c o h => b c o (a c o h)
theorem Tups.of_same (a : Same H H1) : Tups H H1 := fun c _ h => a c _ h
theorem Keep.tups (a : Keep L H H1) (h : ∀ x ∈ L, ∃ ys, H x = some (.lst ys)) : Tups H H1 := fun c ys q => a c _ (fun z => by
  obtain ⟨zs, e⟩ := h c z
  rw [e] at q; cases q) q
theorem Keep.tup1 (a : Keep [l] H H1) (h : H l = some (.lst xs)) : Tups H H1 := a.tups fun x hx => ⟨xs, by rw [List.mem_singleton.mp hx]; exact h⟩
theorem Keep.at (a : Keep [l] H H1) {b : Addr} {u : HO} (h : H b = some u) (n : b ≠ l) : H1 b = some u := a b u (by simpa using n) h
theorem Keep.sub (a : Keep [l] H H1) (h : l ∈ L) : Keep L H H1 := a.mono fun x hx => by rw [List.mem_singleton.mp hx]; exact h
theorem same_keep {H0 : Hp} (s : Same H0 H) (k : Keep L H H1) (n : ∀ x ∈ L, H0 x = none) : Same H0 H1 := fun b o h => k b o (fun z => by rw [n b z] at h; cases h) (s b o h)
theorem same_keep1 {H0 : Hp} (s : Same H0 H) (k : Keep [l] H H1) (n : H0 l = none) : Same H0 H1 := same_keep s k fun x hx => by rw [List.mem_singleton.mp hx]; exact n
end

/-! #### tests -/
theorem ifT {c A B : Prop} [Decidable c] (hc : c) (h : A) : if decide c = true then A else B := by rw [decide_eq_true hc, if_pos rfl]; exact h
theorem ifF {c A B : Prop} [Decidable c] (hc : ¬ c) (h : B) : if decide c = true then A else B := by rw [decide_eq_false hc, if_neg Bool.false_ne_true]; exact h
theorem ifNT {c A B : Prop} [Decidable c] (hc : ¬ c) (h : A) : if (!decide c) = true then A else B := by rw [decide_eq_false hc]; exact h
theorem ifNF {c A B : Prop} [Decidable c] (hc : c) (h : B) : if (!decide c) = true then A else B := by rw [decide_eq_true hc]; exact h
theorem ifD {c A B : Prop} [Decidable c] (h1 : c → A) (h2 : ¬ c → B) : if decide c = true then A else B := by
  by_cases h : c
  · exact ifT h (h1 h)
  · exact ifF h (h2 h)
theorem ifB {b : Bool} {A B : Prop} (h1 : b = true → A) (h2 : b = false → B) : if b = true then A else B := by
  cases b with
  | true => exact h1 rfl
  | false => exact h2 rfl
theorem at0 {α : Type} {a : α} {r : List α} : atI (a :: r) 0 = some a := atI_nat (j := 0) rfl
theorem at1 {α : Type} {a b : α} {r : List α} : atI (a :: b :: r) 1 = some b := atI_nat (j := 1) rfl
theorem at2 {α : Type} {a b c : α} {r : List α} : atI (a :: b :: c :: r) 2 = some c := atI_nat (j := 2) rfl
theorem small {n : Nat} (h : n ≤ 1000000) : n < sizeLine := by rw [sizeLine_eq]; omega
theorem small' {n : Nat} (h : n ≤ 1000000) : n ≤ sizeLine := Nat.le_of_lt (small h)

/-! #### terms in the heap -/
abbrev Tm := T Str
inductive TermAt (H : Hp) : V → Tm → Prop where
  | name {a : Addr} {w : Str} (h : H a = some (.tup [.str "name", .str w])) : TermAt H (.ref a) (.name w)
  | place {a : Addr} {n : Nat} (h : H a = some (.tup [.str "place", .int n])) : TermAt H (.ref a) (.place n)
  | form {a : Addr} {v : V} {b : Tm} (h : H a = some (.tup [.str "form", v])) (hb : TermAt H v b) : TermAt H (.ref a) (.form b)
  | call {a : Addr} {v u : V} {x y : Tm} (h : H a = some (.tup [.str "call", v, u])) (hx : TermAt H v x) (hy : TermAt H u y) : TermAt H (.ref a) (.call x y)
theorem TermAt.mono {H H' : Hp} {v : V} {t : Tm} (h : TermAt H v t) (k : Tups H H') : TermAt H' v t := by
  induction h with
  | name h => exact .name (k _ _ h)
  | place h => exact .place (k _ _ h)
  | form h _ ih => exact .form (k _ _ h) ih
  | call h _ _ i1 i2 => exact .call (k _ _ h) i1 i2
theorem TermAt.same {H H' : Hp} {v : V} {t : Tm} (h : TermAt H v t) (k : Same H H') : TermAt H' v t := h.mono (.of_same k)
/-- a term's tag -/
def tag : Tm → Str
  | .name _ => "name"
  | .place _ => "place"
  | .form _ => "form"
  | .call _ _ => "call"
theorem TermAt.tup {H : Hp} {v : V} {t : Tm} (h : TermAt H v t) : ∃ a x r, v = .ref a ∧ H a = some (.tup (.str (tag t) :: x :: r)) := by
  cases h with
  | name h => exact ⟨_, _, _, rfl, h⟩
  | place h => exact ⟨_, _, _, rfl, h⟩
  | form h _ => exact ⟨_, _, _, rfl, h⟩
  | call h _ _ => exact ⟨_, _, _, rfl, h⟩
theorem n_nf : ¬ (V.str "name" = V.str "form") := by decide +kernel
theorem n_nc : ¬ (V.str "name" = V.str "call") := by decide +kernel
theorem n_np : ¬ (V.str "name" = V.str "place") := by decide +kernel
theorem n_pf : ¬ (V.str "place" = V.str "form") := by decide +kernel
theorem n_pc : ¬ (V.str "place" = V.str "call") := by decide +kernel
theorem n_pn : ¬ (V.str "place" = V.str "name") := by decide +kernel
theorem n_fc : ¬ (V.str "form" = V.str "call") := by decide +kernel
theorem n_fn : ¬ (V.str "form" = V.str "name") := by decide +kernel
theorem n_fp : ¬ (V.str "form" = V.str "place") := by decide +kernel
theorem n_cf : ¬ (V.str "call" = V.str "form") := by decide +kernel
theorem n_cn : ¬ (V.str "call" = V.str "name") := by decide +kernel
theorem n_cp : ¬ (V.str "call" = V.str "place") := by decide +kernel

/-! #### lists of things -/
theorem paired_snoc_inv {α β : Type} {F : α → β → Prop} : ∀ {xs : List α} {ys : List β} {y : β}, Paired F xs (ys ++ [y]) → ∃ xs' x, xs = xs' ++ [x] ∧ Paired F xs' ys ∧ F x y
  | [], [], _, h => nomatch h
  | [], _ :: _, _, h => nomatch h
  | x :: xs, [], y, .cons r t => by
    cases t
    exact ⟨[], x, rfl, .nil, r⟩
  | x :: xs, z :: ys, y, .cons r t => by
    obtain ⟨xs', x', e, p, q⟩ := paired_snoc_inv (xs := xs) (ys := ys) t
    exact ⟨x :: xs', x', by rw [e]; rfl, .cons r p, q⟩
theorem paired_snoc {α β : Type} {F : α → β → Prop} {x : α} {y : β} (q : F x y) : ∀ {xs : List α} {ys : List β}, Paired F xs ys → Paired F (xs ++ [x]) (ys ++ [y])
  | _, _, .nil => .cons q .nil
  | _, _, .cons r t => .cons r (paired_snoc q t)
theorem snoc_of {α : Type} {xs : List α} (h : xs ≠ []) : ∃ ys y, xs = ys ++ [y] := ⟨xs.dropLast, xs.getLast h, (List.dropLast_concat_getLast h).symm⟩
theorem paired_nil {α β : Type} {F : α → β → Prop} {xs : List α} (p : Paired F xs ([] : List β)) : xs = [] := by cases p; rfl
theorem paired_get {α β : Type} {F : α → β → Prop} : ∀ {xs : List α} {ys : List β} {i : Nat} {x : α}, Paired F xs ys → xs[i]? = some x → ∃ y, ys[i]? = some y ∧ F x y
  | _, _, _, _, .nil, e => by simp at e
  | _, _, 0, _, .cons r _, e => by simp at e; subst e; exact ⟨_, rfl, r⟩
  | _, _, i + 1, x, .cons _ t, e => by
    obtain ⟨u, h1, h2⟩ := paired_get (i := i) (x := x) t (by simpa using e)
    exact ⟨u, by simpa using h1, h2⟩
theorem paired_imp {α β : Type} {F G : α → β → Prop} (f : ∀ a b, F a b → G a b) : ∀ {xs : List α} {ys : List β}, Paired F xs ys → Paired G xs ys
  | _, _, .nil => .nil
  | _, _, .cons r t => .cons (f _ _ r) (paired_imp f t)

/-! #### argument lists without a star: the side conditions by the expressions' heads alone -/
def plainE : Expr → Bool
  | .Starred .. => false
  | _ => true
theorem star_plain {e : Expr} {es : List Expr} {env : Env} (h : plainE e = true) : starEach (e :: es) env = (false, eval e env) :: starEach es env := by
  cases e <;> first | rfl | exact (Bool.false_ne_true h).elim
theorem star_any {pos : Pos} {env : Env} : ∀ {es : List Expr}, es.all plainE = true → (backTo pos (starEach es env)).any (·.1) = false
  | [], _ => rfl
  | e :: es, h => by
    rw [List.all_cons, Bool.and_eq_true] at h
    rw [star_plain h.1]
    show (false || (backTo pos (starEach es env)).any (·.1)) = false
    rw [star_any h.2]
    rfl
theorem star_all {pos : Pos} {env : Env} : ∀ {es : List Expr}, es.all plainE = true → (backTo pos (starEach es env)).all (fun x => !x.1) = true
  | [], _ => rfl
  | e :: es, h => by
    rw [List.all_cons, Bool.and_eq_true] at h
    rw [star_plain h.1]
    show (true && (backTo pos (starEach es env)).all (fun x => !x.1)) = true
    rw [star_all h.2]
    rfl
theorem pa_c {X : Cx} {e : Expr} {es : List Expr} {te : TE} {t : TA} (ha : PE X e te) (hr : PA X es t) (h : plainE e = true := by rfl) : PA X (e :: es) (tCons te t) := pa_cons ha hr (star_plain h)
section
variable {X : Cx} {x : Str} {p pos : Pos} {e : Expr} {es : List Expr} {t : TA} {id T : String} {r : List V → Hp → VK → Prop}
theorem pCB (hc : CallR X (.builtin id) r) (hg : Gl X x) (hm : X.mg x = none) (hv : bootBuiltins x = some (.builtin id)) (ha : PA X (e :: es) t) (h : (e :: es).all plainE = true := by rfl) (hn : x ≠ "__name__" := by decide) (hdb : (x == ("__debug__" : Str)) = false := by decide) :
    PE X (.Call (.Name x p) (e :: es) [] pos) (tCB r t) := by
  rw [List.all_cons, Bool.and_eq_true] at h
  exact pe_callB hc hg hm hv ha hn hdb (star_plain h.1) (star_any h.2)
theorem pCT (hc : CallR X (.type T) r) (hg : Gl X x) (hm : X.mg x = none) (hv : bootBuiltins x = some (.type T)) (ha : PA X (e :: es) t) (h : (e :: es).all plainE = true := by rfl) (hn : x ≠ "__name__" := by decide) (hdb : (x == ("__debug__" : Str)) = false := by decide) :
    PE X (.Call (.Name x p) (e :: es) [] pos) (tCB r t) := by
  rw [List.all_cons, Bool.and_eq_true] at h
  exact pe_callTy hc hg hm hv ha hn hdb (star_plain h.1) (star_any h.2)
end

/-! #### calls, methods, displays: the heap behind them is a letter -/
/-- a def of the text, ready to be called by its name -/
def GF (P : Program) (w : World) (K : PySem.W.Frag) (mg : Str → Option Value) (base : Heap) (CX : CXT) (k : Nat) (x : Str) (ps : List Str) (sp : Sp) : Prop :=
  ∃ f fd, FnOk P w K mg base CX k f fd ps sp ∧ mg x = some (.ref f) ∧ PySem.W.keepIn K (.ref f) = true ∧ Binds K fd ps []
section
variable {X : Cx} {CX : CXT} {k : Nat} {ps : List Str} {sp : Sp} {E : XK} {x : Str} {p pos : Pos} {e : Expr} {es : List Expr} {t : TA}
theorem pe_gf (G : GF X.prog X.w X.K X.mg X.base CX k x ps sp) (hr : Room k X.A) (hg : Gl X x) (hx : Passes CX X E) (ha : PA X (e :: es) t) (h : (e :: es).all plainE = true := by rfl) (hdb : (x == ("__debug__" : Str)) = false := by decide) :
    PE X (.Call (.Name x p) (e :: es) [] pos) (tCall sp [] E t) := by
  obtain ⟨f, fd, F, hm, hk, hb⟩ := G
  rw [List.all_cons, Bool.and_eq_true] at h
  exact pe_call F hr hg hm hk hb .nil hx ha hdb (star_plain h.1) (star_any h.2)
end
section
variable {X : Cx}
theorem OpR.imp {f : Value → Value → Sem Value} {r r' : R2} (h : OpR X f r) (m : ∀ x y H Q, r' x y H Q → r x y H Q) : OpR X f r' := fun pins s σ H x y v u Q I rx ry q => h pins s σ H x y v u Q I rx ry (m _ _ _ _ q)
theorem CallR.imp {f : Value} {r r' : List V → Hp → VK → Prop} (h : CallR X f r) (m : ∀ xs H Q, r' xs H Q → r xs H Q) : CallR X f r' := fun pins s σ H xs us Q I rx q => h pins s σ H xs us Q I rx (m _ _ _ q)
theorem MtM.imp {id : String} {r r' : V → List V → Hp → VK → Prop} (h : MtM X id r) (m : ∀ x xs H Q, r' x xs H Q → r x xs H Q) : MtM X id r' := fun pins s σ H x xs v us Q I rx rs q => h pins s σ H x xs v us Q I rx rs (m _ _ _ _ q)
inductive RAppI (x : V) (vs : List V) (H : Hp) (Q : VK) : Prop where
  | mk (l : _) (xs : _) (y : _) (c1 : x = .ref l) (c2 : vs = [y]) (c3 : H l = some (.lst xs)) (c4 : xs.length < sizeLine) (c5 : ∀ H', Keep [l] H H' → H' l = some (.lst (xs ++ [y])) → Q .non H')
def rApp : V → List V → Hp → VK → Prop := fun x vs H Q => RAppI x vs H Q
theorem mt_app : MtM X "list.append" rApp := MtM.imp mt_append fun _ _ _ _ ⟨l, xs, y, e1, e2, h1, h2, q⟩ => ⟨l, xs, y, e1, e2, h1, h2, q _ (keep_set (by simp)) upd_same⟩
inductive RPpI (x : V) (vs : List V) (H : Hp) (Q : VK) : Prop where
  | mk (l : _) (xs : _) (y : _) (c1 : x = .ref l) (c2 : vs = []) (c3 : H l = some (.lst (xs ++ [y]))) (c4 : ∀ H', Keep [l] H H' → H' l = some (.lst xs) → Q y H')
def rPp : V → List V → Hp → VK → Prop := fun x vs H Q => RPpI x vs H Q
theorem mt_pp : MtM X "list.pop" rPp := MtM.imp mt_pop fun _ _ _ _ ⟨l, xs, y, e1, e2, h1, q⟩ => ⟨l, _, y, e1, e2, h1, by simp, by
  have e : (xs ++ [y]).dropLast = xs := by simp
  rw [e]
  exact q _ (keep_set (by simp)) upd_same⟩
variable {o e : Expr} {to te : TE} {apos cpos : Pos}
/-- xs.append(e) -/
def tApp (K : PySem.W.Frag) (to te : TE) : TE := tBM K "list" rApp to (tCons te tNil)
theorem pApp (ho : PE X o to) (he : PE X e te) (h : plainE e = true := by rfl) (hbase : attributeBase o "append" X.env (eval o X.env) = eval o X.env := by rfl) (hline : (apos.endLine == cpos.line) = true := by rfl) :
    PE X (.Call (.Attribute o "append" apos) [e] [] cpos) (tApp X.K to te) :=
  pe_bm PySem.F.plainAttrs_list PySem.F.slot_list_append PySem.F.type_list_append mt_app ho (pa_c he pa_nil h) hbase (by
    rw [star_all (es := [e]) (by simp [h])]
    rfl) hline (star_plain h) rfl
/-- xs.pop() -/
def tPp (K : PySem.W.Frag) (to : TE) : TE := tBM0 K "list" rPp to
theorem pPop (ho : PE X o to) (hbase : attributeBase o "pop" X.env (eval o X.env) = eval o X.env := by rfl) (hline : (apos.endLine == cpos.line) = true := by rfl) : PE X (.Call (.Attribute o "pop" apos) [] [] cpos) (tPp X.K to) :=
  pe_bm0 PySem.F.plainAttrs_list PySem.F.slot_list_pop PySem.F.type_list_pop mt_pp ho hbase hline
variable {es : List Expr} {t : TA} {pos : Pos}
inductive TTpI (xs : List V) (H1 : Hp) (Q : VK) : Prop where
  | mk (c1 : xs.length ≤ sizeLine) (c2 : ∀ p H', H1 p = none → Same H1 H' → H' p = some (.tup xs) → Q (.ref p) H')
def tTp (t : TA) : TE := fun σ H Q => t σ H fun xs H1 => TTpI xs H1 Q
inductive TLsI (xs : List V) (H1 : Hp) (Q : VK) : Prop where
  | mk (c1 : xs.length ≤ sizeLine) (c2 : ∀ p H', H1 p = none → Same H1 H' → H' p = some (.lst xs) → Q (.ref p) H')
def tLs (t : TA) : TE := fun σ H Q => t σ H fun xs H1 => TLsI xs H1 Q
theorem pTup {x1} (h : PA X es t) : PE X (.Tuple es x1 pos) (tTp t) := by
  intro pins s σ H Q I hq
  refine wpAny_Tuple_spliced (thn (h pos pins s σ H _ I hq) fun us s1 ⟨xs, H1, I1, r, z, q⟩ => ⟨by rw [← r.length]; exact z, ?_⟩)
  have hf : H1 s1.heap.objs.size = none := I1.hok.fresh (Nat.le_refl _)
  exact ⟨.ref s1.heap.objs.size, upd H1 s1.heap.objs.size (.tup xs), I1.laid (t' := s1.toks) (fun b u e => Heap.get?_push_of_some _ e) (Nat.le_refl _) ⟨z, us, r, ⟨_, Heap.get?_push_size _ rfl, rfl, _, rfl⟩⟩, rfl, q _ _ hf (same_new hf) upd_same⟩
theorem pLst (h : PA X es t) : PE X (.List es pos) (tLs t) := by
  intro pins s σ H Q I hq
  refine wpAny_List_spliced (thn (h pos pins s σ H _ I hq) fun us s1 ⟨xs, H1, I1, r, z, q⟩ => ⟨by rw [← r.length]; exact z, ?_⟩)
  have hf : H1 s1.heap.objs.size = none := I1.hok.fresh (Nat.le_refl _)
  exact ⟨.ref s1.heap.objs.size, upd H1 s1.heap.objs.size (.lst xs), I1.laid (t' := s1.toks) (fun b u e => Heap.get?_push_of_some _ e) (Nat.le_refl _) ⟨z, us, 0, r, Heap.get?_push_size _ rfl⟩, rfl, q _ _ hf (same_new hf) upd_same⟩
/-- xs + ys -/
inductive RCtI (x : V) (y : V) (H : Hp) (Q : VK) : Prop where
  | mk (l : _) (b : _) (xs : _) (zs : _) (c1 : x = .ref l) (c2 : y = .ref b) (c3 : H l = some (.lst xs)) (c4 : H b = some (.lst zs)) (c5 : xs.length + zs.length ≤ sizeLine) (c6 : ∀ p H', H p = none → Same H H' → H' p = some (.lst (xs ++ zs)) → Q (.ref p) H')
def rCt : R2 := fun x y H Q => RCtI x y H Q
theorem op_ct : OpR X (binaryOp .Add) rCt := OpR.imp op_cat fun _ _ _ _ ⟨l, b, xs, zs, e1, e2, h1, h2, h3, q⟩ => ⟨l, b, xs, zs, e1, e2, h1, h2, h3, fun p hp => q p _ hp (same_new hp) upd_same⟩
/-- xs[lo:hi], a list -/
inductive RSlI (K : PySem.W.Frag) (x : V) (lo : Option Int) (hi : Option Int) (H : Hp) (Q : VK) : Prop where
  | mk (a : _) (xs : _) (c1 : x = .ref a) (c2 : SqL K H a xs) (c3 : ∀ p H', H p = none → Same H H' → H' p = some (.lst (cutV xs lo hi)) → Q (.ref p) H')
def rSl (K : PySem.W.Frag) : V → Option Int → Option Int → Hp → VK → Prop := fun x lo hi H Q => RSlI K x lo hi H Q
theorem sl_ls : SlR X (rSl X.K) := fun pins s σ H x v vl vu lo hi sl Q I rx h1 h2 h3 ⟨a, xs, e, hx, q⟩ => sl_list pins s σ H x v vl vu lo hi sl Q I rx h1 h2 h3 ⟨a, xs, e, hx, fun p hp => q p _ hp (same_new hp) upd_same⟩
end

/-! #### xs == [], xs != [] -/
section
variable {X : Cx}
inductive RNilI (K : PySem.W.Frag) (ne : Bool) (x : V) (y : V) (H : Hp) (Q : VK) : Prop where
  | mk (a : _) (b : _) (xs : _) (c1 : x = .ref a) (c2 : y = .ref b) (c3 : SqL K H a xs) (c4 : SqL K H b []) (c5 : Q (.bl (if ne then !xs.isEmpty else xs.isEmpty)) H)
def rNil (K : PySem.W.Frag) (ne : Bool) : R2 := fun x y H Q => RNilI K ne x y H Q
theorem op_eqNil (hu : X.A.units < cLine) : OpR X (compareOp .Eq) (rNil X.K false) := by
  intro pins s σ H x y v u Q I rx ry h
  obtain ⟨a, b, xs, rfl, rfl, h1, h2, q⟩ := h
  cases rx; cases ry
  obtain ⟨its, r, pl, hz⟩ := I.list h1
  obtain ⟨its2, r2, pl2, _⟩ := I.list h2
  cases r2
  cases r with
  | nil => exact SeqAt.eq_listAt (e := fun _ => true) pl.isList pl2.isList rfl hu (fun j j1 => absurd j1 (by simp)) ⟨.bl true, H, I, rfl, q⟩
  | cons r1 rt => exact SeqAt.eq_list_lengthsAt pl.isList pl2.isList (by simp) hu ⟨.bl false, H, I, rfl, q⟩
theorem op_neNil (hu : X.A.units < cLine) : OpR X (compareOp .NotEq) (rNil X.K true) := by
  intro pins s σ H x y v u Q I rx ry h
  obtain ⟨a, b, xs, rfl, rfl, h1, h2, q⟩ := h
  cases rx; cases ry
  obtain ⟨its, r, pl, hz⟩ := I.list h1
  obtain ⟨its2, r2, pl2, _⟩ := I.list h2
  cases r2
  cases r with
  | nil => exact SeqAt.RcNeAt.lists (e := fun _ => true) pl.isList pl2.isList rfl hu (fun j j1 => absurd j1 (by simp)) X.prog X.w _ _ ⟨.bl false, H, I, rfl, q⟩
  | cons r1 rt => exact SeqAt.RcNeAt.lists_lengths pl.isList pl2.isList (by simp) hu X.prog X.w _ _ ⟨.bl true, H, I, rfl, q⟩
end

/-! #### data of ints, texts, tuples and lists, compared as a whole -/
inductive Dt where
  | int (i : Int)
  | str (x : Str)
  | tup (ds : List Dt)
  | lst (ds : List Dt)
mutual
def DAt (K : PySem.W.Frag) (H : Hp) : Dt → V → Prop
  | .int i, v => v = .int i
  | .str x, v => v = .str x
  | .tup ds, v => ∃ a xs, v = .ref a ∧ SqT K H a xs ∧ DsAt K H ds xs
  | .lst ds, v => ∃ a xs, v = .ref a ∧ SqL K H a xs ∧ DsAt K H ds xs
def DsAt (K : PySem.W.Frag) (H : Hp) : List Dt → List V → Prop
  | [], xs => xs = []
  | d :: ds, xs => ∃ x r, xs = x :: r ∧ DAt K H d x ∧ DsAt K H ds r
end
mutual
/-- deeper than n it is not -/
def Dt.Lim : Nat → Dt → Prop
  | _, .int _ => True
  | _, .str _ => True
  | 0, .tup _ => False
  | 0, .lst _ => False
  | n + 1, .tup ds => Dt.Lims n ds
  | n + 1, .lst ds => Dt.Lims n ds
def Dt.Lims : Nat → List Dt → Prop
  | _, [] => True
  | n, d :: ds => Dt.Lim n d ∧ Dt.Lims n ds
end
theorem DsAt.len {K : PySem.W.Frag} {H : Hp} : ∀ {ds : List Dt} {xs : List V}, DsAt K H ds xs → xs.length = ds.length
  | [], _, h => by
    have e : _ = [] := h
    rw [e]; rfl
  | d :: ds, _, h => by
    obtain ⟨x, r, e, _, h2⟩ := h
    rw [e, List.length_cons, List.length_cons, DsAt.len h2]
theorem DsAt.get {K : PySem.W.Frag} {H : Hp} : ∀ {ds : List Dt} {xs : List V} {j : Nat} {d : Dt}, DsAt K H ds xs → ds[j]? = some d → ∃ x, xs[j]? = some x ∧ DAt K H d x
  | [], _, _, _, _, e => by simp at e
  | d :: ds, _, 0, d', h, e => by
    obtain ⟨x, r, e1, h1, _⟩ := h
    simp at e
    subst e
    exact ⟨x, by rw [e1]; rfl, h1⟩
  | d :: ds, _, j + 1, d', h, e => by
    obtain ⟨x, r, e1, _, h2⟩ := h
    obtain ⟨y, e2, h3⟩ := DsAt.get (j := j) h2 (by simpa using e)
    exact ⟨y, by rw [e1]; simpa using e2, h3⟩
theorem Lims.get : ∀ {n : Nat} {ds : List Dt} {j : Nat} {d : Dt}, Dt.Lims n ds → ds[j]? = some d → Dt.Lim n d
  | _, [], _, _, _, e => by simp at e
  | _, d :: ds, 0, d', h, e => by
    simp at e
    subst e
    exact h.1
  | _, d :: ds, j + 1, d', h, e => Lims.get (j := j) h.2 (by simpa using e)
section
variable {X : Cx} {pins : List (Addr × Obj)} {σ : L2.St} {H : Hp} {s : Shared}
theorem not_both (I : Inv X pins σ H s) {a : Addr} {b c : List V} (q1 : SqL X.K H a b) (q2 : SqT X.K H a c) : False := by
  obtain ⟨_, _, pl, _⟩ := I.list q1
  obtain ⟨_, _, pt, _⟩ := I.tuple q2
  obtain ⟨o, n, h1, c, _⟩ := pl
  obtain ⟨o', h1', c', _⟩ := pt
  rw [h1] at h1'
  cases h1'
  rw [c] at c'
  injection c' with z
  exact absurd z (by decide)
theorem ds_inj {n : Nat} (h : ∀ {d e : Dt} {x : V}, Dt.Lim n d → DAt X.K H d x → DAt X.K H e x → d = e) : ∀ {ds es : List Dt} {xs : List V}, Dt.Lims n ds → DsAt X.K H ds xs → DsAt X.K H es xs → ds = es
  | [], [], _, _, _, _ => rfl
  | [], e :: es, _, _, h1, h2 => by
    have e1 : _ = [] := h1
    obtain ⟨x, r, e2, _⟩ := h2
    rw [e1] at e2; cases e2
  | d :: ds, [], _, _, h1, h2 => by
    have e1 : _ = [] := h2
    obtain ⟨x, r, e2, _⟩ := h1
    rw [e1] at e2; cases e2
  | d :: ds, e :: es, _, l, h1, h2 => by
    obtain ⟨x, r, e1, a1, b1⟩ := h1
    obtain ⟨x', r', e2, a2, b2⟩ := h2
    rw [e1] at e2
    cases e2
    rw [h l.1 a1 a2, ds_inj h l.2 b1 b2]
theorem d_inj (I : Inv X pins σ H s) : ∀ (n : Nat) {d e : Dt} {x : V}, Dt.Lim n d → DAt X.K H d x → DAt X.K H e x → d = e := by
  intro n
  induction n with
  | zero =>
    intro d e x l h1 h2
    cases d with
    | tup ds => exact l.elim
    | lst ds => exact l.elim
    | int i =>
      have e1 : x = _ := h1
      subst e1
      cases e with
      | int j => have e2 : V.int i = V.int j := h2; cases e2; rfl
      | str j => have e2 : V.int i = V.str j := h2; cases e2
      | tup es => obtain ⟨a, xs, e2, _⟩ := h2; cases e2
      | lst es => obtain ⟨a, xs, e2, _⟩ := h2; cases e2
    | str i =>
      have e1 : x = _ := h1
      subst e1
      cases e with
      | int j => have e2 : V.str i = V.int j := h2; cases e2
      | str j => have e2 : V.str i = V.str j := h2; cases e2; rfl
      | tup es => obtain ⟨a, xs, e2, _⟩ := h2; cases e2
      | lst es => obtain ⟨a, xs, e2, _⟩ := h2; cases e2
  | succ n ih =>
    intro d e x l h1 h2
    cases d with
    | int i =>
      have e1 : x = _ := h1
      subst e1
      cases e with
      | int j => have e2 : V.int i = V.int j := h2; cases e2; rfl
      | str j => have e2 : V.int i = V.str j := h2; cases e2
      | tup es => obtain ⟨a, xs, e2, _⟩ := h2; cases e2
      | lst es => obtain ⟨a, xs, e2, _⟩ := h2; cases e2
    | str i =>
      have e1 : x = _ := h1
      subst e1
      cases e with
      | int j => have e2 : V.str i = V.int j := h2; cases e2
      | str j => have e2 : V.str i = V.str j := h2; cases e2; rfl
      | tup es => obtain ⟨a, xs, e2, _⟩ := h2; cases e2
      | lst es => obtain ⟨a, xs, e2, _⟩ := h2; cases e2
    | tup ds =>
      obtain ⟨a, xs, rfl, q1, r1⟩ := h1
      cases e with
      | int j => have e2 : V.ref a = V.int j := h2; cases e2
      | str j => have e2 : V.ref a = V.str j := h2; cases e2
      | tup es =>
        obtain ⟨a', ys, e2, q2, r2⟩ := h2
        cases e2
        cases I.tuple_inj q1 q2
        rw [ds_inj (n := n) (fun l a b => ih l a b) l r1 r2]
      | lst es =>
        obtain ⟨a', ys, e2, q2, r2⟩ := h2
        cases e2
        exact (not_both I q2 q1).elim
    | lst ds =>
      obtain ⟨a, xs, rfl, q1, r1⟩ := h1
      cases e with
      | int j => have e2 : V.ref a = V.int j := h2; cases e2
      | str j => have e2 : V.ref a = V.str j := h2; cases e2
      | lst es =>
        obtain ⟨a', ys, e2, q2, r2⟩ := h2
        cases e2
        cases I.list_inj q1 q2
        rw [ds_inj (n := n) (fun l a b => ih l a b) l r1 r2]
      | tup es =>
        obtain ⟨a', ys, e2, q2, r2⟩ := h2
        cases e2
        exact (not_both I q1 q2).elim

theorem tupAt (I : Inv X pins σ H s) {a : Addr} {xs : List V} (q : SqT X.K H a xs) : ∃ its : List Value, Vals xs its ∧ s.heap.IsTuple a its.toArray := let ⟨its, r, pt, _⟩ := I.tuple q; ⟨its, r, pt⟩
theorem lstAt (I : Inv X pins σ H s) {a : Addr} {xs : List V} (q : SqL X.K H a xs) : ∃ its : List Value, Vals xs its ∧ s.heap.IsList a its.toArray := let ⟨its, r, pt, _⟩ := I.list q; ⟨its, r, pt.isList⟩
open PySem.SeqAt in
theorem d_eq_int (I : Inv X pins σ H s) {i : Int} {t : Tok} {e : Dt} {y : V} {u : Value} {A : Around} (hu : A.units < cLine) (h2 : DAt X.K H e y) (ry : RelV y u) : ∃ b : Bool, (b = true ↔ Dt.int i = e) ∧ EqAt A s (.int i t) u b := by
  cases e with
  | int j =>
    have e2 : y = _ := h2
    subst e2
    obtain ⟨t', rfl⟩ := ry
    exact ⟨i == j, by simp, .int_int i t j t'⟩
  | str j =>
    have e2 : y = _ := h2
    subst e2
    obtain ⟨t', rfl⟩ := ry
    exact ⟨false, by simp, .int_str i t j t'⟩
  | tup es =>
    obtain ⟨a, xs, rfl, q, _⟩ := h2
    cases ry
    obtain ⟨_, _, pt⟩ := tupAt I q
    exact ⟨false, by simp, .int_tuple i t pt hu⟩
  | lst es =>
    obtain ⟨a, xs, rfl, q, _⟩ := h2
    cases ry
    obtain ⟨_, _, pt⟩ := lstAt I q
    exact ⟨false, by simp, .int_list i t pt hu⟩
open PySem.SeqAt in
theorem d_eq_str (I : Inv X pins σ H s) {i : Str} {t : Tok} {e : Dt} {y : V} {u : Value} {A : Around} (hu : A.units < cLine) (h2 : DAt X.K H e y) (ry : RelV y u) : ∃ b : Bool, (b = true ↔ Dt.str i = e) ∧ EqAt A s (.str i t) u b := by
  cases e with
  | int j =>
    have e2 : y = _ := h2
    subst e2
    obtain ⟨t', rfl⟩ := ry
    exact ⟨false, by simp, .str_int i t j t'⟩
  | str j =>
    have e2 : y = _ := h2
    subst e2
    obtain ⟨t', rfl⟩ := ry
    exact ⟨i == j, by simp, .str_str i t j t'⟩
  | tup es =>
    obtain ⟨a, xs, rfl, q, _⟩ := h2
    cases ry
    obtain ⟨_, _, pt⟩ := tupAt I q
    exact ⟨false, by simp, .str_tuple i t pt hu⟩
  | lst es =>
    obtain ⟨a, xs, rfl, q, _⟩ := h2
    cases ry
    obtain ⟨_, _, pt⟩ := lstAt I q
    exact ⟨false, by simp, .str_list i t pt hu⟩
open Classical in
/-- whether two lists of data agree at a place -/
noncomputable def agree (ds es : List Dt) (j : Nat) : Bool := decide (ds[j]? = es[j]?)
open Classical in
theorem agree_all {ds es : List Dt} (h : ds.length = es.length) : ((List.range ds.length).all (agree ds es) = true) ↔ ds = es := by
  rw [List.all_eq_true]
  constructor
  · intro q
    refine List.ext_getElem? fun j => ?_
    by_cases hj : j < ds.length
    · exact of_decide_eq_true (q j (List.mem_range.mpr hj))
    · rw [List.getElem?_eq_none (by omega), List.getElem?_eq_none (by omega)]
  · intro e j _
    rw [e]
    exact decide_eq_true rfl
open Classical in
/-- the places' answers, by an answer for two data -/
theorem d_each {n : Nat} {A : Around} (ih : ∀ {d e : Dt} {x y : V} {v u : Value}, Dt.Lim n d → DAt X.K H d x → DAt X.K H e y → RelV x v → RelV y u → ∃ b : Bool, (b = true ↔ d = e) ∧ PySem.SeqAt.EqAt A s v u b)
    {ds es : List Dt} {xs ys : List V} {its its2 : List Value} (l : Dt.Lims n ds) (h1 : DsAt X.K H ds xs) (h2 : DsAt X.K H es ys) (r1 : Vals xs its) (r2 : Vals ys its2) :
    ∀ j (j1 : j < its.toArray.size) (j2 : j < its2.toArray.size), PySem.SeqAt.EqAt A s its.toArray[j] its2.toArray[j] (agree ds es j) := by
  intro j j1 j2
  have a1 : j < its.length := by simpa using j1
  have a2 : j < its2.length := by simpa using j2
  have b1 : j < ds.length := by rw [← h1.len, r1.length]; exact a1
  have b2 : j < es.length := by rw [← h2.len, r2.length]; exact a2
  have c1 : ds[j]? = some ds[j] := by simp [b1]
  have c2 : es[j]? = some es[j] := by simp [b2]
  obtain ⟨x, ex, hx⟩ := h1.get c1
  obtain ⟨y, ey, hy⟩ := h2.get c2
  obtain ⟨v, ev, rv⟩ := r1.get ex
  obtain ⟨u, eu, ru⟩ := r2.get ey
  obtain ⟨b, hb, q⟩ := ih (Lims.get l c1) hx hy rv ru
  have ev' : its.toArray[j] = v := by
    have := (List.getElem?_eq_some_iff.mp ev).2
    simpa using this
  have eu' : its2.toArray[j] = u := by
    have := (List.getElem?_eq_some_iff.mp eu).2
    simpa using this
  rw [ev', eu']
  have e : agree ds es j = b := by
    unfold agree
    rw [c1, c2]
    cases b with
    | true => exact decide_eq_true (by rw [hb.mp rfl])
    | false => exact decide_eq_false fun z => Bool.false_ne_true (hb.mpr (Option.some.inj z))
  rw [e]
  exact q
theorem in1_units (A : Around) : A.in1.units = A.units + 1 := rfl
open PySem.SeqAt in
/-- == and != of two tuples or lists, by == of what they hold -/
theorem d_rc (I : Inv X pins σ H s) {n : Nat} {A : Around} (hu0 : A.units < cLine)
    (ih : ∀ {d e : Dt} {x y : V} {v u : Value}, Dt.Lim n d → DAt X.K H d x → DAt X.K H e y → RelV x v → RelV y u → ∃ b : Bool, (b = true ↔ d = e) ∧ EqAt A.in1 s v u b)
    {d e : Dt} {a b : Addr} (l : Dt.Lim (n + 1) d) (h1 : DAt X.K H d (.ref a)) (h2 : DAt X.K H e (.ref b)) : ∃ k : Bool, (k = true ↔ d = e) ∧ RcAt A s (.ref a) (.ref b) k ∧ RcNeAt A s (.ref a) (.ref b) (!k) := by
  cases d with
  | int i => have e1 : V.ref a = V.int i := h1; cases e1
  | str i => have e1 : V.ref a = V.str i := h1; cases e1
  | tup ds =>
    obtain ⟨a', xs, e1, q1, r1⟩ := h1
    cases e1
    obtain ⟨its, v1, p1⟩ := tupAt I q1
    cases e with
    | int i => have e1 : V.ref b = V.int i := h2; cases e1
    | str i => have e1 : V.ref b = V.str i := h2; cases e1
    | lst es =>
      obtain ⟨b', ys, e2, q2, r2⟩ := h2
      cases e2
      obtain ⟨its2, v2, p2⟩ := lstAt I q2
      exact ⟨false, by simp, .tuple_list p1 p2 hu0, .tuple_list p1 p2 hu0⟩
    | tup es =>
      obtain ⟨b', ys, e2, q2, r2⟩ := h2
      cases e2
      obtain ⟨its2, v2, p2⟩ := tupAt I q2
      have he := d_each ih l r1 r2 v1 v2
      refine ⟨_, ?_, RcAt.tuples p1 p2 hu0 he, RcNeAt.tuples p1 p2 hu0 he⟩
      have z1 : its.toArray.size = ds.length := by rw [List.size_toArray, ← v1.length, r1.len]
      have z2 : its2.toArray.size = es.length := by rw [List.size_toArray, ← v2.length, r2.len]
      rw [z1, z2]
      by_cases hl : ds.length = es.length
      · rw [← hl, Nat.min_self, show (ds.length == ds.length) = true by simp, Bool.and_true, agree_all hl]
        exact ⟨fun z => by rw [z], fun z => by injection z⟩
      · rw [show (ds.length == es.length) = false by simpa using hl, Bool.and_false]
        exact ⟨fun z => by (cases z), fun z => by injection z with z; rw [z] at hl; exact absurd rfl hl⟩
  | lst ds =>
    obtain ⟨a', xs, e1, q1, r1⟩ := h1
    cases e1
    obtain ⟨its, v1, p1⟩ := lstAt I q1
    cases e with
    | int i => have e1 : V.ref b = V.int i := h2; cases e1
    | str i => have e1 : V.ref b = V.str i := h2; cases e1
    | tup es =>
      obtain ⟨b', ys, e2, q2, r2⟩ := h2
      cases e2
      obtain ⟨its2, v2, p2⟩ := tupAt I q2
      exact ⟨false, by simp, .list_tuple p1 p2 hu0, .list_tuple p1 p2 hu0⟩
    | lst es =>
      obtain ⟨b', ys, e2, q2, r2⟩ := h2
      cases e2
      obtain ⟨its2, v2, p2⟩ := lstAt I q2
      have z1 : its.toArray.size = ds.length := by rw [List.size_toArray, ← v1.length, r1.len]
      have z2 : its2.toArray.size = es.length := by rw [List.size_toArray, ← v2.length, r2.len]
      by_cases hl : ds.length = es.length
      · have he := d_each ih l r1 r2 v1 v2
        refine ⟨_, ?_, RcAt.lists p1 p2 (by rw [z1, z2, hl]) hu0 he, RcNeAt.lists p1 p2 (by rw [z1, z2, hl]) hu0 he⟩
        rw [z1, agree_all hl]
        exact ⟨fun z => by rw [z], fun z => by injection z⟩
      · refine ⟨false, ?_, RcAt.lists_lengths p1 p2 (by rw [z1, z2]; simpa using hl) hu0, RcNeAt.lists_lengths p1 p2 (by rw [z1, z2]; simpa using hl) hu0⟩
        exact ⟨fun z => by (cases z), fun z => by injection z with z; rw [z] at hl; exact absurd rfl hl⟩
open PySem.SeqAt in
/-- == of two data -/
theorem d_eq (I : Inv X pins σ H s) : ∀ (n : Nat) {d e : Dt} {x y : V} {v u : Value} {A : Around}, Dt.Lim n d → A.units + n < cLine → DAt X.K H d x → DAt X.K H e y → RelV x v → RelV y u → ∃ b : Bool, (b = true ↔ d = e) ∧ EqAt A s v u b := by
  have atom : ∀ (n : Nat) {d e : Dt} {x y : V} {v u : Value} {A : Around}, (∀ a, x ≠ .ref a) → A.units < cLine → DAt X.K H d x → DAt X.K H e y → RelV x v → RelV y u → ∃ b : Bool, (b = true ↔ d = e) ∧ EqAt A s v u b := by
    intro n d e x y v u A hx hu h1 h2 rx ry
    cases d with
    | int i =>
      have e1 : x = _ := h1
      subst e1
      obtain ⟨t, rfl⟩ := rx
      exact d_eq_int I hu h2 ry
    | str i =>
      have e1 : x = _ := h1
      subst e1
      obtain ⟨t, rfl⟩ := rx
      exact d_eq_str I hu h2 ry
    | tup ds => obtain ⟨a, xs, e1, _⟩ := h1; exact absurd e1 (hx a)
    | lst ds => obtain ⟨a, xs, e1, _⟩ := h1; exact absurd e1 (hx a)
  intro n
  induction n with
  | zero =>
    intro d e x y v u A l hu h1 h2 rx ry
    refine atom 0 (fun a => ?_) (by omega) h1 h2 rx ry
    rintro rfl
    cases d with
    | int i => have e1 : V.ref a = V.int i := h1; cases e1
    | str i => have e1 : V.ref a = V.str i := h1; cases e1
    | tup ds => exact l.elim
    | lst ds => exact l.elim
  | succ n ih =>
    intro d e x y v u A l hu h1 h2 rx ry
    have hu0 : A.units < cLine := by omega
    by_cases hx : ∃ a, x = .ref a
    · obtain ⟨a, rfl⟩ := hx
      cases rx
      by_cases hy : ∃ b, y = .ref b
      · obtain ⟨b, rfl⟩ := hy
        cases ry
        by_cases hab : a = b
        · subst hab
          have e' := d_inj I (n + 1) l h1 h2
          exact ⟨true, by simp [e'], .same _⟩
        · obtain ⟨k, h3, h4, _⟩ := d_rc I hu0 (fun {d e x y v u} l a b c d' => ih (d := d) (e := e) (x := x) (y := y) (v := v) (u := u) l (by rw [in1_units]; omega) a b c d') l h1 h2
          exact ⟨k, h3, .of_refs hab h4⟩
      · have q : ∀ k : Bool, k = false → (k = true ↔ d = e) := by
          intro k hk
          subst hk
          refine ⟨fun z => by (cases z), fun z => ?_⟩
          subst z
          cases d with
          | int i => have e1 : V.ref a = V.int i := h1; cases e1
          | str i => have e1 : V.ref a = V.str i := h1; cases e1
          | tup ds => obtain ⟨b, xs, e1, _⟩ := h2; exact absurd ⟨b, e1⟩ hy
          | lst ds => obtain ⟨b, xs, e1, _⟩ := h2; exact absurd ⟨b, e1⟩ hy
        cases e with
        | tup es => obtain ⟨b, xs, e1, _⟩ := h2; exact absurd ⟨b, e1⟩ hy
        | lst es => obtain ⟨b, xs, e1, _⟩ := h2; exact absurd ⟨b, e1⟩ hy
        | int j =>
          have e2 : y = _ := h2
          subst e2
          obtain ⟨t', rfl⟩ := ry
          cases d with
          | int i => have e1 : V.ref a = V.int i := h1; cases e1
          | str i => have e1 : V.ref a = V.str i := h1; cases e1
          | tup ds =>
            obtain ⟨a', xs, e1, q1, r1⟩ := h1
            cases e1
            obtain ⟨its, v1, p1⟩ := tupAt I q1
            exact ⟨false, q _ rfl, .tuple_int j t' p1 hu0⟩
          | lst ds =>
            obtain ⟨a', xs, e1, q1, r1⟩ := h1
            cases e1
            obtain ⟨its, v1, p1⟩ := lstAt I q1
            exact ⟨false, q _ rfl, .list_int j t' p1 hu0⟩
        | str j =>
          have e2 : y = _ := h2
          subst e2
          obtain ⟨t', rfl⟩ := ry
          cases d with
          | int i => have e1 : V.ref a = V.int i := h1; cases e1
          | str i => have e1 : V.ref a = V.str i := h1; cases e1
          | tup ds =>
            obtain ⟨a', xs, e1, q1, r1⟩ := h1
            cases e1
            obtain ⟨its, v1, p1⟩ := tupAt I q1
            exact ⟨false, q _ rfl, .tuple_str j t' p1 hu0⟩
          | lst ds =>
            obtain ⟨a', xs, e1, q1, r1⟩ := h1
            cases e1
            obtain ⟨its, v1, p1⟩ := lstAt I q1
            exact ⟨false, q _ rfl, .list_str j t' p1 hu0⟩
    · exact atom n (fun a z => hx ⟨a, z⟩) hu0 h1 h2 rx ry
end
section
variable {X : Cx}
/-- the two data are told: of what == says, it is known what it means -/
inductive RDI (K : PySem.W.Frag) (A : Around) (ne : Bool) (x : V) (y : V) (H : Hp) (Q : VK) : Prop where
  | mk (n : _) (d : _) (e : _) (a : _) (b : _) (c1 : x = .ref a) (c2 : y = .ref b) (c3 : Dt.Lim (n + 1) d) (c4 : A.units + n + 1 < cLine) (c5 : DAt K H d x) (c6 : DAt K H e y) (c7 : ∀ k : Bool, (k = true ↔ d = e) → Q (.bl (if ne then !k else k)) H)
def rD (K : PySem.W.Frag) (A : Around) (ne : Bool) : R2 := fun x y H Q => RDI K A ne x y H Q
theorem op_eqD : OpR X (compareOp .Eq) (rD X.K X.A false) := by
  intro pins s σ H x y v u Q I rx ry h
  obtain ⟨n, d, e, a, b, rfl, rfl, hl, hu, h1, h2, q⟩ := h
  cases rx; cases ry
  obtain ⟨k, h3, h4, _⟩ := d_rc I (A := X.A) (by omega) (fun {d e x y v u} l a b c d' => d_eq I n l (by rw [in1_units]; omega) a b c d') hl h1 h2
  exact h4 X.prog X.w _ _ ⟨.bl k, H, I, rfl, q k h3⟩
theorem op_neD : OpR X (compareOp .NotEq) (rD X.K X.A true) := by
  intro pins s σ H x y v u Q I rx ry h
  obtain ⟨n, d, e, a, b, rfl, rfl, hl, hu, h1, h2, q⟩ := h
  cases rx; cases ry
  obtain ⟨k, h3, _, h4⟩ := d_rc I (A := X.A) (by omega) (fun {d e x y v u} l a b c d' => d_eq I n l (by rw [in1_units]; omega) a b c d') hl h1 h2
  exact h4 X.prog X.w _ _ ⟨.bl (!k), H, I, rfl, q k h3⟩

/-! #### isinstance of one built-in class -/
theorem call_isi : CallR X (.builtin "isinstance") (fun xs H Q => ∃ x n t b, xs = [x, .ty n] ∧ TyOf X.K H x t ∧ PySem.W.kitOne X.K t (.type n) = some b ∧ Q (.bl b) H) := by
  intro pins s σ H xs us Q I r h
  obtain ⟨x, n, t, b, rfl, h1, h2, q⟩ := h
  obtain ⟨u, w', rfl, r1, r2⟩ := vals2 r
  cases (show w' = Value.type n from r2)
  exact isinst_ok I r1 h1 h2 fun tk => ⟨.bl b, H, I.tok tk, rfl, q⟩
end
/-- a list of whole numbers stands there -/
def PathV (H : Hp) (v : V) (p : List Int) : Prop := ∃ l, v = .ref l ∧ H l = some (.lst (p.map V.int))
theorem PathV.same {H H' : Hp} {v : V} {p : List Int} (h : PathV H v p) (s : Same H H') : PathV H' v p := let ⟨l, e, q⟩ := h; ⟨l, e, s _ _ q⟩
theorem kit_ii (K : PySem.W.Frag) : PySem.W.kitOne K (.type "int") (.type "int") = some true := by rfl
theorem kit_ib (K : PySem.W.Frag) : PySem.W.kitOne K (.type "int") (.type "bool") = some false := by first | rfl | kernel_rfl
theorem kit_tt (K : PySem.W.Frag) : PySem.W.kitOne K (.type "tuple") (.type "tuple") = some true := by rfl
theorem kit_ss (K : PySem.W.Frag) : PySem.W.kitOne K (.type "str") (.type "str") = some true := by rfl
end NC
/-! ### sorted(found), found a list of lists of whole numbers -/
namespace NC
open PySem PySem.Spec PyProof.Rows L2
section
open PySem.W
variable {α : Type} {n : Nat} {lt : Nat → Nat → Bool} {cmp : Nat → Nat → (Bool → Shared → Prop) → Shared → Prop} {s : Shared}
end
section
variable {prog : Program} {w : World} {A : Around} {E : Value → Shared → Prop} {s : Shared}
end
section
variable {P : Program} {w : World} {H : Hp} {h : Heap} {a : Addr} {o : HO}
/-- what is described stands there -/
theorem objok_there (x : ObjOk P w H h a o) : ∃ ob, h.get? a = some ob := by
  cases o with
  | lst xs => obtain ⟨_, _, _, _, e⟩ := x; exact ⟨_, e⟩
  | tup xs => obtain ⟨_, _, _, ob, e, _⟩ := x; exact ⟨_, e⟩
  | dK kvs => obtain ⟨_, _, _, _, ob, _, _, e, _⟩ := x; exact ⟨_, e⟩
  | dT kvs => obtain ⟨_, _, _, _, ob, _, _, e, _⟩ := x; exact ⟨_, e⟩
  | set S n => obtain ⟨ob, _, _, _, e, _⟩ := x; exact ⟨_, e⟩
  | ins C dx fs => obtain ⟨_, _, _, e, _⟩ := x; exact ⟨_, e⟩
  | own y => exact x
  | xd fs => obtain ⟨_, ⟨_, _, _, e, _⟩, _⟩ := x; exact ⟨_, e⟩
  | rng lo hi => obtain ⟨_, _, _, e⟩ := x; exact ⟨_, e⟩
  | frz ob u => obtain ⟨e, _⟩ := x; exact ⟨_, e⟩
  | tbl ps => exact ⟨_, show h.get? a = some _ from x⟩
  | met f y => exact ⟨_, show h.get? a = some _ from x⟩
  | ext φ => obtain ⟨_, e, _⟩ := x; exact e
end
section
variable {X : Cx} {pins : List (Addr × Obj)} {σ : L2.St} {H : Hp} {s : Shared}
end
section
variable {X : Cx}
end
end NC
/-! ### common readings, said short -/
namespace NC
open PySem PySem.Spec PyProof.Rows L2
theorem len1 {us : List Value} (h : us.length = 1) : ∃ a, us = [a] := by
  rcases us with _ | ⟨a, _ | ⟨_, _⟩⟩
  · cases h
  · exact ⟨a, rfl⟩
  · cases h
theorem len2 {us : List Value} (h : us.length = 2) : ∃ a b, us = [a, b] := by
  rcases us with _ | ⟨a, us⟩
  · cases h
  · obtain ⟨b, rfl⟩ := len1 (Nat.succ.inj h)
    exact ⟨a, b, rfl⟩
theorem len3 {us : List Value} (h : us.length = 3) : ∃ a b c, us = [a, b, c] := by
  rcases us with _ | ⟨a, us⟩
  · cases h
  · obtain ⟨b, c, rfl⟩ := len2 (Nat.succ.inj h)
    exact ⟨a, b, c, rfl⟩
theorem len4 {us : List Value} (h : us.length = 4) : ∃ a b c d, us = [a, b, c, d] := by
  rcases us with _ | ⟨a, us⟩
  · cases h
  · obtain ⟨b, c, d, rfl⟩ := len3 (Nat.succ.inj h)
    exact ⟨a, b, c, d, rfl⟩
end NC
/-! ### defs within defs: the code's table, the made function, its cells, and a call under a larger base -/
namespace NC
open PySem PySem.Spec PyProof.Rows L2

/-- the built-ins' module, as a def within a def asks it -/
def BltAt (base : Heap) (mg : Str → Option Value) : Prop := ∃ bm ob, mg "__builtins__" = some (.ref bm) ∧ bm ≠ builtinsNs ∧ base.get? bm = some ob ∧ ob.cls = .type "module" ∧ ob.dict = some builtinsNs ∧ ob.data = .plain
theorem BltAt.mono {b b' : Heap} {mg : Str → Option Value} (x : BltAt b mg) (k : ∀ a o, b.get? a = some o → b'.get? a = some o) : BltAt b' mg := let ⟨bm, ob, h1, h2, h3, h4⟩ := x; ⟨bm, ob, h1, h2, k _ _ h3, h4⟩
/-- the code that a def within a def has got -/
def CodeX (c : Addr) (qual : Str) : HO := .ext fun h => h.CodeRec (.ref c) qual
/-- the table: empty, or it holds the one def's code -/
def TabOk (H : Hp) (P : Addr) (pos : Pos) (qual : Str) : Prop := H P = some (.tbl #[]) ∨ ∃ c, H P = some (.tbl #[rawInt pos.line, rawInt pos.col, .ref c]) ∧ H c = some (CodeX c qual)
/-- all is kept but tables -/
def SameX (H H' : Hp) : Prop := ∀ b o, (∀ ps, o ≠ .tbl ps) → H b = some o → H' b = some o
section
variable {H H1 H2 H' : Hp} {b : Addr}
theorem SameX.of (s : Same H H') : SameX H H' := fun b o _ h => s b o h
theorem SameX.refl (H : Hp) : SameX H H := fun _ _ _ h => h
theorem SameX.trans (a : SameX H H1) (c : SameX H1 H2) : SameX H H2 := fun b o n h => c b o n (a b o n h)
theorem SameX.tups (s : SameX H H') : Tups H H' := fun b xs h => s b _ (fun _ z => by cases z) h
theorem SameX.lst {xs : List V} (s : SameX H H') (h : H b = some (.lst xs)) : H' b = some (.lst xs) := s b _ (fun _ z => by cases z) h
theorem SameX.tup {xs : List V} (s : SameX H H') (h : H b = some (.tup xs)) : H' b = some (.tup xs) := s b _ (fun _ z => by cases z) h
theorem SameX.free (s : SameX H H') (n : H' b = none) : H b = none ∨ ∃ ps, H b = some (.tbl ps) := by
  cases q : H b with
  | none => exact .inl rfl
  | some o =>
    cases o with
    | tbl ps => exact .inr ⟨ps, rfl⟩
    | _ => exact absurd (s b _ (fun _ z => by cases z) q) (by rw [n]; intro z; cases z)
end
theorem TabOk.same {H H' : Hp} {P : Addr} {pos : Pos} {qual : Str} (t : TabOk H P pos qual) (s : Same H H') : TabOk H' P pos qual := by
  rcases t with t | ⟨c, t1, t2⟩
  · exact .inl (s _ _ t)
  · exact .inr ⟨c, s _ _ t1, s _ _ t2⟩
/-- all but lists stays -/
def NL (H H' : Hp) : Prop := ∀ b o, (∀ xs, o ≠ .lst xs) → H b = some o → H' b = some o
theorem NL.of_same {H H' : Hp} (s : Same H H') : NL H H' := fun b o _ h => s b o h
theorem TabOk.nl {H H' : Hp} {P : Addr} {pos : Pos} {qual : Str} (t : TabOk H P pos qual) (s : NL H H') : TabOk H' P pos qual := by
  rcases t with t | ⟨c, t1, t2⟩
  · exact .inl (s _ _ (fun _ z => by cases z) t)
  · exact .inr ⟨c, s _ _ (fun _ z => by cases z) t1, s _ _ (fun _ z => by cases z) t2⟩

section
variable {X : Cx} {pins : List (Addr × Obj)} {σ : L2.St} {H : Hp} {s : Shared}
theorem tbl_at (I : Inv X pins σ H s) {P : Addr} {ps : Array Value} (h : H P = some (.tbl ps)) : s.heap.get? P = some (PySem.W.tabObj ps) := I.hok P _ h
theorem codeX_ok {P : Program} {w : World} {H : Hp} {h : Heap} {c : Addr} {qual : Str} (x : h.CodeRec (.ref c) qual) : ObjOk P w H h c (CodeX c qual) := by
  obtain ⟨c', o, vs, t, e, g, r⟩ := id x
  cases e
  refine ⟨x, ⟨o, g⟩, fun h1 h2 x1 k => ?_⟩
  obtain ⟨c', o, vs, t, e, g, r⟩ := x1
  cases e
  exact ⟨_, o, vs, t, rfl, k _ g, r⟩
end
end NC
/-! ### a made function as a def: its promise over a base that holds it and its cells; a call under a larger base -/
namespace NC
open PySem PySem.Spec PyProof.Rows L2

/-- the names of a made function without names of its own: its parameters, then the free names -/
structure CloScope (ps fs : List Str) (sc : Scope) : Prop where
  kind : sc.kind = .function
  co : sc.isCoroutine = false
  gen : sc.isGenerator = false
  nd : (ps ++ fs).Nodup
  par : ∀ x ∈ ps, sc.names.lookup x = some .local
  fre : ∀ x ∈ fs, sc.names.lookup x = some .free
  nocell : ∀ y ∈ sc.names, y.2 ≠ .cell
  all : ∀ y ∈ sc.names, y.2 = .free → y.1 ∈ fs
/-- the context of its body -/
def cxClo (CX : CXT) (P : Program) (w : World) (K : PySem.W.Frag) (mg : Str → Option Value) (base : Heap) (N : List Str) (qual : Str) (scope : Scope) (f : Addr) (cd : Value) (clos : List (Str × Addr)) (A : Around) (outer : List Env) (s : Shared) (H : Hp) (E : XK) : Cx where
  prog := P
  w := w
  K := K
  mg := mg
  base := base
  A := A.deeper (PySem.W.envX qual scope s.heap.objs.size f cd clos)
  N := N
  s₀ := s
  H₀ := H
  env := PySem.W.envX qual scope s.heap.objs.size f cd clos
  outer := outer
  stack := PySem.W.envX qual scope s.heap.objs.size f cd clos :: outer
  ex := []
  calm := true
  fn := fun _ => false
  pn := []
  xe := fun e s' => wpAny (model P w) (A.deeper (PySem.W.envX qual scope s.heap.objs.size f cd clos)) (leaving (PySem.W.envX qual scope s.heap.objs.size f cd clos) e) (fun _ s'' => CX outer H s E e s'') (fun e' s'' => CX outer H s E e' s'') s'
/-- a free name's cell in the base -/
def CellsAt (base : Heap) (clos : List (Str × Addr)) (fs : List Str) (fvs : List V) : Prop := Paired (fun (x : Str) (v : V) => ∃ c u, clos.lookup x = some c ∧ base.IsCell c (some u) ∧ RelV v u) fs fvs
theorem zip_rev_get : ∀ {ps : List Str} {us : List Value} {i : Nat} {x : Str} {u : Value}, ps.Nodup → ps[i]? = some x → us[i]? = some u → (ps.zip us).reverse.lookup x = some u := by
  intro ps us i x u nd h1 h2
  have hm : (x, u) ∈ (ps.zip us).reverse := by
    rw [List.mem_reverse]
    have : (ps.zip us)[i]? = some (x, u) := by
      rw [List.getElem?_zip_eq_some]
      exact ⟨h1, h2⟩
    exact List.mem_of_getElem? this
  have nd2 : ((ps.zip us).reverse.map (·.1)).Nodup := by
    rw [List.map_reverse]
    have hs : List.Sublist ((ps.zip us).map (·.1)) ps := by
      clear h1 h2 hm nd
      induction ps generalizing us with
      | nil => simp
      | cons a r ih =>
        cases us with
        | nil => simp
        | cons b t => simpa using ih
    exact (List.reverse_perm _).nodup_iff.mpr (nd.sublist hs)
  generalize hl : (ps.zip us).reverse = l at hm nd2
  clear hl h1 h2 nd
  induction l with
  | nil => simp at hm
  | cons q r ih =>
    obtain ⟨y, w⟩ := q
    rw [List.map_cons, List.nodup_cons] at nd2
    rcases List.mem_cons.mp hm with e | hm'
    · cases e
      simp [List.lookup]
    · have hne : x ≠ y := fun z => nd2.1 (by rw [← z]; exact List.mem_map.mpr ⟨(x, u), hm', rfl⟩)
      rw [List.lookup_cons]
      rw [show (x == y) = false by simpa using hne]
      exact ih hm' nd2.2
section
variable {CX : CXT} {P : Program} {w : World} {K : PySem.W.Frag} {mg : Str → Option Value} {base : Heap} {k : Nat} {f c : Addr} {name qual : Str} {params : Arguments} {body : List Stmt} {scope : Scope} {clos : List (Str × Addr)} {doc pm ctv : Value} {ps fs : List Str} {fvs : List V} {sp : Sp}
end

/-! #### the larger base -/
def keepL (base : Heap) (L : List Addr) (a : Addr) : Bool := (base.get? a).isSome || L.contains a
def extB (h base : Heap) (L : List Addr) : Heap := PySem.W.hideAll h ((List.range h.objs.size).filter fun a => !keepL base L a)
theorem extB_get {h base : Heap} {L : List Addr} {b : Addr} {o : Obj} (e : h.get? b = some o) (k : keepL base L b = true) : (extB h base L).get? b = some o :=
  PySem.W.hideAll_get _ e fun z => by
    have := (List.mem_filter.mp z).2
    rw [k] at this
    exact absurd this (by decide)
theorem of_extB {h base : Heap} {L : List Addr} {b : Addr} {o : Obj} (e : (extB h base L).get? b = some o) : h.get? b = some o ∧ keepL base L b = true := by
  have e1 := PySem.W.of_hideAll _ e
  refine ⟨e1, ?_⟩
  cases q : keepL base L b with
  | true => rfl
  | false =>
    have hm : b ∈ (List.range h.objs.size).filter fun a => !keepL base L a := List.mem_filter.mpr ⟨List.mem_range.mpr (Heap.lt_size e1), by rw [q]; rfl⟩
    rw [show (extB h base L).get? b = none from PySem.W.hideAll_none _ hm] at e
    cases e
/-- without what the larger base holds, and with it again -/
def delH (H : Hp) (L : List Addr) : Hp := fun b => if b ∈ L then none else H b
def addH (H' H : Hp) (L : List Addr) : Hp := fun b => if b ∈ L then H b else H' b
theorem delH_ne {H : Hp} {L : List Addr} {b : Addr} (h : b ∉ L) : delH H L b = H b := if_neg h
theorem delH_in {H : Hp} {L : List Addr} {b : Addr} (h : b ∈ L) : delH H L b = none := if_pos h
theorem addH_ne {H' H : Hp} {L : List Addr} {b : Addr} (h : b ∉ L) : addH H' H L b = H' b := if_neg h
theorem addH_in {H' H : Hp} {L : List Addr} {b : Addr} (h : b ∈ L) : addH H' H L b = H b := if_pos h
/-- what may go into the larger base: made functions and codes, or cells of this frame's own -/
def Goes (X : Cx) (H : Hp) (b : Addr) : Prop := (∃ φ, H b = some (.ext φ)) ∨ ∃ x, X.env.cells.lookup x = some b ∧ X.fn x = true
section
variable {X : Cx} {pins : List (Addr × Obj)} {σ : L2.St} {H : Hp} {s : Shared} {L : List Addr}
theorem Goes.there (I : Inv X pins σ H s) {b : Addr} (g : Goes X H b) : ∃ o, s.heap.get? b = some o := by
  rcases g with ⟨φ, e⟩ | ⟨x, e, _⟩
  · exact objok_there (I.hok b _ e)
  · obtain ⟨v, o, h, _⟩ := I.cell x b e
    exact ⟨o, h⟩
theorem Goes.noframe (I : Inv X pins σ H s) {b : Addr} (g : Goes X H b) : b ∉ frs X.stack := fun z => by
  have hn := I.stkFree b z
  rcases g with ⟨φ, e⟩ | ⟨x, e, hf⟩
  · rw [hn] at e; cases e
  · rcases List.mem_cons.mp (I.stkSub b z) with q | q
    · exact I.cne x b e q
    · obtain ⟨_, o, ho, _⟩ := I.ok.funs.mem q
      exact absurd (Nat.lt_of_lt_of_le (Heap.lt_size ho) (I.ok.cab x b hf e)) (Nat.lt_irrefl _)
theorem Goes.notup (g : ∀ b ∈ L, Goes X H b) (I : Inv X pins σ H s) {b : Addr} {u : HO} (e : H b = some u) (n : ∀ φ, u ≠ .ext φ) : b ∉ L := fun z => by
  rcases g b z with ⟨φ, q⟩ | ⟨x, q, _⟩
  · rw [e] at q; cases q; exact n φ rfl
  · rw [I.freeC x b q] at e; cases e
/-- the state at a call, over the larger base -/
theorem env0_ext (I : Inv X pins σ H s) (g : ∀ b ∈ L, Goes X H b) : Env0 X.prog X.w X.K X.mg (extB s.heap X.base L) X.A X.stack s (delH H L) := by
  have kb : ∀ b o, X.base.get? b = some o → (extB s.heap X.base L).get? b = some o := fun b o e => extB_get (I.bk b o e) (by unfold keepL; rw [e]; rfl)
  have nb : ∀ b, (extB s.heap X.base L).get? b = none ∨ (X.base.get? b).isSome = true ∨ b ∈ L := fun b => by
    cases q : (extB s.heap X.base L).get? b with
    | none => exact .inl rfl
    | some o =>
      have := (of_extB q).2
      unfold keepL at this
      rw [Bool.or_eq_true] at this
      rcases this with z | z
      · exact .inr (.inl z)
      · exact .inr (.inr (by simpa using z))
  refine ⟨I.ok.frames, ⟨I.mod.kin.keeps kb, I.mod.glob.keeps kb, let ⟨mb, h1, h2⟩ := I.mod.blt; ⟨mb, h1.keeps kb, h2⟩, I.mod.nolimit.keeps kb⟩, fun b o e => ?_, Nat.le_of_eq (PySem.W.hideAll_size _ _), ?_, fun b hb => ?_, fun b u e => ?_, I.bare⟩
  · obtain ⟨e1, e2⟩ := of_extB e
    refine ⟨e1, ?_⟩
    by_cases hb : b ∈ L
    · exact delH_in hb
    · rw [delH_ne hb]
      unfold keepL at e2
      rw [Bool.or_eq_true] at e2
      rcases e2 with z | z
      · obtain ⟨o', q⟩ := Option.isSome_iff_exists.mp z
        exact (I.bs b o' q).2
      · exact absurd (by simpa using z) hb
  · have all : ∀ l : List Env, (∀ b ∈ frs l, b ∈ frs X.stack) → s.heap.FunFrames X.base l → s.heap.FunFrames (extB s.heap X.base L) l := by
      intro l
      induction l with
      | nil => intro _ _; trivial
      | cons env r ih =>
        intro hs hl
        obtain ⟨hk, ⟨L', o, hf, hn, ho, hd⟩, hr⟩ := hl
        have hm : L' ∈ frs X.stack := hs L' (by unfold frs; rw [List.filterMap_cons, hf]; exact List.mem_cons_self)
        refine ⟨hk, ⟨L', o, hf, ?_, ho, hd⟩, ih (fun b hb => hs b (by unfold frs; rw [List.filterMap_cons, hf]; exact List.mem_cons_of_mem _ hb)) hr⟩
        rcases nb L' with z | z | z
        · exact z
        · rw [hn] at z; cases z
        · exact absurd hm ((g L' z).noframe I)
    exact all X.stack (fun _ h => h) I.stack
  · unfold delH
    split
    · rfl
    · exact I.stkFree b hb
  · have hb : b ∉ L := fun z => by rw [delH_in z] at e; cases e
    rw [delH_ne hb] at e
    refine (I.hok b u e).stay (fun _ _ _ q => q) (fun c q => ?_) fun c xs q => ?_
    · rw [delH_ne (Goes.notup g I q fun _ z => by cases z)]; exact q
    · rw [delH_ne (Goes.notup g I q fun _ z => by cases z)]; exact q
/-- behind it -/
theorem after_ext {Q : VK} {u : Value} {s' : Shared} (I : Inv X pins σ H s) (g : ∀ b ∈ L, Goes X H b) (h : CE X.stack X.prog X.w (delH H L) s (fun v H' => (∀ b ∈ L, H' b = none) → Q v (addH H' H L)) u s') : EP X pins σ Q u s' := by
  obtain ⟨v, H', os, bare, un, hok, r, q⟩ := h
  have gone : ∀ b ∈ L, H' b = none := fun b hb => by
    obtain ⟨o, e⟩ := (g b hb).there I
    exact un.free b o e (delH_in hb) (by simp)
  have unt : ∀ b, H b = none → delH H L b = none := fun b n => by
    unfold delH
    split
    · rfl
    · exact n
  refine ⟨v, addH H' H L, I.call' (ch := []) os ⟨fun b o e n hb hx => un.keep b o e (unt b n) hb hx, fun b o e n hb hx => un.slot b o e (unt b n) hb hx, fun b o e n hx => ?_, un.there, fun b xs e => ?_, fun b o xs e => ?_, fun b qs e => ?_⟩ (fun b w e => ?_) bare fun b z => absurd z (by simp), r, q gone⟩
  · by_cases hb : b ∈ L
    · rw [addH_in hb]; exact n
    · rw [addH_ne hb]; exact un.free b o e (unt b n) hx
  · have hb := Goes.notup g I e fun _ z => by cases z
    rw [addH_ne hb]
    exact un.tups b xs (by rw [delH_ne hb]; exact e)
  · have hb := Goes.notup g I e fun _ z => by cases z
    rw [addH_ne hb]
    exact un.frzs b o xs (by rw [delH_ne hb]; exact e)
  · have hb := Goes.notup g I e fun _ z => by cases z
    rw [addH_ne hb]
    exact un.tbls b qs (by rw [delH_ne hb]; exact e)
  · by_cases hb : b ∈ L
    · rw [addH_in hb] at e
      rcases g b hb with ⟨φ, e'⟩ | ⟨x, e', _⟩
      · rw [e] at e'
        cases e'
        obtain ⟨p, ⟨o, eo⟩, st⟩ := I.hok b _ e
        have k := un.keep b o eo (delH_in hb) ((g b hb).noframe I) (by simp)
        exact ⟨st _ _ p fun o' q' => by rw [eo] at q'; cases q'; exact k, ⟨o, k⟩, st⟩
      · rw [I.freeC x b e'] at e; cases e
    · rw [addH_ne hb] at e
      have nl : ∀ c y, H' c = some y → c ∉ L := fun c y e z => by rw [gone c z] at e; cases e
      exact (hok b w e).stay (fun _ _ _ q => q) (fun c q => by rw [addH_ne (nl c _ q)]; exact q) fun c xs q => by rw [addH_ne (nl c _ q)]; exact q
end
/-- a function that is handed about, over the base: ready to be called -/
def FV (P : Program) (w : World) (K : PySem.W.Frag) (mg : Str → Option Value) (base : Heap) (CX : CXT) (k : Nat) (f : Addr) (ps : List Str) (sp : Sp) : Prop :=
  ∃ fd oc od sl, FnOk P w K mg base CX k f fd ps sp ∧ base.get? f = some ⟨oc, od, .func fd, sl⟩ ∧ Binds K fd ps []
section
variable {X : Cx} {CX : CXT} {k : Nat} {ps : List Str} {E : XK} {x : Str} {p pos : Pos} {e : Expr} {es : List Expr} {t : TA}
/-- change(..), change a name that holds a made function -/
inductive TFvI (X : Cx) (CX : CXT) (k : Nat) (ps : List Str) (E : XK) (i : Nat) (t : TA) (σ : L2.St) (H : Hp) (Q : VK) : Prop where
  | mk (f : _) (sp : _) (c1 : σ[i]? = some (some (.ref f))) (c2 : FV X.prog X.w X.K X.mg X.base CX k f ps sp) (c3 : t σ H fun vs H1 => sp vs H1 Q E)
def tFv (X : Cx) (CX : CXT) (k : Nat) (ps : List Str) (E : XK) (i : Nat) (t : TA) : TE := fun σ H Q => TFvI X CX k ps E i t σ H Q
theorem pe_fv (i : Nat) (hr : Room k X.A) (hx : Passes CX X E) (ha : PA X (e :: es) t) (hN : X.N[i]? = some x := by rfl) (hv : Vis X.env.scope x := by first | exact Or.inl rfl | exact Or.inr (Or.inl rfl) | exact Or.inr (Or.inr rfl))
    (h : (e :: es).all plainE = true := by rfl) (hd : (x == ("__debug__" : Str)) = false := by decide) (hcd : (x == ("__classdict__" : Str)) = false := by decide) : PE X (.Call (.Name x p) (e :: es) [] pos) (tFv X CX k ps E i t) := by
  intro pins s σ H Q I hw
  obtain ⟨f, sp, hi, ⟨fd, oc, od, sl, F, ho, hb⟩, hw⟩ := hw
  rw [List.all_cons, Bool.and_eq_true] at h
  have hname : PE X (.Name x p) (tVar i) := pe_var hN hv hd hcd
  refine wpAny_Call_Name_kw (thn (hname pins s σ H (fun v H1 => v = .ref f ∧ H1 = H) I ⟨_, hi, rfl, rfl⟩) fun u s1 ⟨v, H1, I1, rv, e1, e2⟩ => ?_)
  subst e1 e2
  cases (show u = Value.ref f from rv)
  refine PySem.W.callWith_F (first := []) ⟨_, _, _, _, I1.bk _ _ ho⟩ (thn (ha pos pins s1 σ H1 _ I1 hw) fun us s2 ⟨vs, H2, I2, r, q⟩ => ⟨⟨_, _, _, _, I2.bk _ _ ho⟩, ?_⟩) (star_plain h.1) (star_any h.2)
  exact run_fn F hr hb (dvs := []) (ds := []) .nil hx I2 r (by rw [List.append_nil]; exact q)
end
section
variable {X : Cx} {CX : CXT} {k : Nat} {ps : List Str} {E : XK} {x : Str} {p pos : Pos} {e : Expr} {es : List Expr} {t : TA}
/-- a def of the text whose promise is told over every base -/
def GB (P : Program) (w : World) (K : PySem.W.Frag) (mg : Str → Option Value) (base : Heap) (CX : CXT) (k : Nat) (x : Str) (ps : List Str) (sp : Heap → Sp) : Prop :=
  ∀ base', (∀ b o, base.get? b = some o → base'.get? b = some o) → GF P w K mg base' CX k x ps (sp base')
end
end NC
/-! ### reversed: a loop over it, and list(reversed(xs)) -/
namespace NC
open PySem PySem.Spec PyProof.Rows L2
/-- the list at a, n long, from behind -/
def Itv (K : PySem.W.Frag) (a : Addr) (n : Nat) : It :=
  ⟨fun i H => i < n ∧ ∃ xs, SqL K H a xs ∧ xs.length = n, fun i H x H' => H' = H ∧ ∀ xs, SqL K H a xs → xs.reverse[i]? = some x, fun i H => n ≤ i⟩
theorem turn_rev {P : Program} {w : World} {K : PySem.W.Frag} {tg : Expr} (a it : Addr) (n : Nat) : Turn P w K tg (Itv K a n) [it] it (fun i h => i ≤ n ∧ h.IsRevIter it a ((n : Int) - 1 - (i : Int))) where
  mem := by simp
  obj := fun i h st b hb => by
    have e : b = it := by simpa using hb
    subst e
    obtain ⟨_, o, e, c, d⟩ := st
    exact ⟨o, e, fun v z => by rw [d] at z; cases z⟩
  keep := fun i h h' st k => ⟨st.1, st.2.at fun o e => k it (by simp) o e⟩
  item := by
    intro X hP hw hK hc i pins s σ H E I hf st hg
    subst hP hw hK
    obtain ⟨hi, xs, hq, hn⟩ := hg
    obtain ⟨its, rv, p, hz⟩ := I.list hq
    have hx : xs.reverse[i]? = some (xs.reverse[i]'(by rw [List.length_reverse]; omega)) := by simp [hi, hn]
    have hx2 : xs[n - 1 - i]? = some (xs.reverse[i]'(by rw [List.length_reverse]; omega)) := by
      rw [← hx, List.getElem?_reverse (by omega), hn]
    obtain ⟨u, hu, ru⟩ := rv.get hx2
    obtain ⟨f0, f1, f2, f3, f4, f5⟩ := hf it (by simp)
    have e : (n : Int) - 1 - (i : Int) = ((n - 1 - i : Nat) : Int) := by omega
    have st2 := st.2
    rw [e] at st2
    refine wpAny_pyNext_rev_item st2 p.isList (x := u) (by simpa using hu) fun h' st' sb => ?_
    have I1 : Inv X pins σ H { s with heap := h' } := I.turned (t' := s.toks) (fun b o hb e => (sb.2 b hb).trans e) f0 f1 f3 f4 f5
    have e2 : ((n - 1 - i : Nat) : Int) - 1 = (n : Int) - 1 - ((i + 1 : Nat) : Int) := by omega
    rw [e2] at st'
    obtain ⟨o, eo, c, d⟩ := id st'
    exact ⟨u, rfl, go_of (s := { s with heap := h' }) eo c d (by decide) ⟨_, H, I1, ru, ⟨rfl, fun ys hy => by rw [I.list_inj hy hq]; exact hx⟩, ⟨by omega, st'⟩, fun b hb => (hf b hb).1⟩⟩
  done := by
    intro X hP hw hK hc i pins s σ H E I hf st hg
    subst hP hw hK
    have hni : n ≤ i := hg
    obtain ⟨f0, f1, f2, f3, f4, f5⟩ := hf it (by simp)
    have e : (n : Int) - 1 - (i : Int) = -1 := by have := st.1; omega
    have st2 := st.2
    rw [e] at st2
    exact wpAny_pyNext_rev_end (I.ok.hd hc) st2 fun h' eb => ⟨rfl, I.turned (t' := s.toks) (fun b o hb e => eb b o hb e) f0 f1 f3 f4 f5⟩
  self := fun _ _ _ _ _ st h => wpAny_pyIter_revIter st.2 h
section
variable {X : Cx} {tg : Expr}
inductive IRevI (K : PySem.W.Frag) (R : It → Hp → Prop) (vs : List V) (H1 : Hp) : Prop where
  | mk (a : _) (xs : _) (c1 : vs = [.ref a]) (c2 : SqL K H1 a xs) (c3 : R (Itv K a xs.length) H1)
def iRev (K : PySem.W.Frag) (tl : TE) : TI := fun σ H R => tCons tl tNil σ H fun vs H1 => IRevI K R vs H1
theorem pi_rev {l : Expr} {tl : TE} {p pos : Pos} (hg : Gl X "reversed") (hm : X.mg "reversed" = none) (hl : PE X l tl) (h : plainE l = true := by rfl) : PI X tg (.Call (.Name "reversed" p) [l] [] pos) (iRev X.K tl) := by
  intro pins s σ H R I hw
  have ha : PA X [l] (tCons tl tNil) := pa_c hl pa_nil h
  refine wpAny_Call_Name_kw (ld_blt I hg hm boot_reversed ?_)
  refine PyProof.Rows.callWith_type1 (thn (ha pos pins s σ H _ I hw) fun us s1 ⟨vs, H1, I1, r1, a, xs, e, hq, q1⟩ => ?_) (star_plain h) rfl
  subst e
  obtain ⟨u, rfl, ru⟩ := vals1 r1
  cases (show u = Value.ref a from ru)
  obtain ⟨its, rv, pl, hz⟩ := I1.list hq
  have hn : its.toArray.size = xs.length := by rw [List.size_toArray, rv.length]
  refine call_reversed_list pl.isList ?_
  have hit : (s1.heap.push (revObj a ((its.toArray.size : Int) - 1))).IsRevIter s1.heap.objs.size a ((xs.length : Int) - 1 - ((0 : Nat) : Int)) := by
    refine ⟨_, Heap.get?_push_size _ rfl, rfl, ?_⟩
    rw [hn]
    show Data.fields #[Value.ref a, rawInt ((xs.length : Int) - 1)] = _
    rw [show (xs.length : Int) - 1 - ((0 : Nat) : Int) = (xs.length : Int) - 1 by omega]
  refine wpAny_pyIter_revIter (s := { s1 with heap := s1.heap.push (revObj a ((its.toArray.size : Int) - 1)) }) hit ?_
  refine ⟨s1.heap.objs.size, [s1.heap.objs.size], _, _, H1, rfl, I1.kept (t' := s1.toks) fun b o e => Heap.get?_push_of_some _ e, turn_rev a _ xs.length, ⟨Nat.zero_le _, hit⟩, fun b hb => ?_, q1⟩
  have e : b = s1.heap.objs.size := by simpa using hb
  subst e
  exact I1.fpOk (Nat.le_refl _) (I1.hok.fresh (Nat.le_refl _))
end
/-- over a list from behind, that the body leaves as it is -/
theorem for_rev {K : PySem.W.Frag} {a : Addr} {xs : List V} {g : TG} {tb : TS} {D : Ends} {σ : L2.St} {H : Hp} (Pv : Nat → L2.St → Hp → Prop) (h0 : Pv 0 σ H) (hl : ∀ i σ H, i ≤ xs.length → Pv i σ H → SqL K H a xs)
    (hs : ∀ i x σ H, xs.reverse[i]? = some x → Pv i σ H → g x σ H fun σ2 H2 => tb { D with nx := Pv (i + 1), ct := Pv (i + 1), bk := D.nx } σ2 H2) (hd : ∀ σ H, Pv xs.length σ H → D.nx σ H) :
    ∃ W : Nat → Nat → L2.St → Hp → Prop, (∃ m, W 0 m σ H) ∧ ∀ i m σ H, W i m σ H →
      ((Itv K a xs.length).stop i H ∧ D.nx σ H) ∨ ((Itv K a xs.length).go i H ∧ ∃ N : L2.St → Hp → Prop, (∀ σ' H', N σ' H' → ∃ m', m' < m ∧ W (i + 1) m' σ' H') ∧ ∀ x H', (Itv K a xs.length).yld i H x H' → g x σ H' fun σ2 H2 => tb { D with nx := N, ct := N, bk := D.nx } σ2 H2) := by
  refine ⟨fun i m σ H => m = xs.length - i ∧ i ≤ xs.length ∧ Pv i σ H, ⟨xs.length, by simp, Nat.zero_le _, h0⟩, ?_⟩
  rintro i m σ H ⟨rfl, hi, p⟩
  have q := hl i σ H hi p
  by_cases hlt : i < xs.length
  · refine .inr ⟨⟨hlt, xs, q, rfl⟩, Pv (i + 1), fun σ' H' p' => ⟨xs.length - (i + 1), by omega, rfl, hlt, p'⟩, fun x H' y => ?_⟩
    obtain ⟨e, y⟩ := y
    subst e
    exact hs i x σ _ (y xs q) p
  · have e : i = xs.length := by omega
    subst e
    exact .inl ⟨Nat.le_refl _, hd σ H p⟩

/-! #### list(reversed(xs)) -/
theorem paired_rev {α β : Type} {F : α → β → Prop} : ∀ {xs : List α} {ys : List β}, Paired F xs ys → Paired F xs.reverse ys.reverse
  | _, _, .nil => .nil
  | _, _, .cons r p => by rw [List.reverse_cons, List.reverse_cons]; exact paired_snoc r (paired_rev p)
section
variable {prog : Program} {w : World} {A : Around} {E : Value → Shared → Prop} {s : Shared}
end
section
variable {prog : Program} {w : World} {A : Around} {s : Shared} {R : Result → Shared → Prop} {I l : Addr} {items : Array Value}
end
section
variable {prog : Program} {w : World} {A : Around} {E : Value → Shared → Prop} {s : Shared} {I l : Addr} {items : Array Value}
end
section
variable {X : Cx}
end
end NC
/-! ### defs within defs, in short -/
namespace NC
open PySem PySem.Spec PyProof.Rows L2
/-- a def of the text whose code is told -/
structure FunC (K : PySem.W.Frag) (x qual : Str) (st : Stmt) (f : Addr) (fd : FuncData) (c0 : Addr) : Prop where
  ex : ∃ (oc : Value) (od : Option Addr) (kV doc pm : Value) (an : Option Addr) (ct : Value) (osl : Array (Option Value)),
    fd = PySem.W.fnOf x qual (defArgs st) (defBody st) (defScope st) .none kV doc pm an (.ref c0) ct ∧ K.lookup f = some ⟨oc, od, .func fd, osl⟩ ∧ PySem.W.codeIn K (.ref c0) qual = true
theorem FunC.ok {P : Program} {w : World} {K : PySem.W.Frag} {mg : Str → Option Value} {base : Heap} {x qual : Str} {st : Stmt} {f : Addr} {fd : FuncData} {c0 : Addr} {N ps : List Str} {k : Nat} {sp : Sp} (F : FunC K x qual st f fd c0) (S : FnScope N ps (defScope st)) (len : ∀ vs H Q E, sp vs H Q E → vs.length = ps.length)
    (hbody : ∀ (A : Around) (outer : List Env) (s : Shared) (H : Hp) (vs : List V) (Q : VK) (E : XK), Room k (A.deeper (envOfC qual (defScope st) s.heap.objs.size f (.ref c0))) → sp vs H Q E →
      ∃ t, PSs (cxOf CX0 P w K mg base N qual (defScope st) f (.ref c0) A outer s H E).nox (defBody st) t ∧ t { nx := fun _ H' => Q .non H', rt := Q } (start N vs) H) : FnOk P w K mg base CX0 (k + 1) f fd ps sp := by
  obtain ⟨oc, od, kV, doc, pm, an, ct, osl, rfl, lk, hcd⟩ := F.ex
  refine fn_of lk hcd S len fun A outer s H vs Q E hr hsp => ?_
  obtain ⟨t, h, q⟩ := hbody A outer s H vs Q E hr hsp
  exact ⟨t, h.nox, q⟩
theorem NL.trans {H H1 H2 : Hp} (a : NL H H1) (b : NL H1 H2) : NL H H2 := fun x o n h => b x o n (a x o n h)
theorem NL.refl (H : Hp) : NL H H := fun _ _ _ h => h
end NC
/-! ### methods and classes by name -/
namespace NC
open PySem PySem.Spec PyProof.Rows L2
section
variable {X : Cx} {CX : CXT} {k : Nat} {C : Addr} {m x : Str} {ps : List Str} {sp : Sp} {E : XK} {o e : Expr} {es : List Expr} {ta : TE} {t : TA} {apos pos p : Pos}
end
/-- keys that are numbers below M, no two alike: at most M -/
theorem pig {κ : Type} [DecidableEq κ] (f : Nat → κ) : ∀ (M : Nat) (l : List κ), l.Nodup → (∀ k ∈ l, ∃ n : Nat, n < M ∧ k = f n) → l.length ≤ M
  | 0, l, _, h => by
    cases l with
    | nil => exact Nat.le_refl _
    | cons k r =>
      obtain ⟨n, hn, _⟩ := h k List.mem_cons_self
      exact absurd hn (Nat.not_lt_zero _)
  | M + 1, l, nd, h => by
    by_cases hm : f M ∈ l
    · have q := pig f M (l.erase (f M)) (nd.erase _) fun k hk => by
        obtain ⟨hne, hk2⟩ := (nd.mem_erase_iff).mp hk
        obtain ⟨n, hn, e⟩ := h k hk2
        refine ⟨n, ?_, e⟩
        have : n ≠ M := fun z => hne (by rw [e, z])
        omega
      rw [List.length_erase_of_mem hm] at q
      omega
    · have q := pig f M l nd fun k hk => by
        obtain ⟨n, hn, e⟩ := h k hk
        refine ⟨n, ?_, e⟩
        have : n ≠ M := fun z => hm (by rw [← z, ← e]; exact hk)
        omega
      omega
end NC
/-! ### the law's walk where defs make functions: their codes' tables are tracked, empty at first -/
namespace NC
open PySem PySem.Spec PyProof.Rows L2
theorem law_callT {P : Program} {w : World} {K : PySem.W.Frag} {mg mb : Str → Option Value} {k : Nat} {fa a : Addr} {fd : FuncData} {x : Str} {sp : Sp} {s₁ : Shared} {vs : List Value} {ns : List Int} {tabs : List (Addr × Addr)}
    (KX : K.In s₁.heap) (hns : s₁.heap.Ns mainGlobals mg) (hb : s₁.heap.Ns builtinsNs mb) (hbb : ∀ x : Str, x ≠ "__name__" → mb x = bootBuiltins x) (hlim : s₁.heap.NoLimit) (hg : s₁.gens = #[]) (BB : BltAt s₁.heap mg)
    (ha : s₁.heap.get? a = some { cls := .type "list", data := .seq vs.toArray }) (hi : IntsAre vs ns) (hl : ns.length ≤ sizeLine) (hr : Room k callerA)
    (hT1 : ∀ q ∈ tabs, PySem.W.codeHdIn K q.1 q.2 = true) (hT2 : ∀ q ∈ tabs, K.lookup q.2 = none) (hT3 : ∀ q ∈ tabs, s₁.heap.get? q.2 = some (PySem.W.tabObj #[]))
    (F : ∀ base : Heap, K.In base → base.Ns mainGlobals mg → BltAt base mg → FnOk P w K mg base CX0 k fa fd [x] sp) (hbind : ∀ (s : Shared) (u : Value), BindsTo s fd ⟨[u], []⟩ [(x, u)])
    (hsp : ∀ H : Hp, (∀ q ∈ tabs, H q.2 = some (.tbl #[])) → SqL K H a (ns.map V.int) → sp [.ref a] H (fun v _ => v = .bl true) fun _ _ _ => False) :
    codeAny (model P w) callerA (.call (.ref fa) ⟨[.ref a], []⟩) (fun r s' => r = .ok (.ret (.bool true)) ∧ OldK s₁.heap s'.heap ∧ s'.os = s₁.os ∧ AllBare s'.gens) s₁ := by
  have rv := vals_ints hi
  have lenV := hi.length
  have aT : ∀ q ∈ tabs, a ≠ q.2 := fun q hq z => by
    have e := hT3 q hq
    rw [← z, ha] at e
    cases e
  have core : ∀ H : Hp, (∀ q ∈ tabs, H q.2 = some (.tbl #[])) → SqL K H a (ns.map V.int) → HOk P w H s₁.heap →
      (∀ b u, H b = some u → (b = a ∧ ∃ xs, u = .frz { cls := .type "list", data := .seq vs.toArray } (.lst xs)) ∨ ((∃ q ∈ tabs, b = q.2) ∧ u = .tbl #[])) → (H a ≠ none → K.lookup a = none) →
      codeAny (model P w) callerA (.call (.ref fa) ⟨[.ref a], []⟩) (fun r s' => r = .ok (.ret (.bool true)) ∧ OldK s₁.heap s'.heap ∧ s'.os = s₁.os ∧ AllBare s'.gens) s₁ := by
    intro H hH hS hok hA hK
    have off : ∀ {b : Addr} {o : Obj}, s₁.heap.get? b = some o → o.cls ≠ .type "list" → o.cls ≠ .none → H b = none := fun {b o} e n1 n2 => by
      cases q : H b with
      | none => rfl
      | some u =>
        rcases hA b u q with ⟨z, _⟩ | ⟨⟨p, hp, z⟩, _⟩
        · rw [z, ha] at e; cases e; exact absurd rfl n1
        · rw [z, hT3 p hp] at e; cases e; exact absurd rfl n2
    have noA : ∀ {b : Addr} {o : Obj} {es : Array DictEntry} {ep : Nat}, s₁.heap.get? b = some o → o.data = .dict es ep → H b = none := fun {b o es ep} e d => by
      cases q : H b with
      | none => rfl
      | some u =>
        rcases hA b u q with ⟨z, _⟩ | ⟨⟨p, hp, z⟩, _⟩
        · rw [z, ha] at e; cases e; cases d
        · rw [z, hT3 p hp] at e; cases e; cases d
    have nsK : ∀ {b : Addr} {m : Str → Option Value}, s₁.heap.Ns b m → (hidT s₁.heap H).Ns b m := fun {b m} ⟨o, es, ep, e, d, r⟩ => ⟨o, es, ep, hidT_get e (noA e d), d, r⟩
    have hKb : K.In (hidT s₁.heap H) := fun b o e => hidT_get (KX b o e) (by
      cases q : H b with
      | none => rfl
      | some u =>
        rcases hA b u q with ⟨z, _⟩ | ⟨⟨p, hp, z⟩, _⟩
        · subst z
          rw [hK (by rw [q]; simp)] at e; cases e
        · rw [z, hT2 p hp] at e; cases e)
    have hBB : BltAt (hidT s₁.heap H) mg := by
      obtain ⟨bm, ob, h1, h2, h3, h4, h5, h6⟩ := BB
      exact ⟨bm, ob, h1, h2, hidT_get h3 (off h3 (by rw [h4]; decide) (by rw [h4]; decide)), h4, h5, h6⟩
    have hM : Mod K mg (hidT s₁.heap H) := ⟨hKb, nsK hns, ⟨mb, nsK hb, hbb⟩, let ⟨mc, h1, h2⟩ := hlim; ⟨mc, nsK h1, h2⟩⟩
    have e0 : Env0 P w K mg (hidT s₁.heap H) callerA [] s₁ H := ⟨rfl, hM, fun b o e => of_hidT e, Nat.le_of_eq (hidT_size _ _), trivial, fun b hb => absurd (show b ∈ ([] : List Addr) from hb) (by simp), hok, .of_eq hg⟩
    refine codeAny_mono ((F _ hKb (nsK hns) hBB).run callerA [] s₁ H ⟨[.ref a], []⟩ [.ref a] [.ref a] _ _ hr e0 (hbind s₁ (.ref a)) (.cons rfl .nil) (hsp H hH hS)) fun r s' h => ?_
    cases r with
    | error e => exact h.elim
    | ok fl =>
      cases fl with
      | next => exact False.elim h
      | brk => exact False.elim h
      | cont => exact False.elim h
      | ret u =>
        obtain ⟨v, H', os, bare, un, hok', r', q⟩ := h
        have q' : v = .bl true := q
        subst q'
        obtain rfl : u = Value.bool true := r'
        refine ⟨rfl, ⟨fun b o e => ?_, fun b o e => un.there b o e (by simp)⟩, os, bare⟩
        cases q : H b with
        | none => exact .inl (un.keep b o e q (by intro z; exact absurd (show b ∈ ([] : List Addr) from z) (by simp)) (by simp))
        | some u =>
          rcases hA b u q with ⟨_, xs, z⟩ | ⟨⟨p, hp, z⟩, zu⟩
          · subst z
            obtain ⟨e1, _⟩ := hok b _ q
            obtain ⟨e2, _⟩ := hok' b _ (un.frzs b _ _ q)
            rw [e] at e1; cases e1
            exact .inl e2
          · subst zu
            obtain ⟨more, z2⟩ := un.tbls b _ q
            have e1 : s₁.heap.get? b = some (PySem.W.tabObj #[]) := hok b _ q
            have e2 : s'.heap.get? b = some (PySem.W.tabObj (#[] ++ more)) := hok' b _ z2
            rw [e] at e1; cases e1
            have hc := (PySem.W.codeHd_of_K KX (hT1 p hp)).tab (hT3 p hp)
            rw [← z] at hc
            exact .inr (.inl ⟨hc.isCodeTable, rfl, #[], more, rfl, e2⟩)
  have tabOk : ∀ b, (∃ q ∈ tabs, b = q.2) → s₁.heap.get? b = some (PySem.W.tabObj #[]) := fun b ⟨q, hq, z⟩ => by rw [z]; exact hT3 q hq
  classical
  cases hk : K.lookup a with
  | some o =>
    have e := KX a o hk
    rw [ha] at e
    cases e
    refine core (fun b => if (∃ q ∈ tabs, b = q.2) then some (.tbl #[]) else none) (fun q hq => if_pos ⟨q, hq, rfl⟩) (.inr ⟨_, vs.toArray, _, hk, rfl, rfl, rfl, by rw [List.size_toArray, lenV]; exact hl, by simpa using rv⟩) (fun b u z => ?_) (fun b u z => ?_) fun z => absurd (if_neg fun ⟨q, hq, e⟩ => aT q hq e) z
    · by_cases hb : ∃ q ∈ tabs, b = q.2
      · have z' := (if_pos hb).symm.trans z
        cases z'
        exact tabOk b hb
      · have z' := (if_neg hb).symm.trans z
        cases z'
    · by_cases hb : ∃ q ∈ tabs, b = q.2
      · have z' := (if_pos hb).symm.trans z
        cases z'
        exact .inr ⟨hb, rfl⟩
      · have z' := (if_neg hb).symm.trans z
        cases z'
  | none =>
    have na : ¬ ∃ q ∈ tabs, a = q.2 := fun ⟨q, hq, e⟩ => aT q hq e
    refine core (fun b => if (∃ q ∈ tabs, b = q.2) then some (.tbl #[]) else if b = a then some (.frz { cls := .type "list", data := .seq vs.toArray } (.lst (ns.map V.int))) else none) (fun q hq => if_pos ⟨q, hq, rfl⟩)
      (.inl (.inr ⟨{ cls := .type "list", data := .seq vs.toArray }, (if_neg na).trans (if_pos rfl)⟩)) (fun b u z => ?_) (fun b u z => ?_) fun _ => hk
    · by_cases hb : ∃ q ∈ tabs, b = q.2
      · have z' := (if_pos hb).symm.trans z
        cases z'
        exact tabOk b hb
      · have z := (if_neg hb).symm.trans z
        by_cases hba : b = a
        · have z' := (if_pos hba).symm.trans z
          cases z'
          subst hba
          exact ⟨ha, by rw [List.length_map]; exact hl, vs, _, rv, ha⟩
        · have z' := (if_neg hba).symm.trans z
          cases z'
    · by_cases hb : ∃ q ∈ tabs, b = q.2
      · have z' := (if_pos hb).symm.trans z
        cases z'
        exact .inr ⟨hb, rfl⟩
      · have z := (if_neg hb).symm.trans z
        by_cases hba : b = a
        · have z' := (if_pos hba).symm.trans z
          cases z'
          exact .inl ⟨hba, _, rfl⟩
        · have z' := (if_neg hba).symm.trans z
          cases z'
theorem walk_T {l : PySem.W.OpenLaw} {k : Nat} {q : Program} {loose : List Str} {XP : (Str → Option Value) → Heap → Prop} {YP : World → Heap → Prop} {d : DefRec} {K : Params → PySem.W.Frag} {sp : PySem.W.Frag → Sp} {x : Str} {tabs : List (Addr × Addr)}
    (hn : l.most = some 63) (hdf : d.params.defaults = []) (hr : Room k callerA) (hY : ∀ (w : World) (h : Heap), YP w h → (K w.params).In h) (hYT : ∀ (w : World) (h : Heap), YP w h → ∀ q ∈ tabs, h.get? q.2 = some (PySem.W.tabObj #[]))
    (hT1 : ∀ P, ∀ q ∈ tabs, PySem.W.codeHdIn (K P) q.1 q.2 = true) (hT2 : ∀ P, ∀ q ∈ tabs, (K P).lookup q.2 = none)
    (F : ∀ (w : World) (mg : Str → Option Value) (fa : Addr) (h : Heap), (K w.params).In h → h.Ns mainGlobals mg → mg d.name = some (.ref fa) →
      ∃ fd : FuncData, (∀ (s : Shared) (u : Value), BindsTo s fd ⟨[u], []⟩ [(x, u)]) ∧
        ∀ base : Heap, (K w.params).In base → base.Ns mainGlobals mg → BltAt base mg → FnOk l.prog w (K w.params) mg base CX0 k fa fd [x] (sp (K w.params)))
    (hsp : ∀ (K : PySem.W.Frag) (H : Hp) (a : Addr) (ns : List Int), ns.length ≤ 63 → (∀ q ∈ tabs, H q.2 = some (.tbl #[])) → SqL K H a (ns.map V.int) → sp K [.ref a] H (fun v _ => v = .bl true) fun _ _ _ => False) :
    PySem.W.WalkO q loose XP YP l.row.toRowW d [] (fun f vs => PySem.call f vs) := by
  refine Att.attach_call hn hdf fun w s₀ s₁ mg mb fa o pm cd doc a vs ns G Y ho hd hcd hmg hobj hints hlen hg => ?_
  have KX := hY w _ Y
  obtain ⟨fd, hb, hF⟩ := F w mg fa _ KX G.T.g hmg
  exact law_callT KX G.T.g G.T.b G.T.builtins G.T.nolimit hg G.T.bmain hobj hints (Nat.le_trans hlen (by decide)) hr (hT1 _) (hT2 _) (hYT w _ Y) hF hb fun H hO hS => hsp _ H a ns hlen hO hS
end NC
/-! ### a comprehension over a list: one clause, no free names -/
namespace NC
open PySem PySem.Spec PyProof.Rows L2
section
variable {prog : Program} {w : World} {A : Around} {R : Result → Shared → Prop} {s : Shared}
end
/-- the context within it -/
def compCx (X : Cx) (N : List Str) (scope : Scope) (C : Addr) (s : Shared) (H : Hp) : Cx where
  prog := X.prog
  w := X.w
  K := X.K
  mg := X.mg
  base := X.base
  A := X.A
  N := N
  s₀ := s
  H₀ := H
  env := compEnv scope C X.env
  outer := X.stack
  stack := X.stack
  ex := []
  calm := X.calm
  fn := fun _ => false
  pn := []
  xe := fun _ _ => False
end NC
/-! ### zip of two lists; a comprehension over any iterator -/
namespace NC
open PySem PySem.Spec PyProof.Rows L2
/-- the two lists, as they stand at each turn: each turn makes a pair -/
def Itz (K : PySem.W.Frag) (l1 l2 : Addr) : It :=
  ⟨fun i H => ∃ xs ys x y, SqL K H l1 xs ∧ SqL K H l2 ys ∧ xs[i]? = some x ∧ ys[i]? = some y,
   fun i H v H' => ∃ p x y, v = .ref p ∧ H p = none ∧ H' = upd H p (.tup [x, y]) ∧ (∀ xs, SqL K H l1 xs → xs[i]? = some x) ∧ ∀ ys, SqL K H l2 ys → ys[i]? = some y,
   fun i H => ∃ xs ys, SqL K H l1 xs ∧ SqL K H l2 ys ∧ (xs.length ≤ i ∨ ys.length ≤ i)⟩
structure ZipOwn (z TI TO i1 i2 : Addr) : Prop where
  TIz : TI ≠ z
  TOz : TO ≠ z
  i1z : i1 ≠ z
  i2z : i2 ≠ z
  TITO : TI ≠ TO
  TIi1 : TI ≠ i1
  TIi2 : TI ≠ i2
  TOi1 : TO ≠ i1
  TOi2 : TO ≠ i2
  i12 : i1 ≠ i2
theorem list_apart {h : Heap} {l b : Addr} {xs : Array Value} {o : Obj} (p : h.IsList l xs) (e : h.get? b = some o) (n : o.cls ≠ .type "list") : l ≠ b := fun z => by
  obtain ⟨o', e', c, _⟩ := p
  rw [z, e] at e'
  cases e'
  exact n c
def ZipTn (z TI TO i1 i2 l1 l2 : Addr) (i : Nat) (h : Heap) : Prop := IsZip h z TI TO .none ∧ IsPair h TI (.ref i1) (.ref i2) ∧ (∃ a b, IsPair h TO a b) ∧ h.IsListIter i1 l1 i ∧ h.IsListIter i2 l2 i
theorem ZipTn.apart {z TI TO i1 i2 l1 l2 : Addr} {i : Nat} {h : Heap} {xs ys : Array Value} (D : ZipOwn z TI TO i1 i2) (t : ZipTn z TI TO i1 i2 l1 l2 i h) (p1 : h.IsList l1 xs) (p2 : h.IsList l2 ys) : ZipApart z TI TO i1 i2 l1 l2 := by
  obtain ⟨hz, hTI, ⟨a, b, hTO⟩, ⟨o1, e1, c1, _⟩, ⟨o2, e2, c2, _⟩⟩ := t
  have n1 : o1.cls ≠ .type "list" := by rw [c1]; simp
  have n2 : o2.cls ≠ .type "list" := by rw [c2]; simp
  exact ⟨D.TIz, D.TOz, D.i1z, D.i2z, D.TITO, D.TIi1, D.TIi2, D.TOi1, D.TOi2, D.i12, list_apart p1 hz (by simp), list_apart p1 hTO (by simp), list_apart p1 e1 n1, list_apart p1 e2 n2, list_apart p2 hz (by simp), list_apart p2 hTO (by simp), list_apart p2 e1 n1, list_apart p2 e2 n2⟩
section
variable {X : Cx} {pins : List (Addr × Obj)} {σ : L2.St} {H : Hp} {s : Shared} {h' : Heap}
/-- the iterator's own objects turn, and a new tuple is laid -/
theorem turned_new {t' : Nat} {ch : List Addr} {p : Addr} {xs : List V} (I : Inv X pins σ H s) (hf : ∀ b ∈ ch, FpOk X pins H b) (k : ∀ b o, b ∉ ch → s.heap.get? b = some o → h'.get? b = some o) (hp : s.heap.objs.size ≤ p) (new : ObjOk X.prog X.w (upd H p (.tup xs)) h' p (.tup xs)) :
    Inv X pins σ (upd H p (.tup xs)) { s with heap := h', toks := t' } := by
  have hn := I.hok.fresh hp
  have nch : ∀ b u, H b = some u → b ∉ ch := fun b u e z => by rw [(hf b z).1] at e; cases e
  refine I.step (g' := s.gens) (d' := s.drawn) (ch := ch) (fun b hb => ?_) (fun b o _ _ hc e _ => k b o hc e) (fun b o _ _ hc e _ => ⟨o.slots, k b o hc e⟩) (fun b o _ e n => ?_)
    (fun b o hc e => ⟨o, k b o hc e⟩) (fun b xs e => by rw [upd_ne (ne_of_none e hn)]; exact e) (fun b o u e => by rw [upd_ne (ne_of_none e hn)]; exact e) (fun b ps e => ⟨#[], by rw [upd_ne (ne_of_none e hn), e]; simp⟩) (fun m hm => ?_) (fun b u e => ?_) I.bare
  · obtain ⟨_, f1, f2, f3, f4, f5⟩ := hf b hb
    exact ⟨f3, f1, f4, f5⟩
  · rw [upd_ne fun z => by rw [z] at e; exact absurd (Nat.lt_of_lt_of_le (Heap.lt_size e) hp) (Nat.lt_irrefl _)]
    exact n
  · obtain ⟨o, es, ep, ho, r⟩ := hm
    exact ⟨o, es, ep, k _ o (fun z => (hf _ z).2.1 rfl) ho, r⟩
  · by_cases hb : b = p
    · subst hb
      rw [upd_same] at e
      cases e
      exact new
    · rw [upd_ne hb] at e
      refine (I.hok b u e).stay (fun c v hc q => k c v ?_ q) (fun c q => by rw [upd_ne (ne_of_none q hn)]; exact q) fun c xs q => by rw [upd_ne (ne_of_none q hn)]; exact q
      rcases hc with z | z
      · rw [z]; exact nch b u e
      · exact nch c _ z
theorem turned_all {t' : Nat} {ch : List Addr} (I : Inv X pins σ H s) (hf : ∀ b ∈ ch, FpOk X pins H b) (k : ∀ b o, b ∉ ch → s.heap.get? b = some o → h'.get? b = some o) : Inv X pins σ H { s with heap := h', toks := t' } := by
  have nch : ∀ b u, H b = some u → b ∉ ch := fun b u e z => by rw [(hf b z).1] at e; cases e
  refine I.step (g' := s.gens) (d' := s.drawn) (ch := ch) (fun b hb => ?_) (fun b o _ _ hc e _ => k b o hc e) (fun b o _ _ hc e _ => ⟨o.slots, k b o hc e⟩) (fun _ _ _ _ n => n)
    (fun b o hc e => ⟨o, k b o hc e⟩) (fun _ _ e => e) (fun _ _ _ e => e) (fun b ps e => ⟨#[], by rw [e]; simp⟩) (fun m hm => ?_) (fun b u e => ?_) I.bare
  · obtain ⟨_, f1, f2, f3, f4, f5⟩ := hf b hb
    exact ⟨f3, f1, f4, f5⟩
  · obtain ⟨o, es, ep, ho, r⟩ := hm
    exact ⟨o, es, ep, k _ o (fun z => (hf _ z).2.1 rfl) ho, r⟩
  · refine (I.hok b u e).stay (fun c v hc q => k c v ?_ q) (fun _ q => q) fun _ _ q => q
    rcases hc with z | z
    · rw [z]; exact nch b u e
    · exact nch c _ z
end
theorem turn_zip {P : Program} {w : World} {K : PySem.W.Frag} {elts : List Expr} {x1} {pos : Pos} {z TI TO i1 i2 : Addr} (l1 l2 : Addr) (D : ZipOwn z TI TO i1 i2) :
    Turn P w K (.Tuple elts x1 pos) (Itz K l1 l2) [z, TI, TO, i1, i2] z (ZipTn z TI TO i1 i2 l1 l2) where
  mem := by simp
  obj := fun i h st b hb => by
    obtain ⟨hz, hTI, ⟨a, c, hTO⟩, ⟨o1, e1, c1, d1⟩, ⟨o2, e2, c2, d2⟩⟩ := st
    simp only [List.mem_cons, List.not_mem_nil, or_false] at hb
    rcases hb with rfl | rfl | rfl | rfl | rfl
    · exact ⟨_, hz, fun v q => by have q' : Data.fields _ = Data.cell v := q; cases q'⟩
    · exact ⟨_, hTI, fun v q => by have q' : Data.seq _ _ = Data.cell v := q; cases q'⟩
    · exact ⟨_, hTO, fun v q => by have q' : Data.seq _ _ = Data.cell v := q; cases q'⟩
    · exact ⟨_, e1, fun v q => by rw [d1] at q; cases q⟩
    · exact ⟨_, e2, fun v q => by rw [d2] at q; cases q⟩
  keep := fun i h h' st k => by
    obtain ⟨hz, hTI, ⟨a, c, hTO⟩, h1, h2⟩ := st
    exact ⟨k z (by simp) _ hz, k TI (by simp) _ hTI, ⟨a, c, k TO (by simp) _ hTO⟩, h1.at fun o e => k i1 (by simp) o e, h2.at fun o e => k i2 (by simp) o e⟩
  item := by
    intro X hP hw hK hc i pins s σ H E I hf st hg
    subst hP hw hK
    obtain ⟨xs, ys, x, y, q1, q2, hx, hy⟩ := hg
    obtain ⟨its1, rv1, p1, hz1⟩ := I.list q1
    obtain ⟨its2, rv2, p2, hz2⟩ := I.list q2
    obtain ⟨u1, hu1, ru1⟩ := rv1.get hx
    obtain ⟨u2, hu2, ru2⟩ := rv2.get hy
    have DA := st.apart D p1.isList p2.isList
    obtain ⟨hz, hTI, ⟨a, b, hTO⟩, h1, h2⟩ := st
    refine wpAny_pyNext_zip_item DA hz hTI hTO h1 h2 p1.isList p2.isList (x := u1) (y := u2) (by simpa using hu1) (by simpa using hu2) fun h' a1 a2 a3 a4 a5 a6 a7 => ?_
    have lt : ∀ {c o}, s.heap.get? c = some o → s.heap.objs.size ≠ c := fun e => Nat.ne_of_gt (Heap.lt_size e)
    have ltz := lt hz
    refine ⟨_, rfl, wpAny_letOwnedTupleGo_zip a1 fun h'' hz' hs' => ?_⟩
    have k : ∀ b o, b ∉ [z, TI, TO, i1, i2] → s.heap.get? b = some o → h''.get? b = some o := fun b o hb e => by
      simp only [List.mem_cons, List.not_mem_nil, or_false, not_or] at hb
      exact hs'.extBut _ _ hb.1 (a7 b o hb.1 hb.2.2.1 hb.2.2.2.1 hb.2.2.2.2 e)
    have I2 : Inv X pins σ (upd H s.heap.objs.size (.tup [x, y])) { s with heap := h'', toks := s.toks } := turned_new I hf k (Nat.le_refl _) ⟨by show 2 ≤ sizeLine; exact small' (by decide), [u1, u2], .cons ru1 (.cons ru2 .nil), ⟨_, hs'.extBut _ _ ltz a5, rfl, _, rfl⟩⟩
    have hn := I.hok.fresh (Nat.le_refl _)
    refine ⟨.ref s.heap.objs.size, _, I2, rfl, ⟨_, x, y, rfl, hn, rfl, fun zs hz => by rw [I.list_inj hz q1]; exact hx, fun zs hz => by rw [I.list_inj hz q2]; exact hy⟩, ⟨hz', hs'.extBut _ _ D.TIz (a7 _ _ D.TIz D.TITO D.TIi1 D.TIi2 hTI), ⟨_, _, hs'.extBut _ _ D.TOz a2⟩, a3.extBut hs'.extBut D.i1z, a4.extBut hs'.extBut D.i2z⟩, fun b hb => ?_⟩
    rw [upd_ne ?_]
    · exact (hf b hb).1
    · obtain ⟨o1, e1, _⟩ := h1
      obtain ⟨o2, e2, _⟩ := h2
      simp only [List.mem_cons, List.not_mem_nil, or_false] at hb
      rcases hb with rfl | rfl | rfl | rfl | rfl
      · exact (lt hz).symm
      · exact (lt hTI).symm
      · exact (lt hTO).symm
      · exact (lt e1).symm
      · exact (lt e2).symm
  done := by
    intro X hP hw hK hc i pins s σ H E I hf st hg
    subst hP hw hK
    obtain ⟨xs, ys, q1, q2, hend⟩ := hg
    obtain ⟨its1, rv1, p1, hz1⟩ := I.list q1
    obtain ⟨its2, rv2, p2, hz2⟩ := I.list q2
    have DA := st.apart D p1.isList p2.isList
    obtain ⟨hz, hTI, ⟨a, b, hTO⟩, h1, h2⟩ := st
    have l1' := rv1.length
    have l2' := rv2.length
    refine wpAny_pyNext_zip_end (I.ok.hd hc) DA hz hTI hTO h1 h2 p1.isList p2.isList ?_ fun h' k => ⟨rfl, turned_all (t' := s.toks) I hf fun b o hb e => ?_⟩
    · rcases hend with h | h
      · exact .inl (by simp; omega)
      · exact .inr (by simp; omega)
    · simp only [List.mem_cons, List.not_mem_nil, or_false, not_or] at hb
      exact k b o hb.1 hb.2.2.1 hb.2.2.2.1 hb.2.2.2.2 e
  self := fun _ _ _ _ _ st h => wpAny_pyIter_zip st.1 h
section
variable {X : Cx}
end
/-- the context within a comprehension whose iterator's objects are at fp -/
def compCxI (X : Cx) (N : List Str) (scope : Scope) (C : Addr) (s : Shared) (H : Hp) (fp : List Addr) : Cx := { compCx X N scope C s H with ex := fp }
end NC
/-! ### lambdas, made functions whose code stays tracked, larger bases, all tables of a text -/
namespace NC
open PySem PySem.Spec PyProof.Rows L2

def lamArgs (e : Expr) : Arguments := match e with
  | .Lambda a _ _ _ => a
  | _ => defArgs (.Pass ⟨0, 0, 0, 0⟩)
def lamBody (e : Expr) : Expr := match e with
  | .Lambda _ b _ _ => b
  | x => x
def lamScope (e : Expr) : Scope := match e with
  | .Lambda _ _ s _ => s
  | _ => defScope (.Pass ⟨0, 0, 0, 0⟩)
def lamPos (e : Expr) : Pos := match e with
  | .Lambda _ _ _ p => p
  | _ => ⟨0, 0, 0, 0⟩
/-- the j-th argument of the call that the i-th statement gives back -/
def retArg (s : Stmt) (i j : Nat) : Expr := match (defBody s).getD i (.Pass ⟨0, 0, 0, 0⟩) with
  | .Return (some (.Call f es _ _)) _ => es.getD j f
  | _ => .Name "" ⟨0, 0, 0, 0⟩
def FnObjL (f c : Addr) (qual : Str) (params : Arguments) (body : Expr) (scope : Scope) (clos : List (Str × Addr)) : HO := .ext fun h => ∃ pm ctv, h.get? f = some (PySem.W.kla_obj "<lambda>" qual params body scope clos pm c ctv)
theorem fnObjL_ok {P : Program} {w : World} {H : Hp} {h : Heap} {f c : Addr} {qual : Str} {params : Arguments} {body : Expr} {scope : Scope} {clos : List (Str × Addr)} {pm ctv : Value}
    (x : h.get? f = some (PySem.W.kla_obj "<lambda>" qual params body scope clos pm c ctv)) : ObjOk P w H h f (FnObjL f c qual params body scope clos) :=
  ⟨⟨pm, ctv, x⟩, ⟨_, x⟩, fun _ _ ⟨p, t, e⟩ k => ⟨p, t, k _ e⟩⟩
section
variable {X : Cx} {pins : List (Addr × Obj)} {σ : L2.St} {H : Hp} {s : Shared}
end
theorem made_free {H H' : Hp} {P : Addr} {pos : Pos} {qual : Str} (sx : SameX H H') (tp : TabOk H' P pos qual) (oth : ∀ Q : Addr, Q ≠ P → ∀ ps, H Q = some (.tbl ps) → H' Q = some (.tbl ps)) {b : Addr} (n : H' b = none) : H b = none := by
  rcases sx.free n with e | ⟨ps, e⟩
  · exact e
  · by_cases hb : b = P
    · subst hb
      rcases tp with t | ⟨c, t, _⟩
      · rw [n] at t; cases t
      · rw [n] at t; cases t
    · have := oth b hb ps e
      rw [n] at this; cases this

/-! #### made functions whose code is tracked -/
section
variable {CX : CXT} {P : Program} {w : World} {K : PySem.W.Frag} {mg : Str → Option Value} {base : Heap} {k : Nat} {f c : Addr} {name qual : Str} {params : Arguments} {body : List Stmt} {bodyE : Expr} {scope : Scope} {clos : List (Str × Addr)} {doc pm ctv : Value} {ps fs : List Str} {fvs : List V} {sp : Sp}
theorem clo_inv {A : Around} {outer : List Env} {s : Shared} {H : Hp} {E : XK} {h₁ : Heap} {us : List Value} {vs : List V} {tk : Tok} (S : CloScope ps fs scope) (hc : CellsAt base clos fs fvs)
    (hclos : ∀ x c, clos.lookup x = some c → x ∈ fs) (inj : ∀ x y c, clos.lookup x = some c → clos.lookup y = some c → x = y) (hl : vs.length = ps.length) (hr : A.handled = none) (e0 : Env0 P w K mg base A outer s H) (r : Vals vs us)
    (hns : h₁.Ns s.heap.objs.size (fun x => (ps.zip us).reverse.lookup x)) (hk : ∀ b o, s.heap.get? b = some o → h₁.get? b = some o) :
    Inv (cxClo CX P w K mg base (ps ++ fs) qual scope f (.ref c) clos A outer s H E) [] ((vs ++ fvs).map some) H { s with heap := h₁, toks := tk } := by
  have ndP : ps.Nodup := (List.nodup_append.mp S.nd).1
  have noA : ∀ b : Addr, b ∉ ([] : List Addr) := fun b z => absurd z (by simp)
  have cellIn : ∀ x c, clos.lookup x = some c → ∃ u, base.IsCell c (some u) := fun x c e => by
    obtain ⟨i, hi, ex⟩ := List.getElem_of_mem (hclos x c e)
    obtain ⟨v, _, c', u, e1, e2, _⟩ := paired_get hc (show fs[i]? = some x by simp [hi, ex])
    rw [e] at e1
    cases e1
    exact ⟨u, e2⟩
  refine ⟨⟨e0.mod, S.kind, rfl, rfl, Nat.le_refl _, inj, fun y hy => ?_, fun y c h => (nomatch h), fun _ => hr, Around.frames_deeper e0.frames, .inr ⟨rfl, rfl⟩, fun b z => absurd z (noA b), e0.bs, e0.bsz, fun b _ _ => noA b, fun b z => absurd z (noA b), e0.funs, e0.frf⟩,
    rfl, e0.bare, Un.kept hk, ⟨_, hns, fun i y v h1 h2 h3 => ?_⟩, fun y c h => ?_, e0.hok.fresh (Nat.le_refl _), fun y c h => ?_, fun p hp => absurd (show p ∈ ([] : List (Addr × Obj)) from hp) (by simp), e0.hok.kept hk, ?_⟩
  · have hy' : scope.names.lookup y = some .cell ∨ scope.names.lookup y = some .free := hy
    rcases hy' with hy' | hy'
    · exact absurd rfl (S.nocell _ (PySem.mem_of_lookup hy'))
    · have hm := S.all _ (PySem.mem_of_lookup hy') rfl
      obtain ⟨i, hi, ex⟩ := List.getElem_of_mem hm
      obtain ⟨v, _, c', u, e1, _⟩ := paired_get hc (show fs[i]? = some y by simp [hi, ex])
      exact ⟨c', e1⟩
  · have h1 : (ps ++ fs)[i]? = some y := h1
    by_cases hi : i < ps.length
    · rw [List.getElem?_append_left hi] at h1
      rw [List.getElem?_map, List.getElem?_append_left (by omega)] at h2
      obtain ⟨v', ev, e2⟩ : ∃ v', vs[i]? = some v' ∧ some v' = some v := by
        cases q : vs[i]? with
        | none => rw [q] at h2; cases h2
        | some v' => rw [q] at h2; exact ⟨v', rfl, Option.some.inj h2⟩
      cases e2
      obtain ⟨u, eu, ru⟩ := r.get ev
      exact ⟨u, ru, .inl ⟨S.par y (List.mem_of_getElem? h1), zip_rev_get ndP h1 eu⟩⟩
    · rw [List.getElem?_append_right (by omega)] at h1
      rw [List.getElem?_map, List.getElem?_append_right (by omega)] at h2
      obtain ⟨v', ev, c', u, e1, e2, e3⟩ := paired_get hc h1
      rw [hl, ev] at h2
      cases (Option.some.inj h2)
      exact ⟨u, e3, .inr ⟨.inr (S.fre y (List.mem_of_getElem? h1)), c', e1, e2.keeps fun b o e => hk b o (e0.bs b o e).1⟩⟩
  · obtain ⟨u, o, e, d⟩ := cellIn y c h
    exact ⟨some u, o, hk _ _ (e0.bs _ _ e).1, d⟩
  · obtain ⟨u, o, e, d⟩ := cellIn y c h
    exact (e0.bs _ _ e).2
  · show ((vs ++ fvs).map some).length = (ps ++ fs).length
    rw [List.length_map, List.length_append, List.length_append, hl, Paired.length hc]
theorem fn_lamT (ho : base.get? f = some (PySem.W.kla_obj "<lambda>" qual params bodyE scope clos pm c ctv)) (S : CloScope ps fs scope) (hc : CellsAt base clos fs fvs)
    (hclos : ∀ x c, clos.lookup x = some c → x ∈ fs) (inj : ∀ x y c, clos.lookup x = some c → clos.lookup y = some c → x = y)
    (len : ∀ vs H Q E, sp vs H Q E → vs.length = ps.length) (hcd : ∀ vs H Q E, sp vs H Q E → H c = some (CodeX c qual))
    (hbody : ∀ (A : Around) (outer : List Env) (s : Shared) (H : Hp) (vs : List V) (Q : VK) (E : XK), Room k (A.deeper (PySem.W.envX qual scope s.heap.objs.size f (.ref c) clos)) → sp vs H Q E →
      ∃ t, PE (cxClo CX P w K mg base (ps ++ fs) qual scope f (.ref c) clos A outer s H E) bodyE t ∧ t ((vs ++ fvs).map some) H Q) :
    FnOk P w K mg base CX (k + 1) f (PySem.W.kla_fn "<lambda>" qual params bodyE scope clos pm (.ref c) ctv) ps sp := by
  refine ⟨len, fun A outer s H args us vs Q E hr e0 hb r hsp => ?_⟩
  have hl := len _ _ _ _ hsp
  have lim : s.heap.NoLimit := e0.mod.nolimit.keeps fun b o e => (e0.bs b o e).1
  have hcr : s.heap.CodeRec (.ref c) qual := (e0.hok c _ (hcd _ _ _ _ hsp)).1
  refine PySem.W.kla_callFunE hr.depth (e0.bs _ _ ho).1 rfl S.co S.gen rfl hcr (hb _ _ _ _ ?_)
  refine wpAny_newFunctionEnv S.nocell (fun y hy => S.par y.1 (List.of_mem_zip hy).1) (fun h₁ hns hsb => ⟨lim.fresh _ hsb, ?_⟩) S.kind
  have hk : ∀ b o, s.heap.get? b = some o → h₁.get? b = some o := fun b o e => hsb.extBut b o (Nat.ne_of_lt (Heap.lt_size e)) (Heap.get?_push_of_some _ e)
  obtain ⟨t, ht, hq⟩ := hbody A outer s H vs Q E (hr.deeper _) hsp
  have I : Inv (cxClo CX P w K mg base (ps ++ fs) qual scope f (.ref c) clos A outer s H E) [] ((vs ++ fvs).map some) H { s with heap := h₁, toks := s.toks + (ps.zip us).length } := clo_inv S hc hclos inj hl hr.hd e0 r hns hk
  show codeAny _ _ (.expr bodyE (PySem.W.envX qual scope s.heap.objs.size f (.ref c) clos)) _ _
  refine PySem.W.kla_codeExpr (wpAny_mono (ht [] _ _ H _ I hq) (fun u s' hs => ?_) fun e s' hs => hs)
  obtain ⟨v, H', J, rv, q⟩ := hs
  exact ⟨v, H', J.os, J.bare, J.base, J.hok, rv, q⟩
end

/-! #### a larger base -/
structure Larger (K : PySem.W.Frag) (mg : Str → Option Value) (base base' : Heap) : Prop where
  get : ∀ b o, base.get? b = some o → base'.get? b = some o
  sz : base.objs.size ≤ base'.objs.size
  mod : Mod K mg base
theorem FV.larger {P : Program} {w : World} {K : PySem.W.Frag} {mg : Str → Option Value} {base base' : Heap} {CX : CXT} {k : Nat} {f : Addr} {ps : List Str} {sp : Sp} (F : FV P w K mg base CX k f ps sp) (L : Larger K mg base base') : FV P w K mg base' CX k f ps sp := by
  obtain ⟨fd, oc, od, sl, F, ho, hb⟩ := F
  refine ⟨fd, oc, od, sl, ⟨F.len, fun A outer s H args us vs Q E hr e0 => F.run A outer s H args us vs Q E hr ⟨e0.frames, L.mod, fun b o e => e0.bs b o (L.get b o e), Nat.le_trans L.sz e0.bsz, ?_, e0.frf, e0.hok, e0.bare⟩⟩, L.get _ _ ho, hb⟩
  have all : ∀ l : List Env, s.heap.FunFrames base' l → s.heap.FunFrames base l := by
    intro l
    induction l with
    | nil => intro _; trivial
    | cons env r ih =>
      intro hl
      obtain ⟨hk, ⟨L', o, hf, hn, ho, hd⟩, hr⟩ := hl
      refine ⟨hk, ⟨L', o, hf, ?_, ho, hd⟩, ih hr⟩
      cases q : base.get? L' with
      | none => rfl
      | some u => rw [L.get _ _ q] at hn; cases hn
  exact all outer e0.funs
section
variable {X : Cx} {CX : CXT} {k : Nat} {ps : List Str} {E : XK} {x : Str} {p pos : Pos} {e : Expr} {es : List Expr} {t : TA}
/-- change(..), change a name that holds a made function, its parameters' names whatever they are -/
inductive TFvEI (X : Cx) (CX : CXT) (k : Nat) (E : XK) (i : Nat) (t : TA) (σ : L2.St) (H : Hp) (Q : VK) : Prop where
  | mk (f : _) (ps : _) (sp : _) (c1 : σ[i]? = some (some (.ref f))) (c2 : FV X.prog X.w X.K X.mg X.base CX k f ps sp) (c3 : t σ H fun vs H1 => sp vs H1 Q E)
def tFvE (X : Cx) (CX : CXT) (k : Nat) (E : XK) (i : Nat) (t : TA) : TE := fun σ H Q => TFvEI X CX k E i t σ H Q
theorem pe_fvE (i : Nat) (hr : Room k X.A) (hx : Passes CX X E) (ha : PA X (e :: es) t) (hN : X.N[i]? = some x := by rfl) (hv : Vis X.env.scope x := by first | exact Or.inl rfl | exact Or.inr (Or.inl rfl) | exact Or.inr (Or.inr rfl))
    (h : (e :: es).all plainE = true := by rfl) (hd : (x == ("__debug__" : Str)) = false := by decide) (hcd : (x == ("__classdict__" : Str)) = false := by decide) : PE X (.Call (.Name x p) (e :: es) [] pos) (tFvE X CX k E i t) := by
  intro pins s σ H Q I hw
  obtain ⟨f, ps, sp, hi, hF, hw⟩ := hw
  exact pe_fv (ps := ps) i hr hx ha hN hv h hd hcd pins s σ H Q I ⟨f, sp, hi, hF, hw⟩
/-- what may go into the larger base: made functions, or cells of this frame's own -/
def Goes2 (X : Cx) (H : Hp) (b : Addr) : Prop := (∃ φ, H b = some (.ext φ) ∧ ∀ h, φ h → ∃ o fd, h.get? b = some o ∧ o.data = .func fd) ∨ ∃ x, X.env.cells.lookup x = some b ∧ X.fn x = true
theorem Goes2.goes {H : Hp} {b : Addr} (g : Goes2 X H b) : Goes X H b := by
  rcases g with ⟨φ, e, _⟩ | g
  · exact .inl ⟨φ, e⟩
  · exact .inr g
theorem goes_lam {H : Hp} {f c : Addr} {qual : Str} {params : Arguments} {body : Expr} {scope : Scope} {clos : List (Str × Addr)} (h : H f = some (FnObjL f c qual params body scope clos)) : Goes2 X H f :=
  .inl ⟨_, h, fun _ ⟨_, _, e⟩ => ⟨_, _, e, rfl⟩⟩
/-- what is known of the larger base -/
structure Lg (X : Cx) (σ : L2.St) (H : Hp) (L : List Addr) (base' : Heap) : Prop where
  lg : Larger X.K X.mg X.base base'
  ext : ∀ b ∈ L, ∀ φ, H b = some (.ext φ) → φ base'
  cell : ∀ (i : Nat) (y : Str) (v : V) (c : Addr), X.N[i]? = some y → σ[i]? = some (some v) → X.env.scope.names.lookup y = some .cell → X.env.cells.lookup y = some c → c ∈ L → ∃ u, base'.IsCell c (some u) ∧ RelV v u
  only : ∀ b ∈ L, ∀ o, H b = some o → ∃ φ, o = .ext φ
  nocode : ∀ b ∈ L, ∀ q, H b ≠ some (CodeX b q)
inductive TExI (X : Cx) (sp : Heap → Sp) (E : XK) (σ : L2.St) (vs : List V) (H1 : Hp) (Q : VK) : Prop where
  | mk (L : _) (c1 : (∀ b ∈ L, Goes2 X H1 b)) (c2 : ∀ base', Lg X σ H1 L base' → sp base' vs (delH H1 L) (fun v H' => (∀ b ∈ L, H' b = none) → Q v (addH H' H1 L)) E)
def tEx (X : Cx) (sp : Heap → Sp) (E : XK) (t : TA) : TE := fun σ H Q => t σ H fun vs H1 => TExI X sp E σ vs H1 Q
theorem pe_ex {sp : Heap → Sp} (G : GB X.prog X.w X.K X.mg X.base CX k x ps sp) (hr : Room k X.A) (hg : Gl X x) (hx : ∀ (L : List Addr) (pins : List (Addr × Obj)) (σ : L2.St) (H : Hp) (s : Shared) (e : Value) (s' : Shared), Inv X pins σ H s → CX X.stack (delH H L) s E e s' → X.xe e s')
    (ha : PA X (e :: es) t) (h : (e :: es).all plainE = true := by rfl) (hdb : (x == ("__debug__" : Str)) = false := by decide) : PE X (.Call (.Name x p) (e :: es) [] pos) (tEx X sp E t) := by
  intro pins s σ H Q I hw
  rw [List.all_cons, Bool.and_eq_true] at h
  obtain ⟨f, fd0, F0, hm, hk, hb0⟩ := G X.base fun _ _ e => e
  refine wpAny_Call_Name_kw (ld_glob I hg hm ?_ hdb)
  refine PySem.W.callWith_K (h₀ := X.base) I.ok.mod.kin hk (thn (ha pos pins s σ H _ I hw) fun us s1 ⟨vs, H1, I1, r, q⟩ => ⟨I1.kIn, ?_⟩) (star_plain h.1) (star_any h.2)
  obtain ⟨L, g2, q⟩ := q
  have g : ∀ b ∈ L, Goes X H1 b := fun b hb => (g2 b hb).goes
  have kb : ∀ b o, X.base.get? b = some o → (extB s1.heap X.base L).get? b = some o := fun b o e => extB_get (I1.bk b o e) (by unfold keepL; rw [e]; rfl)
  have inL : ∀ b o, b ∈ L → s1.heap.get? b = some o → (extB s1.heap X.base L).get? b = some o := fun b o hb e => extB_get e (by unfold keepL; rw [show L.contains b = true by simpa using hb, Bool.or_true])
  obtain ⟨f', fd, F, hm', hk', hb⟩ := G _ kb
  rw [hm] at hm'
  cases hm'
  have hs := q (extB s1.heap X.base L) ⟨⟨kb, by rw [show (extB s1.heap X.base L).objs.size = s1.heap.objs.size from PySem.W.hideAll_size _ _]; exact Nat.le_trans I1.ok.bsz I1.sz, I1.ok.mod⟩, fun b hb φ e => by
    obtain ⟨p, ⟨o, eo⟩, st⟩ := I1.hok b _ e
    exact st _ _ p fun o' q' => inL b o' hb q', fun i y v c h1 h2 h3 h4 hc => by
    obtain ⟨m, hn, hl⟩ := I1.loc
    obtain ⟨u, ru, lk⟩ := hl i y v h1 h2 (.inr (.inl h3))
    rcases lk with ⟨z, _⟩ | ⟨_, c', e1, o, e2, e3⟩
    · have z' : X.env.scope.names.lookup y = some .local := z
      rw [h3] at z'; cases z'
    · rw [h4] at e1
      cases e1
      exact ⟨u, ⟨o, inL c o hc e2, e3⟩, ru⟩, fun b hb o e => by
    cases o with
    | ext φ => exact ⟨φ, rfl⟩
    | _ => exact absurd hb (Goes.notup g I1 e fun _ z => by cases z), fun b hb q e => by
    rcases g2 b hb with ⟨φ, e', h'⟩ | ⟨y, e', _⟩
    · rw [e] at e'
      have hφ : φ = fun h => h.CodeRec (.ref b) q := (HO.ext.inj (Option.some.inj e')).symm
      obtain ⟨p, _, _⟩ := I1.hok b _ e
      have p : s1.heap.CodeRec (.ref b) q := p
      obtain ⟨o, fd, e1, e2⟩ := h' s1.heap (by rw [hφ]; exact p)
      obtain ⟨c, o', vs, t, a1, a2, a3, a4⟩ := p
      cases a1
      rw [e1] at a2
      cases a2
      rw [e2] at a3
      cases a3
    · rw [I1.freeC y b e'] at e; cases e⟩
  have hl : us.length = ps.length := by rw [← r.length]; exact F.len _ _ _ _ hs
  have bnd := hb s1 us I1.kIn (by rw [List.append_nil]; exact hl)
  rw [List.append_nil] at bnd
  refine wpAny_call (codeAny_mono (F.run X.A X.stack s1 (delH H1 L) ⟨us, []⟩ us vs _ E hr (env0_ext I1 g) bnd r hs) fun r' s' hq => ?_)
  cases r' with
  | error e => exact hx L pins σ H1 s1 e s' I1 hq
  | ok fl =>
    cases fl with
    | ret u => exact after_ext I1 g hq
    | next => exact False.elim hq
    | brk => exact False.elim hq
    | cont => exact False.elim hq
end

theorem tups_del {H : Hp} {L : List Addr} (h : ∀ b ∈ L, ∀ o, H b = some o → ∃ φ, o = .ext φ) : Tups H (delH H L) := fun b xs e => by
  rw [delH_ne fun z => by obtain ⟨φ, q⟩ := h b z _ e; cases q]
  exact e
/-- what was the same over the larger base is the same -/
theorem same_add {H H' : Hp} {L : List Addr} (s : Same (delH H L) H') : Same H (addH H' H L) := fun b o e => by
  by_cases hb : b ∈ L
  · rw [addH_in hb]; exact e
  · rw [addH_ne hb]; exact s b o (by rw [delH_ne hb]; exact e)
theorem tups_add {H H' : Hp} {L : List Addr} (g : ∀ b ∈ L, H' b = none) : Tups H' (addH H' H L) := fun b xs e => by
  rw [addH_ne fun z => by rw [g b z] at e; cases e]
  exact e

/-! #### all tables of a text -/
abbrev Tabs := List (Addr × Pos × Str)
def TO (L : Tabs) (H : Hp) : Prop := ∀ x ∈ L, TabOk H x.1 x.2.1 x.2.2
/-- no two tables are at one place -/
def TDis (L : Tabs) : Prop := ∀ x ∈ L, ∀ y ∈ L, x.1 = y.1 → x = y
/-- all but lists and tables stays -/
def NLX (H H' : Hp) : Prop := ∀ b o, (∀ xs, o ≠ .lst xs) → (∀ ps, o ≠ .tbl ps) → H b = some o → H' b = some o
structure ST (L : Tabs) (H H' : Hp) : Prop where
  sx : SameX H H'
  to : TO L H'
section
variable {L : Tabs} {H H1 H2 H' : Hp} {D : List Addr}
theorem TO.same (t : TO L H) (s : Same H H') : TO L H' := fun x hx => (t x hx).same s
theorem TO.nl (t : TO L H) (s : NL H H') : TO L H' := fun x hx => (t x hx).nl s
theorem TO.made {P : Addr} {pos : Pos} {q : Str} (t : TO L H) (dis : TDis L) (m : (P, pos, q) ∈ L) (sx : SameX H H') (tp : TabOk H' P pos q) (oth : ∀ Q : Addr, Q ≠ P → ∀ ps, H Q = some (.tbl ps) → H' Q = some (.tbl ps)) : TO L H' := fun x hx => by
  by_cases hP : x.1 = P
  · have e := dis x hx (P, pos, q) m hP
    rw [e]
    exact tp
  · rcases t x hx with a | ⟨c, a, b⟩
    · exact .inl (oth _ hP _ a)
    · exact .inr ⟨c, oth _ hP _ a, sx _ _ (fun _ z => by cases z) b⟩
theorem TO.del (t : TO L H) (only : ∀ b ∈ D, ∀ o, H b = some o → ∃ φ, o = .ext φ) (nocode : ∀ b ∈ D, ∀ q, H b ≠ some (CodeX b q)) : TO L (delH H D) := fun x hx => by
  have nt : ∀ ps, H x.1 = some (.tbl ps) → x.1 ∉ D := fun ps e z => by obtain ⟨φ, q⟩ := only _ z _ e; cases q
  rcases t x hx with a | ⟨c, a, b⟩
  · exact .inl (by rw [delH_ne (nt _ a)]; exact a)
  · exact .inr ⟨c, by rw [delH_ne (nt _ a)]; exact a, by rw [delH_ne fun z => nocode c z _ b]; exact b⟩
theorem ST.refl (t : TO L H) : ST L H H := ⟨.refl _, t⟩
theorem ST.trans (a : ST L H H1) (b : ST L H1 H2) : ST L H H2 := ⟨a.sx.trans b.sx, b.to⟩
theorem ST.of_same (t : TO L H) (s : Same H H') : ST L H H' := ⟨.of s, t.same s⟩
theorem ST.same (a : ST L H H1) (s : Same H1 H2) : ST L H H2 := a.trans (.of_same a.to s)
theorem ST.tups (a : ST L H H') : Tups H H' := a.sx.tups
theorem NLX.refl (H : Hp) : NLX H H := fun _ _ _ _ h => h
theorem NLX.trans (a : NLX H H1) (b : NLX H1 H2) : NLX H H2 := fun x o n m h => b x o n m (a x o n m h)
theorem NLX.of_same (s : Same H H') : NLX H H' := fun b o _ _ h => s b o h
end
end NC
namespace NC
open PySem PySem.Spec PyProof.Rows L2
/-- all but A and tables stays -/
def KA (A : List Addr) (H H' : Hp) : Prop := ∀ b o, b ∉ A → (∀ ps, o ≠ .tbl ps) → H b = some o → H' b = some o
section
variable {A D : List Addr} {L : Tabs} {H H1 H2 H' : Hp} {p : Addr}
theorem KA.refl (A : List Addr) (H : Hp) : KA A H H := fun _ _ _ _ h => h
theorem KA.trans (a : KA A H H1) (b : KA A H1 H2) : KA A H H2 := fun x o n m h => b x o n m (a x o n m h)
theorem KA.of_same (s : Same H H') : KA A H H' := fun b o _ _ h => s b o h
theorem KA.sx (a : KA [] H H') : SameX H H' := fun b o m h => a b o (by simp) m h
theorem KA.keep (a : KA A H H1) (k : Keep [p] H1 H2) (n : H p = none) : KA A H H2 := fun b o nb m h => k b o (fun z => by rw [List.mem_singleton.mp z, n] at h; cases h) (a b o nb m h)
/-- own ones are dicts -/
def OwnD (A : List Addr) (H : Hp) : Prop := ∀ b ∈ A, ∃ kvs, H b = some (.dK kvs)
theorem KA.lst (a : KA A H H') (d : OwnD A H) {b : Addr} {xs : List V} (h : H b = some (.lst xs)) : H' b = some (.lst xs) := a b _ (fun z => by obtain ⟨_, q⟩ := d b z; rw [h] at q; cases q) (fun _ z => by cases z) h
theorem KA.tups (a : KA A H H') (d : OwnD A H) : Tups H H' := fun b xs h => a b _ (fun z => by obtain ⟨_, q⟩ := d b z; rw [h] at q; cases q) (fun _ z => by cases z) h
end
end NC
/-! ### paths and pairs in the heap, while some local lists change -/
namespace NC
open PySem PySem.Spec PyProof.Rows L2
inductive PathNI (L : List Addr) (H : Hp) (v : V) (p : List Int) : Prop where
  | mk (l : _) (c1 : v = .ref l) (c2 : l ∉ L) (c3 : H l = some (.lst (p.map V.int)))
def PathN (L : List Addr) (H : Hp) (v : V) (p : List Int) : Prop := PathNI L H v p
inductive ItemNI (L : List Addr) (H : Hp) (v : V) (q : Tm × List Int) : Prop where
  | mk (a : _) (tv : _) (pv : _) (c1 : v = .ref a) (c2 : H a = some (.tup [tv, pv])) (c3 : TermAt H tv q.1) (c4 : PathN L H pv q.2)
def ItemN (L : List Addr) (H : Hp) (v : V) (q : Tm × List Int) : Prop := ItemNI L H v q
/-- all of L are lists -/
def Lists (L : List Addr) (H : Hp) : Prop := ∀ x ∈ L, ∃ ys, H x = some (.lst ys)
theorem lists2 {H : Hp} {f d : Addr} {xs ys : List V} (h1 : H f = some (.lst xs)) (h2 : H d = some (.lst ys)) : Lists [f, d] H := fun x hx => by
  rcases List.mem_cons.mp hx with e | hx
  · exact ⟨xs, e ▸ h1⟩
  · exact ⟨ys, List.mem_singleton.mp hx ▸ h2⟩
theorem PathN.keep {L : List Addr} {H H' : Hp} {v : V} {p : List Int} (h : PathN L H v p) (k : Keep L H H') : PathN L H' v p := let ⟨l, e, n, q⟩ := h; ⟨l, e, n, k _ _ n q⟩
theorem ItemN.keep {L : List Addr} {H H' : Hp} {v : V} {q : Tm × List Int} (h : ItemN L H v q) (k : Keep L H H') (hL : Lists L H) : ItemN L H' v q :=
  let ⟨a, tv, pv, e, h1, h2, h3⟩ := h
  ⟨a, tv, pv, e, k.tups hL _ _ h1, h2.mono (k.tups hL), h3.keep k⟩
theorem PathN.path {L : List Addr} {H : Hp} {v : V} {p : List Int} (h : PathN L H v p) : PathV H v p := let ⟨l, e, _, q⟩ := h; ⟨l, e, q⟩
end NC
/-! ### pairs of a part and a number in the heap -/
namespace NC
open PySem PySem.Spec PyProof.Rows L2
inductive PairAtI (H : Hp) (v : V) (q : Tm × Nat) : Prop where
  | mk (a : _) (tv : _) (c1 : v = .ref a) (c2 : H a = some (.tup [tv, .int (q.2 : Int)])) (c3 : TermAt H tv q.1)
def PairAt (H : Hp) (v : V) (q : Tm × Nat) : Prop := PairAtI H v q
theorem PairAt.mono {H H' : Hp} {v : V} {q : Tm × Nat} (h : PairAt H v q) (k : Tups H H') : PairAt H' v q := let ⟨a, tv, e, h1, h2⟩ := h; ⟨a, tv, e, k _ _ h1, h2.mono k⟩
/-- lists and tuples stay -/
def LT (H H' : Hp) : Prop := (∀ b xs, H b = some (.lst xs) → H' b = some (.lst xs)) ∧ Tups H H'
theorem LT.refl (H : Hp) : LT H H := ⟨fun _ _ h => h, fun _ _ h => h⟩
theorem LT.trans {H H1 H2 : Hp} (a : LT H H1) (b : LT H1 H2) : LT H H2 := ⟨fun x xs h => b.1 _ _ (a.1 _ _ h), fun x xs h => b.2 _ _ (a.2 _ _ h)⟩
theorem LT.of {H H' : Hp} (s : Same H H') : LT H H' := ⟨fun b xs h => s _ _ h, fun b xs h => s _ _ h⟩
end NC
/-! ### terms as data; parts of the script -/
namespace NC
open PySem PySem.Spec PyProof.Rows L2
/-- a term as data -/
def termD : Tm → Dt
  | .name w => .tup [.str "name", .str w]
  | .place n => .tup [.str "place", .int n]
  | .form b => .tup [.str "form", termD b]
  | .call a b => .tup [.str "call", termD a, termD b]
theorem term_dat {K : PySem.W.Frag} {H : Hp} {v : V} {t : Tm} (h : TermAt H v t) : DAt K H (termD t) v := by
  induction h with
  | name h => exact ⟨_, _, rfl, SqT.of h, _, _, rfl, rfl, _, _, rfl, rfl, rfl⟩
  | place h => exact ⟨_, _, rfl, SqT.of h, _, _, rfl, rfl, _, _, rfl, rfl, rfl⟩
  | form h _ ih => exact ⟨_, _, rfl, SqT.of h, _, _, rfl, rfl, _, _, rfl, ih, rfl⟩
  | call h _ _ ih1 ih2 => exact ⟨_, _, rfl, SqT.of h, _, _, rfl, rfl, _, _, rfl, ih1, _, _, rfl, ih2, rfl⟩
theorem term_lim : ∀ (t : Tm) (n : Nat), t.deep ≤ n → Dt.Lim n (termD t)
  | .name _, n + 1, _ => ⟨by unfold Dt.Lim; trivial, by unfold Dt.Lim; trivial, trivial⟩
  | .place _, n + 1, _ => ⟨by unfold Dt.Lim; trivial, by unfold Dt.Lim; trivial, trivial⟩
  | .form b, n + 1, h => ⟨by unfold Dt.Lim; trivial, term_lim b n (by have h' : b.deep + 1 ≤ n + 1 := h; omega), trivial⟩
  | .call a b, n + 1, h => by
    have h' : max a.deep b.deep + 1 ≤ n + 1 := h
    exact ⟨by unfold Dt.Lim; trivial, term_lim a n (by omega), term_lim b n (by omega), trivial⟩
  | .name _, 0, h => by have h' : 1 ≤ 0 := h; omega
  | .place _, 0, h => by have h' : 1 ≤ 0 := h; omega
  | .form b, 0, h => by have h' : b.deep + 1 ≤ 0 := h; omega
  | .call a b, 0, h => by have h' : max a.deep b.deep + 1 ≤ 0 := h; omega
theorem TermAt.ref {H : Hp} {v : V} {t : Tm} (h : TermAt H v t) : ∃ a, v = .ref a := let ⟨a, _, _, e, _⟩ := h.tup; ⟨a, e⟩
theorem sql_same {K : PySem.W.Frag} {H H' : Hp} {a : Addr} {xs : List V} (h : SqL K H a xs) (s : Same H H') : SqL K H' a xs := by
  rcases h with (h | ⟨o, h⟩) | h
  · exact .inl (.inl (s _ _ h))
  · exact .inl (.inr ⟨o, s _ _ h⟩)
  · exact .inr h
/-- a part of a list of ints -/
theorem cut_ints (ns : List Int) (lo hi : Option Int) : ∃ ms : List Int, cutV (ns.map V.int) lo hi = ms.map V.int ∧ ms.length ≤ ns.length := by
  refine ⟨(ns.drop (HT.sIx (ns.map V.int).length 0 lo)).take (HT.sIx (ns.map V.int).length (ns.map V.int).length hi - HT.sIx (ns.map V.int).length 0 lo), ?_, ?_⟩
  · unfold cutV
    rw [List.map_take, List.map_drop]
  · rw [List.length_take, List.length_drop]
    omega
end NC
/-! ### named terms, their lines, and what is begun while a line is read -/
namespace NC
open PySem
inductive NT where
  | name (w : Str)
  | form (w : Str) (b : NT)
  | call (a b : NT)
def NT.size : NT → Nat
  | .name _ => 1
  | .form _ b => b.size + 1
  | .call a b => a.size + b.size + 1
def NT.deep : NT → Nat
  | .name _ => 1
  | .form _ b => b.deep + 1
  | .call a b => max a.deep b.deep + 1
theorem NT.deep_le : ∀ t : NT, t.deep ≤ t.size
  | .name _ => Nat.le_refl _
  | .form _ b => Nat.succ_le_succ b.deep_le
  | .call a b => by
    have h1 := a.deep_le
    have h2 := b.deep_le
    simp only [NT.deep, NT.size]
    omega
theorem NT.size_pos : ∀ t : NT, 1 ≤ t.size
  | .name _ => Nat.le_refl _
  | .form _ b => by simp only [NT.size]; omega
  | .call a b => by simp only [NT.size]; omega
/-- a word of letters -/
def Wd (w : Str) : Prop := w.cps.toList ≠ [] ∧ w.cps.toList.length ≤ 100 ∧ ∀ c ∈ w.cps.toList, 97 ≤ c ∧ c ≤ 122
def NT.ok : NT → Prop
  | .name w => Wd w
  | .form w b => Wd w ∧ b.ok
  | .call a b => a.ok ∧ b.ok
def NT.line : NT → List Nat
  | .name w => w.cps.toList
  | .form w b => w.cps.toList ++ 58 :: b.line
  | .call a b => 40 :: (a.line ++ 32 :: (b.line ++ [41]))
/-- what is begun: a form, a call whose one is read, a call whose other is read -/
inductive Bg where
  | form (w : Str)
  | one (b : NT)
  | two (a : NT)
def Bg.ok : Bg → Prop
  | .form w => Wd w
  | .one b => b.ok
  | .two a => a.ok
end NC
/-! ### the words and piles of a law's named terms -/
namespace NC
open PySem
/-- the word with that number -/
def goW (m : Nat) (w : Str) : Str := if h : m = 0 then w else goW ((m - 1) / 26) (⟨#[97 + (m - 1) % 26]⟩ ++ w)
termination_by m
decreasing_by omega
theorem goW_zero (w : Str) : goW 0 w = w := by rw [goW, dif_pos rfl]
theorem goW_pos {m : Nat} (h : m ≠ 0) (w : Str) : goW m w = goW ((m - 1) / 26) (⟨#[97 + (m - 1) % 26]⟩ ++ w) := by
  conv => lhs; rw [goW, dif_neg h]
def anyW (c : Int) : Str := goW (((if c < 0 then -c else c) % (10 : Int) ^ ((39 : Int).toNat)).toNat + 1) (Str.ofString "")
def letterS (c : Int) : Str := ⟨#[97 + (c % 26).toNat]⟩
def menuS (l : Str) (k : Int) : Str := ([Str.ofString "sab", Str.ofString "tab", Str.ofString "sat", Str.ofString "sob", l][(k % 5).toNat]?).getD l
def wordAt (ns : List Int) (j : Nat) : Str :=
  if ns.getD j 0 % 11 = 7 then anyW (ns.getD j 0 / 11) else menuS (letterS (ns.getD ((j + 1) % ns.length) 0)) (ns.getD j 0 / 5)
/-- one cell more, the top of the pile first -/
def stepN (S : List NT) (way : Int) (w : Str) : List NT :=
  match S with
  | [] => [.name w]
  | [t] => if way = 2 ∨ way = 3 then [.form w t] else [.name w, t]
  | b :: a :: r => if way = 2 ∨ way = 3 then .form w b :: a :: r else if way = 4 then .call a b :: r else .name w :: b :: a :: r
def pileN (ns : List Int) : Nat → List NT
  | 0 => []
  | j + 1 => stepN (pileN ns j) (ns.getD j 0 % 5) (wordAt ns j)
/-- what is left called one by the other -/
def closeN : List NT → NT
  | [] => .name (Str.ofString "sab")
  | b :: r => r.foldl (fun acc a => .call a acc) b
def wordyT (ns : List Int) : NT := closeN (pileN ns ns.length)
theorem stepN_form {t : NT} {r : List NT} {way : Int} {w : Str} (h : way = 2 ∨ way = 3) : stepN (t :: r) way w = .form w t :: r := by
  cases r with
  | nil => show (if way = 2 ∨ way = 3 then _ else _) = _; rw [if_pos h]
  | cons a r => show (if way = 2 ∨ way = 3 then _ else _) = _; rw [if_pos h]
theorem stepN_call {a b : NT} {r : List NT} {way : Int} {w : Str} (h : way = 4) : stepN (b :: a :: r) way w = .call a b :: r := by
  show (if way = 2 ∨ way = 3 then _ else if way = 4 then _ else _) = _
  rw [if_neg (by omega), if_pos h]
theorem stepN_name {S : List NT} {way : Int} {w : Str} (h1 : (way = 2 ∨ way = 3) → S = []) (h2 : way = 4 → S.length ≤ 1) : stepN S way w = .name w :: S := by
  cases S with
  | nil => rfl
  | cons b r =>
    have n1 : ¬ (way = 2 ∨ way = 3) := fun z => by cases h1 z
    cases r with
    | nil => show (if way = 2 ∨ way = 3 then _ else _) = _; rw [if_neg n1]
    | cons a r =>
      show (if way = 2 ∨ way = 3 then _ else if way = 4 then _ else _) = _
      rw [if_neg n1, if_neg fun z => by have := h2 z; simp at this]
theorem closeN_call (a b : NT) (r : List NT) : closeN (b :: a :: r) = closeN (.call a b :: r) := rfl
def sizesN (S : List NT) : Nat := (S.map NT.size).sum
theorem wd_any {w : Str} (c : Nat) (h1 : 97 ≤ c) (h2 : c ≤ 122) (hw : ∀ c ∈ w.cps.toList, 97 ≤ c ∧ c ≤ 122) : ∀ z ∈ ((⟨#[c]⟩ : Str) ++ w).cps.toList, 97 ≤ z ∧ z ≤ 122 := fun z hz => by
  have e : ((⟨#[c]⟩ : Str) ++ w).cps.toList = c :: w.cps.toList := by
    show (#[c] ++ w.cps).toList = _
    simp
  rw [e] at hz
  rcases List.mem_cons.mp hz with rfl | hz
  · exact ⟨h1, h2⟩
  · exact hw z hz
theorem wd_sab : Wd (Str.ofString "sab") := by
  have e : (Str.ofString "sab").cps.toList = [115, 97, 98] := by decide +kernel
  unfold Wd
  rw [e]
  decide
theorem wd_menu {l : Str} (h : Wd l) (k : Int) : Wd (menuS l k) := by
  have all : ∀ w ∈ [Str.ofString "sab", Str.ofString "tab", Str.ofString "sat", Str.ofString "sob", l], Wd w := by
    intro w hw
    have e2 : (Str.ofString "tab").cps.toList = [116, 97, 98] := by decide +kernel
    have e3 : (Str.ofString "sat").cps.toList = [115, 97, 116] := by decide +kernel
    have e4 : (Str.ofString "sob").cps.toList = [115, 111, 98] := by decide +kernel
    simp only [List.mem_cons, List.not_mem_nil, or_false] at hw
    rcases hw with rfl | rfl | rfl | rfl | rfl
    · exact wd_sab
    · unfold Wd; rw [e2]; decide
    · unfold Wd; rw [e3]; decide
    · unfold Wd; rw [e4]; decide
    · exact h
  unfold menuS
  cases q : [Str.ofString "sab", Str.ofString "tab", Str.ofString "sat", Str.ofString "sob", l][(k % 5).toNat]? with
  | none => exact h
  | some w => exact all w (List.mem_of_getElem? q)
theorem wd_letter (c : Int) : Wd (letterS c) := by
  refine ⟨by simp [letterS], by simp [letterS], fun z hz => ?_⟩
  have e : (letterS c).cps.toList = [97 + (c % 26).toNat] := rfl
  rw [e] at hz
  rw [List.mem_singleton.mp hz]
  omega
theorem goW_wd : ∀ (m : Nat) (w : Str), (∀ z ∈ w.cps.toList, 97 ≤ z ∧ z ≤ 122) → (1 ≤ w.cps.toList.length ∨ 1 ≤ m) → 26 ^ w.cps.toList.length * m ≤ 10 ^ 39 → w.cps.toList.length ≤ 50 → Wd (goW m w) := by
  intro m
  induction m using Nat.strongRecOn with
  | _ m ih =>
    intro w h1 h2 h3 h4
    by_cases hm : m = 0
    · subst hm
      rw [goW_zero]
      refine ⟨fun z => ?_, by omega, h1⟩
      rw [z] at h2
      simp at h2
    · rw [goW_pos hm]
      have e : ((⟨#[97 + (m - 1) % 26]⟩ : Str) ++ w).cps.toList = (97 + (m - 1) % 26) :: w.cps.toList := by
        show (#[97 + (m - 1) % 26] ++ w.cps).toList = _
        simp
      have hb : w.cps.toList.length ≤ 28 := by
        refine Nat.le_of_not_lt fun z => ?_
        have g1 : 26 ^ 28 ≤ 26 ^ w.cps.toList.length := Nat.pow_le_pow_right (by decide) (by omega)
        have g2 : 26 ^ w.cps.toList.length * 1 ≤ 26 ^ w.cps.toList.length * m := Nat.mul_le_mul_left _ (by omega)
        have g3 : ¬ (26 ^ 28 ≤ 10 ^ 39) := by decide +kernel
        omega
      refine ih ((m - 1) / 26) (by omega) _ (wd_any _ (by omega) (by omega) h1) ?_ ?_ ?_
      · rw [e]; left; simp
      · rw [e, List.length_cons]
        have g1 : 26 ^ (w.cps.toList.length + 1) * ((m - 1) / 26) = 26 ^ w.cps.toList.length * (26 * ((m - 1) / 26)) := by rw [Nat.pow_succ, Nat.mul_assoc]
        rw [g1]
        exact Nat.le_trans (Nat.mul_le_mul_left _ (by omega)) h3
      · rw [e, List.length_cons]; omega
theorem wd_anyW (c : Int) : Wd (anyW c) := by
  have e : (Str.ofString "").cps.toList = [] := by decide +kernel
  have hM1 : (if c < 0 then -c else c) % (10 : Int) ^ ((39 : Int).toNat) < 10 ^ 39 := Int.emod_lt_of_pos _ (by decide +kernel)
  refine goW_wd _ _ (by rw [e]; intro z hz; cases hz) (.inr (by omega)) ?_ (by rw [e]; decide)
  rw [e]
  show 1 * _ ≤ _
  omega
theorem wd_wordAt (ns : List Int) (j : Nat) : Wd (wordAt ns j) := by
  unfold wordAt
  split
  · exact wd_anyW _
  · exact wd_menu (wd_letter _) _
theorem stepN_ok {S : List NT} {way : Int} {w : Str} (h : ∀ t ∈ S, t.ok) (hw : Wd w) : ∀ t ∈ stepN S way w, t.ok := by
  intro t ht
  match S, h, ht with
  | [], _, ht =>
    rw [List.mem_singleton.mp ht]
    exact hw
  | [x], h, ht =>
    change t ∈ (if way = 2 ∨ way = 3 then [NT.form w x] else [NT.name w, x]) at ht
    split at ht
    · rw [List.mem_singleton.mp ht]
      exact ⟨hw, h x (by simp)⟩
    · rcases List.mem_cons.mp ht with rfl | ht
      · exact hw
      · exact h t ht
  | b :: a :: r, h, ht =>
    change t ∈ (if way = 2 ∨ way = 3 then NT.form w b :: a :: r else if way = 4 then NT.call a b :: r else NT.name w :: b :: a :: r) at ht
    split at ht
    · rcases List.mem_cons.mp ht with rfl | ht
      · exact ⟨hw, h b (by simp)⟩
      · exact h t (List.mem_cons_of_mem _ ht)
    · split at ht
      · rcases List.mem_cons.mp ht with rfl | ht
        · exact ⟨h a (by simp), h b (by simp)⟩
        · exact h t (List.mem_cons_of_mem _ (List.mem_cons_of_mem _ ht))
      · rcases List.mem_cons.mp ht with rfl | ht
        · exact hw
        · exact h t ht
theorem stepN_size (S : List NT) (way : Int) (w : Str) : sizesN (stepN S way w) ≤ sizesN S + 1 := by
  match S with
  | [] => exact Nat.le_refl _
  | [x] =>
    show sizesN (if way = 2 ∨ way = 3 then [NT.form w x] else [NT.name w, x]) ≤ _
    split <;> simp only [sizesN, List.map_cons, List.map_nil, List.sum_cons, List.sum_nil, NT.size] <;> omega
  | b :: a :: r =>
    show sizesN (if way = 2 ∨ way = 3 then NT.form w b :: a :: r else if way = 4 then NT.call a b :: r else NT.name w :: b :: a :: r) ≤ _
    split
    · simp only [sizesN, List.map_cons, List.sum_cons, NT.size]; omega
    · split <;> simp only [sizesN, List.map_cons, List.sum_cons, NT.size] <;> omega
theorem pile_ok (ns : List Int) : ∀ j, ∀ t ∈ pileN ns j, t.ok
  | 0, t, h => by cases h
  | j + 1, t, h => stepN_ok (pile_ok ns j) (wd_wordAt ns j) t h
theorem pile_size (ns : List Int) : ∀ j, sizesN (pileN ns j) ≤ j
  | 0 => Nat.le_refl _
  | j + 1 => Nat.le_trans (stepN_size _ _ _) (Nat.succ_le_succ (pile_size ns j))
theorem len_sizesN : ∀ S : List NT, S.length ≤ sizesN S
  | [] => Nat.le_refl _
  | t :: r => by
    have h1 := len_sizesN r
    have h2 := t.size_pos
    show r.length + 1 ≤ t.size + sizesN r
    omega
theorem closeN_size : ∀ (n : Nat) (S : List NT), S.length = n → (closeN S).size ≤ sizesN S + S.length + 1
  | _, [], _ => by show 1 ≤ _; omega
  | _, [t], _ => by show t.size ≤ t.size + 0 + 1 + 1; omega
  | n + 1, b :: a :: r, hn => by
    rw [closeN_call]
    have := closeN_size n (.call a b :: r) (by simp at hn ⊢; omega)
    simp only [sizesN, List.map_cons, List.sum_cons, NT.size, List.length_cons] at this ⊢
    omega
theorem wordyT_size (ns : List Int) : (wordyT ns).size ≤ 2 * ns.length + 1 := by
  have h1 := closeN_size _ (pileN ns ns.length) rfl
  have h2 := pile_size ns ns.length
  have h3 := len_sizesN (pileN ns ns.length)
  unfold wordyT
  omega
end NC
/-! ### named terms told by numbers -/
namespace NC
open PySem
/-- the parts with the words round them, the innermost word first -/
def NT.parts : NT → List Str → List (NT × List Str)
  | .name w, ws => [(.name w, ws)]
  | .form w b, ws => (.form w b, ws) :: b.parts (w :: ws)
  | .call a b, ws => (.call a b, ws) :: (a.parts ws ++ b.parts ws)
def NT.lparts : NT → List Str → List (NT × List Str)
  | .name w, ws => [(.name w, ws)]
  | .form w b, ws => (.form w b, ws) :: b.lparts (w :: ws)
  | .call a b, ws => (.call a b, ws) :: (b.lparts ws ++ a.lparts ws)
theorem nparts_len : ∀ (t : NT) (ws : List Str), (t.parts ws).length = t.size
  | .name _, _ => rfl
  | .form w b, ws => by show (b.parts (w :: ws)).length + 1 = _; rw [nparts_len b]; rfl
  | .call a b, ws => by show (a.parts ws ++ b.parts ws).length + 1 = _; rw [List.length_append, nparts_len a, nparts_len b]; rfl
theorem nlparts_len : ∀ (t : NT) (ws : List Str), (t.lparts ws).length = t.size
  | .name _, _ => rfl
  | .form w b, ws => by show (b.lparts (w :: ws)).length + 1 = _; rw [nlparts_len b]; rfl
  | .call a b, ws => by
    show (b.lparts ws ++ a.lparts ws).length + 1 = _
    rw [List.length_append, nlparts_len a, nlparts_len b]
    show b.size + a.size + 1 = a.size + b.size + 1
    omega
/-- how many words lie round a part -/
theorem nparts_le : ∀ (t : NT) (ws : List Str) (q : NT × List Str), q ∈ t.parts ws → q.2.length ≤ ws.length + t.size
  | .name _, ws, q, h => by rw [List.mem_singleton.mp h]; show ws.length ≤ _; omega
  | .form w b, ws, q, h => by
    rcases List.mem_cons.mp (show q ∈ (NT.form w b, ws) :: b.parts (w :: ws) from h) with e | h
    · rw [e]; show ws.length ≤ _; omega
    · have := nparts_le b (w :: ws) q h
      rw [List.length_cons] at this
      show _ ≤ ws.length + (b.size + 1)
      omega
  | .call a b, ws, q, h => by
    rcases List.mem_cons.mp (show q ∈ (NT.call a b, ws) :: (a.parts ws ++ b.parts ws) from h) with e | h
    · rw [e]; show ws.length ≤ _; omega
    · rcases List.mem_append.mp h with h | h
      · have := nparts_le a ws q h
        show _ ≤ ws.length + (a.size + b.size + 1)
        omega
      · have := nparts_le b ws q h
        show _ ≤ ws.length + (a.size + b.size + 1)
        omega
section
variable {g : Str → List Str → T Str}
def NT.num (g : Str → List Str → T Str) : NT → List Str → T Str
  | .name w, ws => g w ws
  | .form w b, ws => .form (b.num g (w :: ws))
  | .call a b, ws => .call (a.num g ws) (b.num g ws)
def runN (g : Str → List Str → T Str) : List (NT × List Str) → List (T Str) → Option (List (T Str))
  | [], S => some S
  | (.name w, ws) :: ys, S => runN g ys (g w ws :: S)
  | (.form _ _, _) :: ys, x :: S => runN g ys (.form x :: S)
  | (.call _ _, _) :: ys, x :: y :: S => runN g ys (.call x y :: S)
  | _, _ => none
def runM (g : Str → List Str → T Str) : List (NT × List Str) → List (T Str) → Option (List (T Str))
  | [], S => some S
  | (.name w, ws) :: ys, S => runM g ys (g w ws :: S)
  | (.form _ _, _) :: ys, x :: S => runM g ys (.form x :: S)
  | (.call _ _, _) :: ys, x :: y :: S => runM g ys (.call y x :: S)
  | _, _ => none
theorem runN_parts : ∀ (t : NT) (ws : List Str) (ys : List (NT × List Str)) (S : List (T Str)), runN g ((t.parts ws).reverse ++ ys) S = runN g ys (t.num g ws :: S)
  | .name _, _, _, _ => rfl
  | .form w b, ws, ys, S => by
    show runN g (((NT.form w b, ws) :: b.parts (w :: ws)).reverse ++ ys) S = _
    rw [List.reverse_cons, List.append_assoc, runN_parts b]
    rfl
  | .call a b, ws, ys, S => by
    show runN g (((NT.call a b, ws) :: (a.parts ws ++ b.parts ws)).reverse ++ ys) S = _
    rw [List.reverse_cons, List.reverse_append, List.append_assoc, List.append_assoc, runN_parts b, runN_parts a]
    rfl
theorem runM_parts : ∀ (t : NT) (ws : List Str) (ys : List (NT × List Str)) (S : List (T Str)), runM g ((t.lparts ws).reverse ++ ys) S = runM g ys (t.num g ws :: S)
  | .name _, _, _, _ => rfl
  | .form w b, ws, ys, S => by
    show runM g (((NT.form w b, ws) :: b.lparts (w :: ws)).reverse ++ ys) S = _
    rw [List.reverse_cons, List.append_assoc, runM_parts b]
    rfl
  | .call a b, ws, ys, S => by
    show runM g (((NT.call a b, ws) :: (b.lparts ws ++ a.lparts ws)).reverse ++ ys) S = _
    rw [List.reverse_cons, List.reverse_append, List.append_assoc, List.append_assoc, runM_parts a, runM_parts b]
    rfl
theorem runN_all (t : NT) (ws : List Str) : runN g (t.parts ws).reverse [] = some [t.num g ws] := by
  have := runN_parts (g := g) t ws [] []
  rw [List.append_nil] at this
  rw [this]
  rfl
theorem runM_all (t : NT) (ws : List Str) : runM g (t.lparts ws).reverse [] = some [t.num g ws] := by
  have := runM_parts (g := g) t ws [] []
  rw [List.append_nil] at this
  rw [this]
  rfl
theorem runN_form {w : Str} {b : NT} {k : List Str} {ys : List (NT × List Str)} {S r : List (T Str)} (h : runN g ((.form w b, k) :: ys) S = some r) : ∃ x S', S = x :: S' ∧ runN g ys (.form x :: S') = some r := by
  cases S with
  | nil => cases h
  | cons x S => exact ⟨x, S, rfl, h⟩
theorem runN_call {a b : NT} {k : List Str} {ys : List (NT × List Str)} {S r : List (T Str)} (h : runN g ((.call a b, k) :: ys) S = some r) : ∃ x y S', S = x :: y :: S' ∧ runN g ys (.call x y :: S') = some r := by
  cases S with
  | nil => cases h
  | cons x S =>
    cases S with
    | nil => cases h
    | cons y S => exact ⟨x, y, S, rfl, h⟩
theorem runM_form {w : Str} {b : NT} {k : List Str} {ys : List (NT × List Str)} {S r : List (T Str)} (h : runM g ((.form w b, k) :: ys) S = some r) : ∃ x S', S = x :: S' ∧ runM g ys (.form x :: S') = some r := by
  cases S with
  | nil => cases h
  | cons x S => exact ⟨x, S, rfl, h⟩
theorem runM_call {a b : NT} {k : List Str} {ys : List (NT × List Str)} {S r : List (T Str)} (h : runM g ((.call a b, k) :: ys) S = some r) : ∃ x y S', S = x :: y :: S' ∧ runM g ys (.call y x :: S') = some r := by
  cases S with
  | nil => cases h
  | cons x S =>
    cases S with
    | nil => cases h
    | cons y S => exact ⟨x, y, S, rfl, h⟩
end
/-- a word by its number among the words round it, the innermost 0 -/
def numAt (w : Str) : List Str → Nat → T Str
  | [], _ => .name w
  | u :: ws, n => if u = w then .place n else numAt w ws (n + 1)
def byNum (w : Str) (ws : List Str) : T Str := numAt w ws 0
def NT.numbered (t : NT) : T Str := t.num byNum []
theorem byNum_one (w : Str) (ws : List Str) : (byNum w ws).size = 1 := by
  have h : ∀ (ws : List Str) (n : Nat), (numAt w ws n).size = 1 := fun ws => by
    induction ws with
    | nil => intro n; rfl
    | cons u ws ih =>
      intro n
      unfold numAt
      split
      · rfl
      · exact ih _
  exact h ws 0
theorem num_size : ∀ (t : NT) (ws : List Str), (t.num byNum ws).size = t.size
  | .name w, ws => byNum_one w ws
  | .form w b, ws => by show (b.num byNum (w :: ws)).size + 1 = b.size + 1; rw [num_size b]
  | .call a b, ws => by show (a.num byNum ws).size + (b.num byNum ws).size + 1 = a.size + b.size + 1; rw [num_size a, num_size b]
end NC
/-! ### texts: join, parts, the signs one by one; raise where it is not reached -/
namespace NC
open PySem PySem.Spec PyProof.Rows L2
section
variable {X : Cx}
end
/-- the signs of a text -/
def Its (x : Str) : It := ⟨fun i _ => i < x.cps.size, fun i H v H' => H' = H ∧ ∃ c, x.cps[i]? = some c ∧ v = .str ⟨#[c]⟩, fun i _ => x.cps.size ≤ i⟩
section
variable {X : Cx} {tg : Expr}
end
end NC
namespace NC
open PySem PySem.Spec PyProof.Rows L2
section
variable {X : Cx} {CX : CXT} {k : Nat} {C : Addr} {m : Str} {ps : List Str} {sp : Sp} {E : XK} {o : Expr} {ta : TE} {apos pos : Pos}
end
end NC
namespace NC
open PySem PySem.Spec PyProof.Rows L2
section
variable {X : Cx} {o e : Expr} {to te : TE} {apos cpos : Pos}
inductive RExI (x : V) (vs : List V) (H : Hp) (Q : VK) : Prop where
  | mk (l : _) (b : _) (xs : _) (zs : _) (c1 : x = .ref l) (c2 : vs = [.ref b]) (c3 : H l = some (.lst xs)) (c4 : H b = some (.lst zs)) (c5 : xs.length + zs.length ≤ sizeLine) (c6 : ∀ H', Keep [l] H H' → H' l = some (.lst (xs ++ zs)) → Q .non H')
def rEx : V → List V → Hp → VK → Prop := fun x vs H Q => RExI x vs H Q
theorem mt_ex : MtM X "list.extend" rEx := MtM.imp mt_extend fun _ _ _ _ ⟨l, b, xs, zs, e1, e2, h1, h2, h3, q⟩ => ⟨l, b, xs, zs, e1, e2, h1, h2, h3, q _ (keep_set (by simp)) upd_same⟩
/-- xs.extend(e) -/
theorem pExt (ho : PE X o to) (he : PE X e te) (h : plainE e = true := by rfl) (hbase : attributeBase o "extend" X.env (eval o X.env) = eval o X.env := by rfl) (hline : (apos.endLine == cpos.line) = true := by rfl) :
    PE X (.Call (.Attribute o "extend" apos) [e] [] cpos) (tBM X.K "list" rEx to (tCons te tNil)) :=
  pe_bm PySem.F.plainAttrs_list PySem.F.slot_list_extend PySem.F.type_list_extend mt_ex ho (pa_c he pa_nil h) hbase (by
    rw [star_all (es := [e]) (by simp [h])]
    rfl) hline (star_plain h) rfl
end
theorem cps_append (a b : Str) : (a ++ b).cps.toList = a.cps.toList ++ b.cps.toList := by
  show (a.cps ++ b.cps).toList = _
  simp
end NC
/-! ### named terms in the heap -/
namespace NC
open PySem PySem.Spec PyProof.Rows L2
inductive NamedAt (H : Hp) : V → NT → Prop where
  | name {a : Addr} {w : Str} (h : H a = some (.tup [.str "name", .str w])) : NamedAt H (.ref a) (.name w)
  | form {a : Addr} {w : Str} {v : V} {b : NT} (h : H a = some (.tup [.str "form", .str w, v])) (hb : NamedAt H v b) : NamedAt H (.ref a) (.form w b)
  | call {a : Addr} {v u : V} {x y : NT} (h : H a = some (.tup [.str "call", v, u])) (hx : NamedAt H v x) (hy : NamedAt H u y) : NamedAt H (.ref a) (.call x y)
theorem NamedAt.mono {H H' : Hp} {v : V} {t : NT} (h : NamedAt H v t) (k : Tups H H') : NamedAt H' v t := by
  induction h with
  | name h => exact .name (k _ _ h)
  | form h _ ih => exact .form (k _ _ h) ih
  | call h _ _ i1 i2 => exact .call (k _ _ h) i1 i2
theorem NamedAt.same {H H' : Hp} {v : V} {t : NT} (h : NamedAt H v t) (k : Same H H') : NamedAt H' v t := h.mono (.of_same k)
theorem NamedAt.ref {H : Hp} {v : V} {t : NT} (h : NamedAt H v t) : ∃ a, v = .ref a := by
  cases h with
  | name _ => exact ⟨_, rfl⟩
  | form _ _ => exact ⟨_, rfl⟩
  | call _ _ _ => exact ⟨_, rfl⟩
theorem nameds_mono {H H' : Hp} {vs : List V} {ts : List NT} (h : Paired (NamedAt H) vs ts) (k : Tups H H') : Paired (NamedAt H') vs ts := paired_imp (fun _ _ z => z.mono k) h
/-- what is begun, in the heap -/
def BgAt (H : Hp) (v : V) : Bg → Prop
  | .form w => ∃ a, v = .ref a ∧ H a = some (.tup [.str "form", .str w])
  | .one _ => ∃ a, v = .ref a ∧ H a = some (.tup [.str "call"])
  | .two t => ∃ a u, v = .ref a ∧ H a = some (.tup [.str "call", u]) ∧ NamedAt H u t
theorem BgAt.mono {H H' : Hp} {v : V} {b : Bg} (h : BgAt H v b) (k : Tups H H') : BgAt H' v b := by
  cases b with
  | form w => obtain ⟨a, e, q⟩ := h; exact ⟨a, e, k _ _ q⟩
  | one t => obtain ⟨a, e, q⟩ := h; exact ⟨a, e, k _ _ q⟩
  | two t => obtain ⟨a, u, e, q, r⟩ := h; exact ⟨a, u, e, k _ _ q, r.mono k⟩
end NC
/-! ### named parts and the words round them, in the heap -/
namespace NC
open PySem PySem.Spec PyProof.Rows L2
/-- the words round a part: pairs, None behind the outermost -/
def ArAt (H : Hp) : List Str → V → Prop
  | [], v => v = .non
  | w :: ws, v => ∃ a u, v = .ref a ∧ H a = some (.tup [.str w, u]) ∧ ArAt H ws u
theorem ArAt.mono {H H' : Hp} (k : Tups H H') : ∀ {ws : List Str} {v : V}, ArAt H ws v → ArAt H' ws v
  | [], _, h => h
  | w :: ws, _, h => let ⟨a, u, e, q, r⟩ := h; ⟨a, u, e, k _ _ q, ArAt.mono k r⟩
inductive NPairAtI (H : Hp) (v : V) (q : NT × List Str) : Prop where
  | mk (a : _) (tv : _) (av : _) (c1 : v = .ref a) (c2 : H a = some (.tup [tv, av])) (c3 : NamedAt H tv q.1) (c4 : ArAt H q.2 av)
def NPairAt (H : Hp) (v : V) (q : NT × List Str) : Prop := NPairAtI H v q
theorem NPairAt.mono {H H' : Hp} {v : V} {q : NT × List Str} (h : NPairAt H v q) (k : Tups H H') : NPairAt H' v q := let ⟨a, tv, av, e, h1, h2, h3⟩ := h; ⟨a, tv, av, e, k _ _ h1, h2.mono k, h3.mono k⟩
def pendN (its : List (NT × List Str)) : List (NT × List Str) := its.reverse.flatMap fun q => q.1.parts q.2
theorem pendN_snoc (its : List (NT × List Str)) (q : NT × List Str) : pendN (its ++ [q]) = q.1.parts q.2 ++ pendN its := by
  unfold pendN
  rw [List.reverse_append]
  rfl
def sizesQ (its : List (NT × List Str)) : Nat := (its.map fun q => q.1.size).sum
theorem sizesQ_snoc (its : List (NT × List Str)) (q : NT × List Str) : sizesQ (its ++ [q]) = sizesQ its + q.1.size := by
  unfold sizesQ
  rw [List.map_append, List.sum_append]
  simp
theorem len_sizesQ : ∀ its : List (NT × List Str), its.length ≤ sizesQ its
  | [] => Nat.le_refl _
  | q :: its => by
    have h1 := len_sizesQ its
    have h2 := NT.size_pos q.1
    unfold sizesQ at *
    rw [List.map_cons, List.sum_cons, List.length_cons]
    omega
end NC
/-! ### lambdas where the code's table holds several -/
namespace NC
open PySem PySem.Spec PyProof.Rows L2
/-- the j-th argument of the call that the i-th statement sets a name to -/
def asgArg (s : Stmt) (i j : Nat) : Expr := match (defBody s).getD i (.Pass ⟨0, 0, 0, 0⟩) with
  | .Assign _ (.Call f es _ _) _ => es.getD j f
  | _ => .Name "" ⟨0, 0, 0, 0⟩
section
inductive TLamGI (P : Addr) (pos : Pos) (qual : Str) (params : Arguments) (body : Expr) (scope : Scope) (clos : List (Str × Addr)) (H : Hp) (Q : VK) : Prop where
  | new (ps : Array Value) (t : H P = some (.tbl ps)) (ok : TriplesOk ps.toList) (no : codeAmong pos ps.toList = none)
      (k : ∀ f c H', H f = none → SameX H H' → H' P = some (.tbl (ps ++ #[rawInt pos.line, rawInt pos.col, .ref c])) → H' c = some (CodeX c qual) → H' f = some (FnObjL f c qual params body scope clos) →
        (∀ Q : Addr, Q ≠ P → ∀ ps, H Q = some (.tbl ps) → H' Q = some (.tbl ps)) → Q (.ref f) H')
  | old (ps : Array Value) (c : Addr) (t : H P = some (.tbl ps)) (ok : TriplesOk ps.toList) (hit : codeAmong pos ps.toList = some (.ref c)) (tc : H c = some (CodeX c qual))
      (k : ∀ f H', H f = none → Same H H' → H' f = some (FnObjL f c qual params body scope clos) → Q (.ref f) H')
def tLamG (P : Addr) (pos : Pos) (qual : Str) (params : Arguments) (body : Expr) (scope : Scope) (clos : List (Str × Addr)) : TE := fun _ H Q => TLamGI P pos qual params body scope clos H Q
variable {X : Cx} {pins : List (Addr × Obj)} {σ : L2.St} {H : Hp} {s : Shared}
theorem pe_lamG {qual : Str} {params : Arguments} {body : Expr} {scope : Scope} {pos : Pos} {c0 P : Addr} {clos : List (Str × Addr)} (hcode : X.env.code = .ref c0) (hC : PySem.W.codeHdIn X.K c0 P = true) (BB : BltAt X.base X.mg)
    (hcl : closureFor scope X.env = pure clos) (hq : X.env.qual ++ "<lambda>" = qual) (hdef : defaultsOf params X.env = ([], []) := by rfl) :
    PE X (.Lambda params body scope pos) (tLamG P pos qual params body scope clos) := by
  intro pins s σ H Q I h
  refine PySem.W.kla_eval hdef ?_
  rw [hq]
  have hg : s.heap.Ns mainGlobals X.mg := I.mod.glob.keeps I.bk
  have CH : PySem.W.CodeHd s.heap c0 P := PySem.W.codeHd_of_K I.kIn hC
  obtain ⟨bm, ob, b1, b2, b3, b4, b5, b6⟩ := BB
  have trk : ∃ ps, H P = some (.tbl ps) := by
    cases h with
    | new ps t _ _ _ => exact ⟨_, t⟩
    | old ps c t _ _ _ _ => exact ⟨_, t⟩
  have nP : ∀ b o, X.base.get? b = some o → b ≠ P := fun b o e z => by
    obtain ⟨ps, t⟩ := trk
    rw [z] at e
    rw [(I.bs P o e).2] at t
    cases t
  have hgP : mainGlobals ≠ P := by
    obtain ⟨o, es, ep, e, _⟩ := I.mod.glob
    exact nP _ _ e
  have hbG : bm ≠ mainGlobals := fun q => by
    obtain ⟨o, es, ep, e, hd, _⟩ := I.mod.glob
    rw [q, e] at b3
    cases b3
    rw [hd] at b6
    cases b6
  have hB : s.heap.BuiltinsAt X.mg P := ⟨bm, ob, b1, b2, hbG, nP _ _ b3, I.bk _ _ b3, b4, b5, b6⟩
  cases h with
  | new ps t ok no k =>
    have hP : s.heap.get? P = some (PySem.W.tabObj ps) := tbl_at I t
    refine PySem.W.kla_makeFunction (mg := X.mg) hcl I.ok.glob hg hcode CH hP ok no hgP hB fun c' ctv h' tk hx' hge hlt hrec htb => ?_
    have szf : s.heap.objs.size ≤ h'.objs.size := Nat.le_trans hge (Nat.le_of_lt hlt)
    have oldP : ∀ b o, b ≠ P → s.heap.get? b = some o → (h'.push (PySem.W.kla_obj "<lambda>" qual params body scope clos ((X.mg "__name__").getD .none) c' ctv)).get? b = some o := fun b o n e => Heap.get?_push_of_some _ (hx' b o n e)
    have nc : ∀ b o, s.heap.get? b = some o → b ≠ c' := fun b o e => Nat.ne_of_lt (Nat.lt_of_lt_of_le (Heap.lt_size e) hge)
    have nf : ∀ b o, s.heap.get? b = some o → b ≠ h'.objs.size := fun b o e => Nat.ne_of_lt (Nat.lt_of_lt_of_le (Heap.lt_size e) szf)
    have tr : ∀ b u, H b = some u → ∃ o, s.heap.get? b = some o := fun b u e => objok_there (I.hok b u e)
    have hcf : c' ≠ h'.objs.size := Nat.ne_of_lt hlt
    have H'b : ∀ b o, b ≠ P → (∃ ob, s.heap.get? b = some ob) → H b = o → (upd (upd (upd H P (.tbl (ps ++ #[rawInt pos.line, rawInt pos.col, .ref c']))) c' (CodeX c' qual)) h'.objs.size (FnObjL h'.objs.size c' qual params body scope clos)) b = o := fun b o n ⟨ob, e⟩ q => by
      rw [upd_ne (nf b ob e), upd_ne (nc b ob e), upd_ne n, q]
    have nfree : ∀ b, H b = none → b ≠ P := fun b n z => by rw [z, t] at n; cases n
    have eP : (upd (upd (upd H P (.tbl (ps ++ #[rawInt pos.line, rawInt pos.col, .ref c']))) c' (CodeX c' qual)) h'.objs.size (FnObjL h'.objs.size c' qual params body scope clos)) P = some (.tbl (ps ++ #[rawInt pos.line, rawInt pos.col, .ref c'])) := by
      rw [upd_ne (nf P _ hP), upd_ne (nc P _ hP), upd_same]
    have eC : (upd (upd (upd H P (.tbl (ps ++ #[rawInt pos.line, rawInt pos.col, .ref c']))) c' (CodeX c' qual)) h'.objs.size (FnObjL h'.objs.size c' qual params body scope clos)) c' = some (CodeX c' qual) := by
      rw [upd_ne hcf, upd_same]
    have I' : Inv X pins σ (upd (upd (upd H P (.tbl (ps ++ #[rawInt pos.line, rawInt pos.col, .ref c']))) c' (CodeX c' qual)) h'.objs.size (FnObjL h'.objs.size c' qual params body scope clos))
        { s with heap := h'.push (PySem.W.kla_obj "<lambda>" qual params body scope clos ((X.mg "__name__").getD .none) c' ctv), toks := tk } := by
      refine I.step (g' := s.gens) (d' := s.drawn) (ch := []) (fun _ z => nomatch z) (fun b o _ _ _ e n => oldP b o (nfree b n) e) (fun b o _ _ _ e n => ⟨o.slots, oldP b o (nfree b n) e⟩) (fun b o _ e n => H'b b none (nfree b n) ⟨o, e⟩ n)
        (fun b o _ e => ?_) (fun b xs e => H'b b _ (fun z => by rw [z, t] at e; cases e) (tr b _ e) e) (fun b ob u e => H'b b _ (fun z => by rw [z, t] at e; cases e) (tr b _ e) e) (fun b qs e => ?_) (fun m hm => ?_) (fun b u e => ?_) I.bare
      · by_cases hb : b = P
        · subst hb
          exact ⟨_, Heap.get?_push_of_some _ htb⟩
        · exact ⟨o, oldP b o hb e⟩
      · by_cases hb : b = P
        · subst hb
          rw [t] at e
          cases e
          exact ⟨#[rawInt pos.line, rawInt pos.col, .ref c'], eP⟩
        · exact ⟨#[], by rw [H'b b _ hb (tr b _ e) e]; simp⟩
      · obtain ⟨o, es, ep, e, r⟩ := hm
        exact ⟨o, es, ep, oldP _ o (nfree _ I.free) e, r⟩
      · by_cases h1 : b = h'.objs.size
        · subst h1
          rw [upd_same] at e
          cases e
          exact fnObjL_ok (Heap.get?_push_size _ rfl)
        · rw [upd_ne h1] at e
          by_cases h2 : b = c'
          · subst h2
            rw [upd_same] at e
            cases e
            exact codeX_ok (hrec.keeps fun b o q => Heap.get?_push_of_some _ q)
          · rw [upd_ne h2] at e
            by_cases h3 : b = P
            · subst h3
              rw [upd_same] at e
              cases e
              show (h'.push _).get? _ = some _
              exact Heap.get?_push_of_some _ htb
            · rw [upd_ne h3] at e
              refine (I.hok b u e).stay (fun d v hd q => oldP d v ?_ q) (fun d q => H'b d _ (fun z => by rw [z, t] at q; cases q) (tr d _ q) q) fun d xs q => H'b d _ (fun z => by rw [z, t] at q; cases q) (tr d _ q) q
              rcases hd with rfl | hd
              · exact h3
              · intro z; rw [z, t] at hd; cases hd
    refine ⟨.ref h'.objs.size, _, I', rfl, k h'.objs.size c' _ (I.hok.fresh szf) (fun b o n q => ?_) eP eC upd_same fun Q hQ qs q => ?_⟩
    · exact H'b b _ (fun z => by rw [z, t] at q; cases q; exact n _ rfl) (tr b _ q) q
    · exact H'b Q _ hQ (tr Q _ q) q
  | old ps c t ok hit tc k =>
    have hP : s.heap.get? P = some (PySem.W.tabObj ps) := tbl_at I t
    refine PySem.W.kla_makeFunctionHit (mg := X.mg) (cv := .ref c) hcl I.ok.glob hg hcode CH hP ok hit hB fun ctv h' tk hk hsz => ?_
    have hfr : H h'.objs.size = none := I.hok.fresh hsz
    have I' : Inv X pins σ (upd H h'.objs.size (FnObjL h'.objs.size c qual params body scope clos)) { s with heap := h'.push (PySem.W.kla_obj "<lambda>" qual params body scope clos ((X.mg "__name__").getD .none) c ctv), toks := tk } :=
      I.laid (fun b o e => Heap.get?_push_of_some _ (hk b o e)) hsz (fnObjL_ok (Heap.get?_push_size _ rfl))
    have sm : Same H (upd H h'.objs.size (FnObjL h'.objs.size c qual params body scope clos)) := same_new hfr
    exact ⟨.ref h'.objs.size, _, I', rfl, k h'.objs.size _ hfr sm upd_same⟩
end
end NC
/-! ### lists of texts: index, in -/
namespace NC
open PySem PySem.Spec PyProof.Rows L2
theorem vals_get : ∀ {xs : List V} {us : List Value} (i : Nat) (h : i < us.length), Vals xs us → ∃ x, xs[i]? = some x ∧ RelV x us[i]
  | _ :: _, _ :: _, 0, _, .cons r _ => ⟨_, rfl, r⟩
  | _ :: _, _ :: _, i + 1, h, .cons _ t => by
    obtain ⟨x, e, r⟩ := vals_get i (Nat.lt_of_succ_lt_succ h) t
    exact ⟨x, e, r⟩
  | [], [], _, h, _ => absurd h (Nat.not_lt_zero _)
theorem eqU_str {w u : Str} {t : Tok} : eqU (.str w) (.str u t) = (u == w) := rfl
section
variable {X : Cx}
inductive RIdxI (x : V) (vs : List V) (H : Hp) (Q : VK) : Prop where
  | mk (l : Addr) (ws : List Str) (w : Str) (c1 : x = .ref l) (c2 : vs = [.str w]) (c3 : H l = some (.lst (ws.map V.str))) (c4 : w ∈ ws) (c5 : Q (.int (ws.idxOf w : Nat)) H)
def rIdx : V → List V → Hp → VK → Prop := fun x vs H Q => RIdxI x vs H Q
theorem all_flat (ws : List Str) : (ws.map V.str).all flatV = true := by
  rw [List.all_map, List.all_eq_true]
  intro _ _
  rfl
theorem str_at {ws : List Str} {its : List Value} (r : Vals (ws.map V.str) its) (m : Nat) (hm : m < its.length) (hm' : m < ws.length) : ∃ t, its[m] = .str ws[m] t := by
  obtain ⟨x, e, q⟩ := vals_get m hm r
  rw [List.getElem?_map, List.getElem?_eq_getElem hm'] at e
  cases (Option.some.inj e)
  obtain ⟨t, h⟩ := q
  exact ⟨t, h⟩
theorem mt_idx : MtM X "list.index" rIdx := by
  intro pins s σ H x vs v us Q I rx rv h
  obtain ⟨l, ws, w, rfl, rfl, hH, hw, q⟩ := h
  cases rx
  obtain ⟨u, rfl, ru⟩ := rv.one
  obtain ⟨z, its, n, r, hl, e⟩ := I.lstM hH
  have hj : ws.idxOf w < ws.length := List.idxOf_lt_length_iff.mpr hw
  have hlen : ws.length = its.length := by rw [← hl, List.length_map]
  have hz : ws.length ≤ sizeLine := by rw [List.length_map] at z; exact z
  rw [sizeLine_eq] at hz
  refine call_meets PySem.F.slot_list_index ⟨_, e, rfl⟩ PySem.F.entry_list_index (PySem.F.args_list_index_2 _ _)
    (PySem.SeqAt.list_indexAt l its.toArray n none #[] u (eqU (.str w)) (ws.idxOf w) (by rw [List.size_toArray]; omega) (by omega) ?_ ?_) ⟨e, fun y hy => mem_eqAt ru rfl r (all_flat ws) y (by simpa using hy), ⟨.int _, H, I.tok _, ⟨_, rfl⟩, q⟩⟩
  · obtain ⟨t, h⟩ := str_at r (ws.idxOf w) (by omega) hj
    rw [List.getElem_toArray, h, eqU_str]
    simpa using List.getElem_idxOf hj
  · intro m hm hlt
    rw [List.size_toArray] at hm
    obtain ⟨t, h⟩ := str_at r m hm (by omega)
    rw [List.getElem_toArray, h, eqU_str]
    exact List.not_of_lt_findIdx (p := (· == w)) hlt
variable {o e : Expr} {to te : TE} {apos cpos : Pos}
/-- xs.index(e) -/
def tIdx (K : PySem.W.Frag) (to te : TE) : TE := tBM K "list" rIdx to (tCons te tNil)
theorem pIdx (ho : PE X o to) (he : PE X e te) (h : plainE e = true := by rfl) (hbase : attributeBase o "index" X.env (eval o X.env) = eval o X.env := by rfl) (hline : (apos.endLine == cpos.line) = true := by rfl) :
    PE X (.Call (.Attribute o "index" apos) [e] [] cpos) (tIdx X.K to te) :=
  pe_bm PySem.F.plainAttrs_list PySem.F.slot_list_index PySem.F.type_list_index mt_idx ho (pa_c he pa_nil h) hbase (by
    rw [star_all (es := [e]) (by simp [h])]
    rfl) hline (star_plain h) rfl
/-- w in a list of texts -/
inductive RInTI (x : V) (y : V) (H : Hp) (Q : VK) : Prop where
  | mk (l : Addr) (ws : List Str) (w : Str) (c1 : x = .str w) (c2 : y = .ref l) (c3 : H l = some (.lst (ws.map V.str))) (c4 : Q (.bl (decide (w ∈ ws))) H)
def rInT : R2 := fun x y H Q => RInTI x y H Q
theorem inV_str (w : Str) : ∀ ws : List Str, inV (.str w) (ws.map V.str) = decide (w ∈ ws)
  | [] => by simp [inV]
  | u :: ws => by
    have ih := inV_str w ws
    unfold inV at ih ⊢
    rw [List.map_cons, List.any_cons, ih]
    by_cases h : u = w
    · subst h; simp [eqV]
    · have h' : ¬ w = u := fun z => h z.symm
      simp [eqV, h, h']
theorem op_in_txt : OpR X (compareOp .In) rInT := OpR.imp op_in_seq fun _ _ _ _ ⟨l, ws, w, e1, e2, h, q⟩ => by
  subst e1 e2
  refine ⟨l, _, rfl, .inl (SqL.of h), rfl, all_flat ws, ?_⟩
  rw [inV_str]
  exact q
end
end NC
/-! ### zip of two tuples, strict, gathered to a list: the model's side -/
namespace NC
open PySem
abbrev IsZipS (h : Heap) (z TI TO : Addr) (f0 f1 : Value) : Prop :=
  h.get? z = some { cls := .type "zip", dict := none, data := .fields #[f0, f1, .bool true, .ref TI, .ref TO], slots := #[] }
section
variable {prog : Program} {w : World} {A : Around} {E : Value → Shared → Prop} {s : Shared}
theorem nextOf_tup_item {it t : Addr} {i : Nat} {items : Array Value} {x : Value} {Q : Value → Shared → Prop} (hit : s.heap.IsTupleIter it t i) (ht : s.heap.IsTuple t items) (hx : items[i]? = some x)
    (hQ : ∀ h', h'.IsTupleIter it t (i + 1) → Heap.SameBut it s.heap h' → Q x { s with heap := h' }) : wpAny (model prog w) A (Builtin.SmallTypes.nextOf (.ref it)) Q E s := by
  obtain ⟨o, ho, hc, hd⟩ := id hit
  obtain ⟨ol, hol, _, nl, hdl⟩ := ht
  unfold Builtin.SmallTypes.nextOf
  refine wpAny_bind (wpAny_callSpecial?_slot (name := Str.ofString "__next__") hit.typeIs F.slot_tuple_iterator_next
    (wpAny_call_entry F.slot_tuple_iterator_next hit.typeIs F.entry_tuple_iterator_next ?_ (F.args_tuple_iterator_next_1 _)))
  show wpAny _ _ (field (.ref it) 0 >>= _) _ _ s
  refine wpAny_bind (wpAny_field ho hd (x := .ref t) rfl ?_)
  show wpAny _ _ (if (Value.ref t == Value.none) = true then _ else _) _ _ s
  rw [if_neg (show ¬ ((Value.ref t == Value.none) = true) from Bool.false_ne_true)]
  show wpAny _ _ (field (.ref it) 1 >>= _) _ _ s
  refine wpAny_bind (wpAny_field ho hd (x := .int i 0) rfl ?_)
  show wpAny _ _ (seqItems? (.ref t) >>= _) _ _ s
  refine wpAny_bind (wpAny_seqItems hol hdl ?_)
  simp only [Int.toNat_natCast, hx]
  refine wpAny_bind (wpAny_setField ho hd (by simp) (wpAny_pure ⟨x, rfl, wpAny_pure (hQ _ ?_ (Heap.SameBut.update ..))⟩))
  exact ⟨_, Heap.get?_update_self _ ho (Obj.isFreed_of_fields (Obj.data_mapFields hd _)), (Obj.cls_mapFields ..).trans hc, by
    rw [Obj.data_mapFields hd]; simp [rawInt]⟩
theorem nextEnd_tup_item {it t : Addr} {i : Nat} {items : Array Value} {x : Value} {Q : Option Value → Shared → Prop} (hit : s.heap.IsTupleIter it t i) (ht : s.heap.IsTuple t items) (hx : items[i]? = some x)
    (hQ : ∀ h', h'.IsTupleIter it t (i + 1) → Heap.SameBut it s.heap h' → Q (some x) { s with heap := h' }) : wpAny (model prog w) A (Builtin.SmallTypes.nextOrEnd (.ref it)) Q E s := by
  unfold Builtin.SmallTypes.nextOrEnd
  exact wpAny_bind (wpAny_attempt (nextOf_tup_item hit ht hx fun h' a b => wpAny_pure (hQ h' a b)))
theorem nextEnd_tup_end {it t : Addr} {i : Nat} {items : Array Value} {Q : Option Value → Shared → Prop} (hh : A.handled = none) (hit : s.heap.IsTupleIter it t i) (ht : s.heap.IsTuple t items) (hx : items[i]? = none)
    (hQ : ∀ h', Heap.ExtBut it s.heap h' → Q none { s with heap := h' }) : wpAny (model prog w) A (Builtin.SmallTypes.nextOrEnd (.ref it)) Q E s := by
  obtain ⟨o, ho, hc, hd⟩ := id hit
  obtain ⟨ol, hol, _, nl, hdl⟩ := ht
  unfold Builtin.SmallTypes.nextOrEnd Builtin.SmallTypes.nextOf
  refine wpAny_bind (wpAny_attempt (wpAny_bind (wpAny_callSpecial?_slot (name := Str.ofString "__next__") hit.typeIs F.slot_tuple_iterator_next
    (wpAny_call_entry F.slot_tuple_iterator_next hit.typeIs F.entry_tuple_iterator_next ?_ (F.args_tuple_iterator_next_1 _)))))
  show wpAny _ _ (field (.ref it) 0 >>= _) _ _ s
  refine wpAny_bind (wpAny_field ho hd (x := .ref t) rfl ?_)
  show wpAny _ _ (if (Value.ref t == Value.none) = true then _ else _) _ _ s
  rw [if_neg (show ¬ ((Value.ref t == Value.none) = true) from Bool.false_ne_true)]
  show wpAny _ _ (field (.ref it) 1 >>= _) _ _ s
  refine wpAny_bind (wpAny_field ho hd (x := .int i 0) rfl ?_)
  show wpAny _ _ (seqItems? (.ref t) >>= _) _ _ s
  refine wpAny_bind (wpAny_seqItems hol hdl ?_)
  simp only [Int.toNat_natCast, hx]
  refine wpAny_bind (wpAny_rule (wpAny_bind (wpAny_setField ho hd (by simp) ?_)))
  show wpAny _ _ (newExc (.type "StopIteration") [] >>= _) _ _ _
  refine wpAny_bind ?_
  simp only [newExc, newTuple]
  refine wpAny_bind (wpAny_newObj_type ?_ (by size_fits))
  refine wpAny_bind (m := firstArgMember _ _) (wpAny_of_eq (a := Value.none) (by first | rfl | (simp only [firstArgMember]; rfl)) ?_)
  refine wpAny_newObj_type ?_ (by size_fits)
  simp only [raiseNew]
  refine wpAny_bind (wpAny_handled ?_)
  first | rw [show A.in1.handled = none from hh] | rw [hh]
  refine wpAny_bind (wpAny_pure (wpAny_throw ?_))
  refine wpAny_bind (wpAny_isInstance (T := "StopIteration") (b := true) ⟨_, Heap.get?_push_size _ rfl, rfl⟩ isSubtype_stop ?_)
  exact wpAny_pure (hQ _ (((Heap.SameBut.update ..).extBut.push _).push _))
/-- the first item: the zip's own tuple is free -/
theorem zipS_first {z TI TO i1 i2 l1 l2 : Addr} {k1 k2 : Nat} {xs ys : Array Value} {x y a b : Value} {Q : Value → Shared → Prop} (D : ZipApart z TI TO i1 i2 l1 l2)
    (hz : IsZipS s.heap z TI TO .none (.bool false)) (hTI : IsPair s.heap TI (.ref i1) (.ref i2)) (hTO : IsPair s.heap TO a b)
    (h1 : s.heap.IsTupleIter i1 l1 k1) (h2 : s.heap.IsTupleIter i2 l2 k2) (hl1 : s.heap.IsTuple l1 xs) (hl2 : s.heap.IsTuple l2 ys) (hx : xs[k1]? = some x) (hy : ys[k2]? = some y)
    (hQ : ∀ h', IsZipS h' z TI TO (rawInt s.heap.objs.size) (.bool false) → IsPair h' TO x y → h'.IsTupleIter i1 l1 (k1 + 1) → h'.IsTupleIter i2 l2 (k2 + 1) → IsPair h' s.heap.objs.size x y → h'.objs.size = s.heap.objs.size + 1 →
      (∀ c o, c ≠ z → c ≠ TO → c ≠ i1 → c ≠ i2 → s.heap.get? c = some o → h'.get? c = some o) → Q (.ref s.heap.objs.size) { s with heap := h' }) :
    wpAny (model prog w) A (Builtin.«zip.__next__» ⟨[.ref z], []⟩) (fun fin s' => ∃ v, fin = .done (.ret v) ∧ Q v s') E s := by
  show wpAny _ _ (field (.ref z) 2 >>= _) _ _ _
  refine wpAny_bind (wpAny_field hz rfl (x := .bool true) rfl ?_)
  show wpAny _ _ (field (.ref z) 3 >>= _) _ _ _
  refine wpAny_bind (wpAny_field hz rfl (x := .ref TI) rfl ?_)
  refine wpAny_bind (wpAny_seqItems hTI rfl ?_)
  show wpAny _ _ (Builtin.SmallTypes.ownedTupleIsFree (.ref z) >>= _) _ _ _
  refine wpAny_bind ?_
  unfold Builtin.SmallTypes.ownedTupleIsFree
  refine wpAny_bind (wpAny_field hz rfl (x := .none) rfl (wpAny_pure ?_))
  simp only [if_true]
  refine wpAny_bind (wpAny_rule ?_)
  refine wpAny_bind (wpAny_field hz rfl (x := .ref TO) rfl ?_)
  refine wpAny_bind (wpAny_setField_rec hz (by simp) fun h₁ hz₁ hs₁ => ?_)
  replace hz₁ : IsZipS h₁ z TI TO .ellipsis (.bool false) := hz₁
  refine wpAny_bind ?_
  simp only [List.zipIdx_cons, List.zipIdx_nil, List.forIn_cons, List.forIn_nil]
  refine wpAny_bind (wpAny_bind (wpAny_onRaise ?_))
  show wpAny _ _ (Builtin.SmallTypes.nextOrEnd (.ref i1)) _ _ _
  refine nextEnd_tup_item (h1.extBut hs₁.extBut D.i1z) (hl1.extBut hs₁.extBut D.l1z) hx fun h₂ h1₂ hs₂ => ?_
  have hTO₂ : IsPair h₂ TO a b := hs₂.extBut _ _ D.TOi1 (hs₁.extBut _ _ D.TOz hTO)
  refine wpAny_bind (wpAny_seqItems hTO₂ rfl ?_)
  refine wpAny_bind (wpAny_updateSeq_pair hTO₂ fun h₃ hTO₃ hs₃ => ?_)
  replace hTO₃ : IsPair h₃ TO x b := hTO₃
  refine wpAny_bind (wpAny_letGo (wpAny_pure ?_))
  refine wpAny_bind (wpAny_bind (wpAny_onRaise ?_))
  show wpAny _ _ (Builtin.SmallTypes.nextOrEnd (.ref i2)) _ _ _
  refine nextEnd_tup_item (((h2.extBut hs₁.extBut D.i2z).extBut hs₂.extBut D.i12.symm).extBut hs₃.extBut D.TOi2.symm)
    (((hl2.extBut hs₁.extBut D.l2z).extBut hs₂.extBut D.l2i1).extBut hs₃.extBut D.l2TO) hy fun h₄ h2₄ hs₄ => ?_
  have hTO₄ : IsPair h₄ TO x b := hs₄.extBut _ _ D.TOi2 hTO₃
  refine wpAny_bind (wpAny_seqItems hTO₄ rfl ?_)
  refine wpAny_bind (wpAny_updateSeq_pair hTO₄ fun h₅ hTO₅ hs₅ => ?_)
  replace hTO₅ : IsPair h₅ TO x y := hTO₅
  refine wpAny_bind (wpAny_letGo (wpAny_pure (wpAny_pure ?_)))
  refine wpAny_bind (wpAny_seqItems hTO₅ rfl ?_)
  refine wpAny_bind (wpAny_newTuple ?_)
  have hsz : h₅.objs.size = s.heap.objs.size := by rw [hs₅.1, hs₄.1, hs₃.1, hs₂.1, hs₁.1]
  have hz₅ : IsZipS h₅ z TI TO .ellipsis (.bool false) := hs₅.extBut _ _ D.TOz.symm (hs₄.extBut _ _ D.i2z.symm (hs₃.extBut _ _ D.TOz.symm (hs₂.extBut _ _ D.i1z.symm hz₁)))
  have hk₅ : ∀ c o, c ≠ z → c ≠ TO → c ≠ i1 → c ≠ i2 → s.heap.get? c = some o → h₅.get? c = some o := fun c o c1 c2 c3 c4 e =>
    hs₅.extBut _ _ c2 (hs₄.extBut _ _ c4 (hs₃.extBut _ _ c2 (hs₂.extBut _ _ c3 (hs₁.extBut _ _ c1 e))))
  have h1₅ : h₅.IsTupleIter i1 l1 (k1 + 1) := ((h1₂.extBut hs₃.extBut D.TOi1.symm).extBut hs₄.extBut D.i12).extBut hs₅.extBut D.TOi1.symm
  have h2₅ : h₅.IsTupleIter i2 l2 (k2 + 1) := h2₄.extBut hs₅.extBut D.TOi2.symm
  have hzlt : z < h₅.objs.size := Heap.lt_size hz₅
  have hTOlt : TO < h₅.objs.size := Heap.lt_size hTO₅
  show wpAny _ _ (Builtin.SmallTypes.ownedTupleHandOut (.ref z) (.ref h₅.objs.size) >>= _) _ _ _
  refine wpAny_bind ?_
  unfold Builtin.SmallTypes.ownedTupleHandOut
  have hz₆ : IsZipS (h₅.push { cls := .type "tuple", data := .seq #[x, y] }) z TI TO .ellipsis (.bool false) := Heap.get?_push_of_some _ hz₅
  refine wpAny_bind (wpAny_setField_rec hz₆ (by simp) fun h₇ hz₇ hs₇ => ?_)
  replace hz₇ : IsZipS h₇ z TI TO (rawInt h₅.objs.size) (.bool false) := hz₇
  refine wpAny_setField_rec hz₇ (by simp) fun h₈ hz₈ hs₈ => ?_
  replace hz₈ : IsZipS h₈ z TI TO (rawInt h₅.objs.size) (.bool false) := hz₈
  have up : ∀ c o, c ≠ z → h₅.get? c = some o → h₈.get? c = some o := fun c o c1 e => hs₈.extBut _ _ c1 (hs₇.extBut _ _ c1 (Heap.get?_push_of_some _ e))
  have hT₈ : IsPair h₈ h₅.objs.size x y := hs₈.extBut _ _ (Nat.ne_of_gt hzlt) (hs₇.extBut _ _ (Nat.ne_of_gt hzlt) (Heap.get?_push_size _ rfl))
  have hz8 : h₈.objs.size = h₅.objs.size + 1 := by rw [hs₈.1, hs₇.1, Heap.size_push]
  rw [hsz] at hz₈ hT₈ hz8
  refine wpAny_pure ⟨_, rfl, ?_⟩
  show Q (.ref h₅.objs.size) _
  rw [hsz]
  have upI : ∀ {i l : Addr} {k : Nat}, i ≠ z → h₅.IsTupleIter i l k → h₈.IsTupleIter i l k := fun hn ⟨o, e, r⟩ => ⟨o, up _ o hn e, r⟩
  exact hQ h₈ hz₈ (up _ _ D.TOz hTO₅) (upI D.i1z h1₅) (upI D.i2z h2₅) hT₈ hz8 fun c o c1 c2 c3 c4 e => up c o c1 (hk₅ c o c1 c2 c3 c4 e)
theorem loadAlive {a : Addr} {Q : Option Obj → Shared → Prop} (h : Q (s.heap.get? a) s) : wpAny (model prog w) A (loadIfAlive a) Q E s := fun Γ p _ => by
  unfold loadIfAlive
  rw [Sem.wp_loadIfAlive]
  exact h
theorem notFree {z TI TO T : Addr} {b : Bool} {o : Obj} {Q : Bool → Shared → Prop} (hz : IsZipS s.heap z TI TO (rawInt T) (.bool b)) (ha : s.heap.get? T = some o)
    (hQ : ∀ h', IsZipS h' z TI TO (rawInt T) (.bool true) → Heap.SameBut z s.heap h' → Q false { s with heap := h' }) : wpAny (model prog w) A (Builtin.SmallTypes.ownedTupleIsFree (.ref z)) Q E s := by
  unfold Builtin.SmallTypes.ownedTupleIsFree
  refine wpAny_bind (wpAny_field hz rfl (x := rawInt T) rfl ?_)
  show wpAny _ _ (loadIfAlive ((T : Int).toNat) >>= _) _ _ _
  rw [Int.toNat_natCast]
  refine wpAny_bind (loadAlive ?_)
  rw [ha]
  show wpAny _ _ (field (.ref z) 1 >>= _) _ _ _
  refine wpAny_bind (wpAny_field hz rfl (x := .bool b) rfl ?_)
  cases b with
  | true => exact wpAny_pure (hQ s.heap hz ⟨rfl, fun _ _ => rfl⟩)
  | false => exact wpAny_bind (wpAny_setField_rec hz (by simp) fun h' hz' hs' => wpAny_pure (hQ h' hz' hs'))
/-- a further item: the tuple before is kept -/
theorem zipS_more {z TI TO T i1 i2 l1 l2 : Addr} {f : Bool} {o : Obj} {k1 k2 : Nat} {xs ys : Array Value} {x y : Value} {Q : Value → Shared → Prop} (D : ZipApart z TI TO i1 i2 l1 l2)
    (hz : IsZipS s.heap z TI TO (rawInt T) (.bool f)) (ha : s.heap.get? T = some o) (hTI : IsPair s.heap TI (.ref i1) (.ref i2))
    (h1 : s.heap.IsTupleIter i1 l1 k1) (h2 : s.heap.IsTupleIter i2 l2 k2) (hl1 : s.heap.IsTuple l1 xs) (hl2 : s.heap.IsTuple l2 ys) (hx : xs[k1]? = some x) (hy : ys[k2]? = some y)
    (hQ : ∀ h', IsZipS h' z TI TO (rawInt T) (.bool true) → h'.IsTupleIter i1 l1 (k1 + 1) → h'.IsTupleIter i2 l2 (k2 + 1) → IsPair h' s.heap.objs.size x y → h'.objs.size = s.heap.objs.size + 1 →
      (∀ c o, c ≠ z → c ≠ i1 → c ≠ i2 → s.heap.get? c = some o → h'.get? c = some o) → Q (.ref s.heap.objs.size) { s with heap := h' }) :
    wpAny (model prog w) A (Builtin.«zip.__next__» ⟨[.ref z], []⟩) (fun fin s' => ∃ v, fin = .done (.ret v) ∧ Q v s') E s := by
  show wpAny _ _ (field (.ref z) 2 >>= _) _ _ _
  refine wpAny_bind (wpAny_field hz rfl (x := .bool true) rfl ?_)
  show wpAny _ _ (field (.ref z) 3 >>= _) _ _ _
  refine wpAny_bind (wpAny_field hz rfl (x := .ref TI) rfl ?_)
  refine wpAny_bind (wpAny_seqItems hTI rfl ?_)
  show wpAny _ _ (Builtin.SmallTypes.ownedTupleIsFree (.ref z) >>= _) _ _ _
  refine wpAny_bind (notFree hz ha fun h₁ hz₁ hs₁ => ?_)
  show wpAny _ _ (_ >>= _) _ _ _
  refine wpAny_bind ?_
  simp only [List.forIn_toArray, List.forIn_cons, List.forIn_nil]
  refine wpAny_bind (wpAny_bind (wpAny_holding ?_))
  show wpAny _ _ (Builtin.SmallTypes.nextOrEnd (.ref i1)) _ _ _
  refine nextEnd_tup_item (h1.extBut hs₁.extBut D.i1z) (hl1.extBut hs₁.extBut D.l1z) hx fun h₂ h1₂ hs₂ => wpAny_pure ?_
  refine wpAny_bind (wpAny_bind (wpAny_holding ?_))
  show wpAny _ _ (Builtin.SmallTypes.nextOrEnd (.ref i2)) _ _ _
  refine nextEnd_tup_item ((h2.extBut hs₁.extBut D.i2z).extBut hs₂.extBut D.i12.symm) ((hl2.extBut hs₁.extBut D.l2z).extBut hs₂.extBut D.l2i1) hy fun h₄ h2₄ hs₄ => wpAny_pure (wpAny_pure ?_)
  refine wpAny_bind (wpAny_newTuple ?_ (by show (2 : Nat) ≤ sizeLine; decide))
  have hsz : h₄.objs.size = s.heap.objs.size := by rw [hs₄.1, hs₂.1, hs₁.1]
  have up : ∀ c o, h₄.get? c = some o → (h₄.push { cls := .type "tuple", data := .seq #[x, y] }).get? c = some o := fun c o e => Heap.get?_push_of_some _ e
  have upI : ∀ {i l : Addr} {k : Nat}, h₄.IsTupleIter i l k → (h₄.push { cls := .type "tuple", data := .seq #[x, y] }).IsTupleIter i l k := fun ⟨o, e, r⟩ => ⟨o, up _ o e, r⟩
  refine wpAny_pure ⟨_, rfl, ?_⟩
  show Q (.ref h₄.objs.size) _
  have hp : IsPair (h₄.push { cls := .type "tuple", data := .seq #[x, y] }) h₄.objs.size x y := Heap.get?_push_size _ rfl
  have hz4 : (h₄.push { cls := .type "tuple", data := .seq #[x, y] }).objs.size = h₄.objs.size + 1 := Heap.size_push ..
  rw [hsz] at hp hz4 ⊢
  exact hQ _ (up _ _ (hs₄.extBut _ _ D.i2z.symm (hs₂.extBut _ _ D.i1z.symm hz₁))) (upI (h1₂.extBut hs₄.extBut D.i12)) (upI h2₄) hp hz4 fun c o c1 c3 c4 e => up c o (hs₄.extBut _ _ c4 (hs₂.extBut _ _ c3 (hs₁.extBut _ _ c1 e)))
/-- the end of both -/
theorem zipS_end {z TI TO T i1 i2 l1 l2 : Addr} {f : Bool} {o : Obj} {k1 k2 : Nat} {xs ys : Array Value} {Q : Fin → Shared → Prop} (hh : A.handled = none) (D : ZipApart z TI TO i1 i2 l1 l2)
    (hz : IsZipS s.heap z TI TO (rawInt T) (.bool f)) (ha : s.heap.get? T = some o) (hTI : IsPair s.heap TI (.ref i1) (.ref i2))
    (h1 : s.heap.IsTupleIter i1 l1 k1) (h2 : s.heap.IsTupleIter i2 l2 k2) (hl1 : s.heap.IsTuple l1 xs) (hl2 : s.heap.IsTuple l2 ys) (hx : xs[k1]? = none) (hy : ys[k2]? = none)
    (hE : ∀ h' e, (∀ c o, c ≠ z → c ≠ i1 → c ≠ i2 → s.heap.get? c = some o → h'.get? c = some o) → (∃ o, h'.get? e = some o ∧ o.cls = .type "StopIteration") → E (.ref e) { s with heap := h' }) :
    wpAny (model prog w) A (Builtin.«zip.__next__» ⟨[.ref z], []⟩) Q E s := by
  show wpAny _ _ (field (.ref z) 2 >>= _) _ _ _
  refine wpAny_bind (wpAny_field hz rfl (x := .bool true) rfl ?_)
  show wpAny _ _ (field (.ref z) 3 >>= _) _ _ _
  refine wpAny_bind (wpAny_field hz rfl (x := .ref TI) rfl ?_)
  refine wpAny_bind (wpAny_seqItems hTI rfl ?_)
  show wpAny _ _ (Builtin.SmallTypes.ownedTupleIsFree (.ref z) >>= _) _ _ _
  refine wpAny_bind (notFree hz ha fun h₁ hz₁ hs₁ => ?_)
  show wpAny _ _ (_ >>= _) _ _ _
  refine wpAny_bind ?_
  simp only [List.forIn_toArray, List.forIn_cons, List.forIn_nil]
  refine wpAny_bind (wpAny_bind (wpAny_holding ?_))
  show wpAny _ _ (Builtin.SmallTypes.nextOrEnd (.ref i1)) _ _ _
  refine nextEnd_tup_end hh (h1.extBut hs₁.extBut D.i1z) (hl1.extBut hs₁.extBut D.l1z) hx fun h₂ hs₂ => ?_
  show wpAny _ _ (_ >>= fun r => pure (ForInStep.done (some r, #[]))) _ _ _
  refine wpAny_bind ?_
  wp_delta
  rw [if_neg (show ¬ ((#[] : Array Value).size > 0) by decide)]
  show wpAny _ _ (forIn [(Value.ref i2, 1)] PUnit.unit _ >>= _) _ _ _
  simp only [List.forIn_cons, List.forIn_nil]
  refine wpAny_bind (wpAny_bind (wpAny_bind (nextEnd_tup_end hh ((h2.extBut hs₁.extBut D.i2z).extBut hs₂ D.i12.symm) ((hl2.extBut hs₁.extBut D.l2z).extBut hs₂ D.l2i1) hy fun h₃ hs₃ => ?_)))
  refine wpAny_pure (wpAny_pure ?_)
  refine wpAny_bind (wpAny_rule ?_)
  show wpAny _ _ (newExc (.type "StopIteration") [] >>= _) _ _ _
  refine wpAny_bind ?_
  simp only [newExc, newTuple]
  refine wpAny_bind (wpAny_newObj_type ?_ (by size_fits))
  refine wpAny_bind (m := firstArgMember _ _) (wpAny_of_eq (a := Value.none) (by first | rfl | (simp only [firstArgMember]; rfl)) ?_)
  refine wpAny_newObj_type ?_ (by size_fits)
  simp only [raiseNew]
  refine wpAny_bind (wpAny_handled ?_)
  rw [hh]
  refine wpAny_bind (wpAny_pure (wpAny_throw ?_))
  exact hE _ _ (fun c o c1 c3 c4 e => Heap.get?_push_of_some _ (Heap.get?_push_of_some _ (hs₃ _ _ c4 (hs₂ _ _ c3 (hs₁.extBut _ _ c1 e))))) ⟨_, Heap.get?_push_size _ rfl, rfl⟩
/-- a built-in type called with keywords -/
theorem callType_newK {T newId : String} {Bn : Builtin} {args : List Value} {kw : List (Str × Value)} {S : Spec} {Q : Value → Shared → Prop} (ft : TypeCalled T newId "object.__init__")
    (hne : (some newId != some "object.__new__") = true) (hct : checkTypeCall T ⟨args, kw⟩ = pure ()) (hcn : checkBuiltinCall newId ⟨.type T :: args, kw⟩ = pure ())
    (hok : ∀ obj, argsOk "object.__init__" ⟨obj :: args, kw⟩) (entryN : entryFor table newId = some Bn) (g : Meets (Bn ⟨.type T :: args, kw⟩) S)
    (gi : ∀ obj, Meets (Builtin.«object.__init__» ⟨obj :: args, kw⟩) (fun _ R s => s.TypeIs obj T ∧ R (.ok (.ret .none)) s))
    (h : S A.in1 (wants (fun obj s₁ => s₁.TypeIs obj T ∧ Q obj s₁) E) s) : wpAny (model prog w) A (call (.type T) args kw) Q E s := by
  obtain ⟨c, tl, hmro⟩ := ft.mro
  have hmade := ft.made
  have hsub := ft.sub
  refine wpAny_call (codeAny_of_tree ?_)
  show wpAny _ _ (callAny (.type T) _) _ _ _
  refine wpAny_pure ⟨Code.quiet_builtin _ (by decide +kernel), codeAny_builtin F.entry_type_call ?_⟩
  rw [Around.under_plain (weight_type_call_type T args kw) (units_type_call_type T args kw)]
  have h1 := ft.notType
  have h2 := ft.canCreate
  repeat (any_goals (first | assumption | wp_step))
  refine codeAny_mono (codeAny_call_builtin ft.plain entryN (wpAny_of_eq hcn (g prog w A.in1 _ s h))) fun r s₁ hr => ?_
  cases r with
  | error e => exact hr
  | ok fl =>
    cases fl with
    | ret obj =>
      have hT : s₁.TypeIs obj T := hr.1
      have hli := ft.init.lookup
      have hbi := ft.init.bind obj
      repeat (any_goals (first | assumption | wp_step))
      refine codeAny_mono (codeAny_call_builtin ft.init.plain F.entry_object_init (ft.init.check _ _ _ _ _ _ _ _ hT (hok obj) (gi obj prog w A.in1 (wants (fun r s₂ => r = .none ∧ Q obj s₂) E) s₁ ⟨hT, rfl, hr.2⟩))) fun r₂ s₂ hr₂ => ?_
      cases r₂ with
      | error e => exact hr₂
      | ok fl₂ =>
        cases fl₂ with
        | ret r =>
          obtain ⟨rfl, hq⟩ := hr₂
          repeat (any_goals (first | assumption | wp_step))
        | _ => exact hr₂.elim
    | _ => exact hr.elim
abbrev kwStrict : List (Str × Value) := [("strict", .bool true)]
theorem typeCall_zipS (a b : Value) : checkTypeCall "zip" ⟨[a, b], kwStrict⟩ = pure () := by kernel_rfl
theorem newCall_zipS (a b : Value) : checkBuiltinCall "zip.__new__" ⟨[.type "zip", a, b], kwStrict⟩ = pure () := by kernel_rfl
theorem args_zipS_init (a b c : Value) : argsOk "object.__init__" ⟨[a, b, c], kwStrict⟩ := by
  unfold argsOk; rw [signature?_of (id := "object.__init__") (n := ['_', '_', 't', 'i', 'n', 'i', '_', '_']) (o := ['t', 'c', 'e', 'j', 'b', 'o']) (by kernel_rfl) F.owner_object]; kernel_rfl
end
abbrev zs1 (h : Heap) (l1 : Addr) : Heap := h.push { cls := .type "tuple_iterator", data := .fields #[.ref l1, .int 0 0] }
abbrev zs2 (h : Heap) (l1 l2 : Addr) : Heap := (zs1 h l1).push { cls := .type "tuple_iterator", data := .fields #[.ref l2, .int 0 0] }
abbrev zs3 (h : Heap) (l1 l2 : Addr) : Heap := (zs2 h l1 l2).push { cls := .type "tuple", data := .seq #[.ref h.objs.size, .ref (zs1 h l1).objs.size] }
abbrev zs4 (h : Heap) (l1 l2 : Addr) : Heap := (zs3 h l1 l2).push { cls := .type "tuple", data := .seq #[.none, .none] }
abbrev zs5 (h : Heap) (l1 l2 : Addr) : Heap := (zs4 h l1 l2).push { cls := .type "zip", data := .fields #[.none, .bool false, .bool true, .ref (zs2 h l1 l2).objs.size, .ref (zs3 h l1 l2).objs.size] }
theorem meets_zipS_new (l1 l2 : Addr) (xs ys : Array Value) :
    Meets (Builtin.«zip.__new__» ⟨[.type "zip", .ref l1, .ref l2], kwStrict⟩) (fun _ R s => s.heap.IsTuple l1 xs ∧ s.heap.IsTuple l2 ys ∧
      R (.ok (.ret (.ref (zs4 s.heap l1 l2).objs.size))) { s with heap := zs5 s.heap l1 l2 }) :=
  .of_wp fun prog w A R s h => by
    obtain ⟨hp, g, d, tk, os⟩ := s; obtain ⟨hl1, hl2, h⟩ := h
    have hsub := sub_zip
    have hL1 : Heap.IsTuple (Shared.heap ⟨hp, g, d, tk, os⟩) l1 xs := hl1
    have hL2 : Heap.IsTuple (Shared.heap ⟨hp.push { cls := .type "tuple_iterator", data := .fields #[.ref l1, .int 0 0] }, g, d, tk, os⟩) l2 ys := Heap.IsTuple.push hl2 _
    wp_walk using wpAny_pyIter_tuple hL1, wpAny_pyIter_tuple hL2
    exact ⟨_, rfl, h⟩
theorem zipS_init {self a b : Value} : Meets (Builtin.«object.__init__» ⟨[self, a, b], kwStrict⟩) (fun _ R s => s.TypeIs self "zip" ∧ R (.ok (.ret .none)) s) := by
  have hl := F.called_zip.init.lookup
  have hm := F.called_zip.made
  have hne : (some "zip.__new__" != some "object.__new__") = true := by decide
  refine Meets.of_wp fun prog w A R s hs => ?_
  obtain ⟨hT, hq⟩ := hs
  repeat (any_goals (first | assumption | wp_step))
  exact ⟨_, rfl, hq⟩
section
variable {prog : Program} {w : World} {A : Around} {E : Value → Shared → Prop} {s : Shared}
theorem call_zipS {l1 l2 : Addr} {xs ys : Array Value} {Q : Value → Shared → Prop} (hl1 : s.heap.IsTuple l1 xs) (hl2 : s.heap.IsTuple l2 ys)
    (h : ∀ h', IsZipS h' (s.heap.objs.size + 4) (s.heap.objs.size + 2) (s.heap.objs.size + 3) .none (.bool false) → IsPair h' (s.heap.objs.size + 2) (.ref s.heap.objs.size) (.ref (s.heap.objs.size + 1)) →
      IsPair h' (s.heap.objs.size + 3) .none .none → h'.IsTupleIter s.heap.objs.size l1 0 → h'.IsTupleIter (s.heap.objs.size + 1) l2 0 → h'.objs.size = s.heap.objs.size + 5 →
      (∀ c o, s.heap.get? c = some o → h'.get? c = some o) → Q (.ref (s.heap.objs.size + 4)) { s with heap := h' }) :
    wpAny (model prog w) A (call (.type "zip") [.ref l1, .ref l2] kwStrict) Q E s := by
  refine callType_newK F.called_zip (by decide) (typeCall_zipS _ _) (newCall_zipS _ _) (fun obj => args_zipS_init obj _ _) F.entry_zip_new
    (meets_zipS_new l1 l2 xs ys) (fun obj => zipS_init) ⟨hl1, hl2, ?_⟩
  have z1 : (zs1 s.heap l1).objs.size = s.heap.objs.size + 1 := Heap.size_push ..
  have z2 : (zs2 s.heap l1 l2).objs.size = s.heap.objs.size + 2 := by rw [Heap.size_push, z1]
  have z3 : (zs3 s.heap l1 l2).objs.size = s.heap.objs.size + 3 := by rw [Heap.size_push, z2]
  have z4 : (zs4 s.heap l1 l2).objs.size = s.heap.objs.size + 4 := by rw [Heap.size_push, z3]
  have z5 : (zs5 s.heap l1 l2).objs.size = s.heap.objs.size + 5 := by rw [Heap.size_push, z4]
  have g5 : (zs5 s.heap l1 l2).get? (zs4 s.heap l1 l2).objs.size = some _ := Heap.get?_push_size _ rfl
  have g4 : (zs5 s.heap l1 l2).get? (zs3 s.heap l1 l2).objs.size = some _ := Heap.get?_push_of_some _ (Heap.get?_push_size _ rfl)
  have g3 : (zs5 s.heap l1 l2).get? (zs2 s.heap l1 l2).objs.size = some _ := Heap.get?_push_of_some _ (Heap.get?_push_of_some _ (Heap.get?_push_size _ rfl))
  have g2 : (zs5 s.heap l1 l2).get? (zs1 s.heap l1).objs.size = some _ := Heap.get?_push_of_some _ (Heap.get?_push_of_some _ (Heap.get?_push_of_some _ (Heap.get?_push_size _ rfl)))
  have g1 : (zs5 s.heap l1 l2).get? s.heap.objs.size = some _ := Heap.get?_push_of_some _ (Heap.get?_push_of_some _ (Heap.get?_push_of_some _ (Heap.get?_push_of_some _ (Heap.get?_push_size _ rfl))))
  show _ ∧ _
  rw [z2, z3, z4] at g5
  rw [z1, z2] at g3
  rw [z3] at g4
  rw [z1] at g2
  rw [z4]
  exact ⟨⟨_, g5, rfl⟩, h _ g5 g3 g4 ⟨_, g1, rfl, rfl⟩ ⟨_, g2, rfl, rfl⟩ z5 fun c o x =>
    Heap.get?_push_of_some _ (Heap.get?_push_of_some _ (Heap.get?_push_of_some _ (Heap.get?_push_of_some _ (Heap.get?_push_of_some _ x))))⟩
/-- one turn of the gathering loop -/
theorem ext_more {I S : Addr} {acc : Array Value} {c : Nat} {res : Value} {R : Result → Shared → Prop} (hn : acc.size < sizeLine)
    (h : wpAny (model prog w) A.in1 (pyNext (.ref I)) (fun r s' => ∃ v, r = some v ∧ s'.heap.get? S = some { cls := .type "list", dict := none, data := .seq acc c, slots := #[] } ∧
      ∀ h' c', h'.get? S = some { cls := .type "list", dict := none, data := .seq (acc.push v) c', slots := #[] } → (∀ b o, b ≠ S → s'.heap.get? b = some o → h'.get? b = some o) → h'.objs.size = s'.heap.objs.size →
        codeAny (model prog w) A (.builtin "list.extend.loop" ⟨[.ref S, .ref I, res], []⟩) R { s' with heap := h' }) (fun e s' => R (.error e) s') s) :
    codeAny (model prog w) A (.builtin "list.extend.loop" ⟨[.ref S, .ref I, res], []⟩) R s := by
  refine codeAny_builtin F.entry_extend_loop ?_
  rw [Around.under_plainId F.plain_extend_loop _]
  show wpAny _ A.in1 (pyNext (.ref I) >>= _) _ _ s
  refine wpAny_bind (wpAny_mono h (fun r s' hr => ?_) fun _ _ x => x)
  obtain ⟨v, rfl, hS', k⟩ := hr
  show wpAny _ A.in1 (updateSeq S (·.push v) >>= _) _ _ _
  refine wpAny_bind (wpAny_updateSeq hS' rfl (wpAny_pure ⟨plainId_quiet F.plain_extend_loop _, k _ _ (Heap.get?_update_self _ hS' rfl) (fun b o hb e => (Heap.get?_update_other _ _ (Ne.symm hb)).trans e) (Heap.size_update ..)⟩) (by omega) (by show (acc.push v).size ≤ sizeLine + 1; rw [Array.size_push]; omega))
theorem ext_done {I S : Addr} {res : Value} {R : Result → Shared → Prop} (h : wpAny (model prog w) A.in1 (pyNext (.ref I)) (fun r s' => r = none ∧ R (.ok (.ret res)) s') (fun e s' => R (.error e) s') s) :
    codeAny (model prog w) A (.builtin "list.extend.loop" ⟨[.ref S, .ref I, res], []⟩) R s := by
  refine codeAny_builtin F.entry_extend_loop ?_
  rw [Around.under_plainId F.plain_extend_loop _]
  show wpAny _ A.in1 (pyNext (.ref I) >>= _) _ _ s
  refine wpAny_bind (wpAny_mono h (fun r s' hr => ?_) fun _ _ x => x)
  obtain ⟨rfl, k⟩ := hr
  exact wpAny_pure k
theorem next_first {z TI TO i1 i2 l1 l2 : Addr} {k1 k2 : Nat} {xs ys : Array Value} {x y a b : Value} {Q : Option Value → Shared → Prop} (D : ZipApart z TI TO i1 i2 l1 l2)
    (hz : IsZipS s.heap z TI TO .none (.bool false)) (hTI : IsPair s.heap TI (.ref i1) (.ref i2)) (hTO : IsPair s.heap TO a b)
    (h1 : s.heap.IsTupleIter i1 l1 k1) (h2 : s.heap.IsTupleIter i2 l2 k2) (hl1 : s.heap.IsTuple l1 xs) (hl2 : s.heap.IsTuple l2 ys) (hx : xs[k1]? = some x) (hy : ys[k2]? = some y)
    (hQ : ∀ h', IsZipS h' z TI TO (rawInt s.heap.objs.size) (.bool false) → IsPair h' TO x y → h'.IsTupleIter i1 l1 (k1 + 1) → h'.IsTupleIter i2 l2 (k2 + 1) → IsPair h' s.heap.objs.size x y → h'.objs.size = s.heap.objs.size + 1 →
      (∀ c o, c ≠ z → c ≠ TO → c ≠ i1 → c ≠ i2 → s.heap.get? c = some o → h'.get? c = some o) → Q (some (.ref s.heap.objs.size)) { s with heap := h' }) :
    wpAny (model prog w) A (pyNext (.ref z)) Q E s := by
  have hT : s.TypeIs (.ref z) "zip" := ⟨_, hz, rfl⟩
  unfold pyNext
  exact wpAny_bind (wpAny_attempt (wpAny_callSpecial?_slot (name := Str.ofString "__next__") hT F.slot_zip_next
    (wpAny_call_entry F.slot_zip_next hT F.entry_zip_next
      (zipS_first D hz hTI hTO h1 h2 hl1 hl2 hx hy fun h' a1 a2 a3 a4 a5 a6 a7 => wpAny_pure (hQ h' a1 a2 a3 a4 a5 a6 a7)) (F.args_zip_next_1 _))))
theorem next_more {z TI TO T i1 i2 l1 l2 : Addr} {f : Bool} {o : Obj} {k1 k2 : Nat} {xs ys : Array Value} {x y : Value} {Q : Option Value → Shared → Prop} (D : ZipApart z TI TO i1 i2 l1 l2)
    (hz : IsZipS s.heap z TI TO (rawInt T) (.bool f)) (ha : s.heap.get? T = some o) (hTI : IsPair s.heap TI (.ref i1) (.ref i2))
    (h1 : s.heap.IsTupleIter i1 l1 k1) (h2 : s.heap.IsTupleIter i2 l2 k2) (hl1 : s.heap.IsTuple l1 xs) (hl2 : s.heap.IsTuple l2 ys) (hx : xs[k1]? = some x) (hy : ys[k2]? = some y)
    (hQ : ∀ h', IsZipS h' z TI TO (rawInt T) (.bool true) → h'.IsTupleIter i1 l1 (k1 + 1) → h'.IsTupleIter i2 l2 (k2 + 1) → IsPair h' s.heap.objs.size x y → h'.objs.size = s.heap.objs.size + 1 →
      (∀ c o, c ≠ z → c ≠ i1 → c ≠ i2 → s.heap.get? c = some o → h'.get? c = some o) → Q (some (.ref s.heap.objs.size)) { s with heap := h' }) :
    wpAny (model prog w) A (pyNext (.ref z)) Q E s := by
  have hT : s.TypeIs (.ref z) "zip" := ⟨_, hz, rfl⟩
  unfold pyNext
  exact wpAny_bind (wpAny_attempt (wpAny_callSpecial?_slot (name := Str.ofString "__next__") hT F.slot_zip_next
    (wpAny_call_entry F.slot_zip_next hT F.entry_zip_next
      (zipS_more D hz ha hTI h1 h2 hl1 hl2 hx hy fun h' a1 a3 a4 a5 a6 a7 => wpAny_pure (hQ h' a1 a3 a4 a5 a6 a7)) (F.args_zip_next_1 _))))
theorem next_end {z TI TO T i1 i2 l1 l2 : Addr} {f : Bool} {o : Obj} {k1 k2 : Nat} {xs ys : Array Value} {Q : Option Value → Shared → Prop} (hh : A.handled = none) (D : ZipApart z TI TO i1 i2 l1 l2)
    (hz : IsZipS s.heap z TI TO (rawInt T) (.bool f)) (ha : s.heap.get? T = some o) (hTI : IsPair s.heap TI (.ref i1) (.ref i2))
    (h1 : s.heap.IsTupleIter i1 l1 k1) (h2 : s.heap.IsTupleIter i2 l2 k2) (hl1 : s.heap.IsTuple l1 xs) (hl2 : s.heap.IsTuple l2 ys) (hx : xs[k1]? = none) (hy : ys[k2]? = none)
    (hQ : ∀ h', (∀ c o, c ≠ z → c ≠ i1 → c ≠ i2 → s.heap.get? c = some o → h'.get? c = some o) → Q none { s with heap := h' }) : wpAny (model prog w) A (pyNext (.ref z)) Q E s := by
  have hT : s.TypeIs (.ref z) "zip" := ⟨_, hz, rfl⟩
  unfold pyNext
  refine wpAny_bind (wpAny_attempt (wpAny_callSpecial?_slot (name := Str.ofString "__next__") hT F.slot_zip_next
    (wpAny_call_entry F.slot_zip_next hT F.entry_zip_next (zipS_end hh D hz ha hTI h1 h2 hl1 hl2 hx hy fun h' e hk he => ?_) (F.args_zip_next_1 _))))
  obtain ⟨o, ho, hc⟩ := he
  refine wpAny_bind (wpAny_isInstance (T := "StopIteration") (b := true) ⟨o, ho, hc⟩ isSubtype_stop ?_)
  exact wpAny_pure (hQ _ hk)
abbrev IsLst (h : Heap) (S : Addr) (acc : Array Value) (c : Nat) : Prop := h.get? S = some { cls := .type "list", dict := none, data := .seq acc c, slots := #[] }
/-- what is gathered: pairs -/
def PairsOf (xs ys : Array Value) (n0 : Nat) (h : Heap) (acc : Array Value) (i : Nat) : Prop :=
  acc.size = i ∧ (∀ j, j < i → ∃ T x y, acc[j]? = some (.ref T) ∧ xs[j]? = some x ∧ ys[j]? = some y ∧ IsPair h T x y ∧ n0 ≤ T) ∧ ∀ (i j : Nat) (T : Addr), acc[i]? = some (Value.ref T) → acc[j]? = some (Value.ref T) → i = j
theorem PairsOf.keep {xs ys : Array Value} {n0 : Nat} {h h' : Heap} {acc : Array Value} {i : Nat} (p : PairsOf xs ys n0 h acc i) (k : ∀ b o, n0 ≤ b → h.get? b = some o → h'.get? b = some o) : PairsOf xs ys n0 h' acc i :=
  ⟨p.1, fun j hj => let ⟨T, x, y, a, b, c, d, e⟩ := p.2.1 j hj; ⟨T, x, y, a, b, c, k _ _ e d, e⟩, p.2.2⟩
theorem PairsOf.push {xs ys : Array Value} {n0 T : Nat} {h : Heap} {acc : Array Value} {i : Nat} {x y : Value} (p : PairsOf xs ys n0 h acc i) (hx : xs[i]? = some x) (hy : ys[i]? = some y) (hT : IsPair h T x y) (hn : n0 ≤ T) (new : ∀ j : Nat, acc[j]? ≠ some (Value.ref T)) : PairsOf xs ys n0 h (acc.push (.ref T)) (i + 1) := by
  refine ⟨by rw [Array.size_push, p.1], fun j hj => ?_, fun a b S ha hb => ?_⟩
  rotate_left
  · rw [Array.getElem?_push] at ha hb
    split at ha <;> split at hb
    · omega
    · cases ha; exact absurd hb (new b)
    · cases hb; exact absurd ha (new a)
    · exact p.2.2 a b S ha hb
  by_cases e : j = i
  · subst e
    exact ⟨T, x, y, by rw [Array.getElem?_push, if_pos p.1.symm], hx, hy, hT, hn⟩
  · obtain ⟨T', x', y', a, r⟩ := p.2.1 j (by omega)
    exact ⟨T', x', y', by rw [Array.getElem?_push, if_neg (by rw [p.1]; exact e)]; exact a, r⟩
theorem ext_zipS {z TI TO T i1 i2 l1 l2 S : Addr} {n0 : Nat} {xs ys : Array Value} {res : Value} {R : Result → Shared → Prop} (hh : A.handled = none) (D : ZipApart z TI TO i1 i2 l1 l2) (hxy : ys.size = xs.size) (hn : xs.size ≤ sizeLine)
    (lz : z < n0) (l_1 : i1 < n0) (l_2 : i2 < n0) (lS : S < n0) (Sz : S ≠ z) (ST : S ≠ TI) (S1 : S ≠ i1) (S2 : S ≠ i2) (Sl1 : S ≠ l1) (Sl2 : S ≠ l2) (lT : n0 ≤ T) :
    ∀ (k i : Nat) (f : Bool) (s : Shared) (acc : Array Value) (c : Nat), xs.size - i = k → i ≤ xs.size → n0 ≤ s.heap.objs.size → IsZipS s.heap z TI TO (rawInt T) (.bool f) → (∃ o, s.heap.get? T = some o) → IsPair s.heap TI (.ref i1) (.ref i2) →
    s.heap.IsTupleIter i1 l1 i → s.heap.IsTupleIter i2 l2 i → s.heap.IsTuple l1 xs → s.heap.IsTuple l2 ys → IsLst s.heap S acc c → PairsOf xs ys n0 s.heap acc i →
    (∀ h' acc' c', (∀ b o, b ≠ z → b ≠ i1 → b ≠ i2 → b ≠ S → s.heap.get? b = some o → h'.get? b = some o) → IsLst h' S acc' c' → PairsOf xs ys n0 h' acc' xs.size → R (.ok (.ret res)) { s with heap := h' }) →
    codeAny (model prog w) A (.builtin "list.extend.loop" ⟨[.ref S, .ref z, res], []⟩) R s := by
  intro k
  induction k with
  | zero =>
    intro i f s acc c hk hi hsz hz ⟨o, ha⟩ hTI h1 h2 hl1 hl2 hS hp hR
    have e : i = xs.size := by omega
    subst e
    refine ext_done (next_end (A := A.in1) hh D hz ha hTI h1 h2 hl1 hl2 (by simp) (by rw [← hxy]; simp) fun h' kp => ⟨rfl, hR h' acc c (fun b o a1 a2 a3 _ e => kp b o a1 a2 a3 e) (kp _ _ Sz S1 S2 hS) (hp.keep fun b o hb e => kp b o (Nat.ne_of_gt (Nat.lt_of_lt_of_le lz hb)) (Nat.ne_of_gt (Nat.lt_of_lt_of_le l_1 hb)) (Nat.ne_of_gt (Nat.lt_of_lt_of_le l_2 hb)) e)⟩)
  | succ k ih =>
    intro i f s acc c hk hi hsz hz ⟨o, ha⟩ hTI h1 h2 hl1 hl2 hS hp hR
    have hlt : i < xs.size := by omega
    refine ext_more (acc := acc) (c := c) (by rw [hp.1]; omega) (next_more D hz ha hTI h1 h2 hl1 hl2 (x := xs[i]) (y := ys[i]) (by simp) (by simp) fun h' z' a1 a2 pr sz kp => ⟨_, rfl, kp _ _ Sz S1 S2 hS, fun h'' c' hS'' kp2 sz2 => ?_⟩)
    have kp3 : ∀ b o, b ≠ z → b ≠ i1 → b ≠ i2 → b ≠ S → s.heap.get? b = some o → h''.get? b = some o := fun b o b1 b2 b3 b4 e => kp2 b o b4 (kp b o b1 b2 b3 e)
    have hp2 : PairsOf xs ys n0 h' acc i := hp.keep fun b o hb e => kp b o (Nat.ne_of_gt (Nat.lt_of_lt_of_le lz hb)) (Nat.ne_of_gt (Nat.lt_of_lt_of_le l_1 hb)) (Nat.ne_of_gt (Nat.lt_of_lt_of_le l_2 hb)) e
    have hnw : ∀ j : Nat, acc[j]? ≠ some (Value.ref s.heap.objs.size) := fun j e => by
      have hj : j < i := by rw [← hp.1]; exact (Array.getElem?_eq_some_iff.mp e).1
      obtain ⟨T', x', y', a, _, _, d, _⟩ := hp.2.1 j hj
      rw [a] at e
      cases e
      exact absurd (Heap.lt_size d) (Nat.lt_irrefl _)
    have hp3 : PairsOf xs ys n0 h'' (acc.push (.ref s.heap.objs.size)) (i + 1) := (hp2.push (T := s.heap.objs.size) (by simp [hlt]) (by rw [Array.getElem?_eq_getElem (by omega)]) pr hsz hnw).keep fun b o hb e => kp2 b o (Nat.ne_of_gt (Nat.lt_of_lt_of_le lS hb)) e
    refine ih (i + 1) true { s with heap := h'' } _ c' (by omega) hlt (by show n0 ≤ h''.objs.size; have : h''.objs.size = h'.objs.size := sz2; omega) (kp2 _ _ Sz.symm z') ⟨o, kp3 _ _ (Nat.ne_of_gt (Nat.lt_of_lt_of_le lz lT)) (Nat.ne_of_gt (Nat.lt_of_lt_of_le l_1 lT)) (Nat.ne_of_gt (Nat.lt_of_lt_of_le l_2 lT)) (Nat.ne_of_gt (Nat.lt_of_lt_of_le lS lT)) ha⟩ (kp3 _ _ D.TIz D.TIi1 D.TIi2 ST.symm hTI)
      (let ⟨o, e, r⟩ := a1; ⟨o, kp2 _ _ S1.symm e, r⟩) (let ⟨o, e, r⟩ := a2; ⟨o, kp2 _ _ S2.symm e, r⟩) (let ⟨o, e, r⟩ := hl1; ⟨o, kp3 _ _ D.l1z D.l1i1 D.l1i2 Sl1.symm e, r⟩) (let ⟨o, e, r⟩ := hl2; ⟨o, kp3 _ _ D.l2z D.l2i1 D.l2i2 Sl2.symm e, r⟩) hS'' hp3
      fun h4 acc' c4 k4 l4 p4 => hR h4 acc' c4 (fun b o b1 b2 b3 b4 e => k4 b o b1 b2 b3 b4 (kp3 b o b1 b2 b3 b4 e)) l4 p4
theorem zip_no_len : typeLookup (.type "zip") "__len__" = pure none := by rw [typeLookup_type, builtinLookup_eq_fast]; kernel_rfl
theorem zip_no_hint : typeLookup (.type "zip") "__length_hint__" = pure none := by rw [typeLookup_type, builtinLookup_eq_fast]; kernel_rfl
theorem iter_zipS {z TI TO : Addr} {f0 f1 : Value} {Q : Value → Shared → Prop} (hz : IsZipS s.heap z TI TO f0 f1) (h : Q (.ref z) s) : wpAny (model prog w) A (pyIter (.ref z)) Q E s := by
  have hT : s.TypeIs (.ref z) "zip" := ⟨_, hz, rfl⟩
  refine wpAny_pyIter_slot hT F.slot_zip_iter (wpAny_call_entry F.slot_zip_iter hT F.entry_zip_iter ?_ (F.args_zip_iter_1 _))
  show wpAny _ _ (ret (.ref z)) _ _ s
  exact wpAny_pure ⟨_, rfl, "zip", _, hT, F.slot_zip_next.lookup, h⟩
theorem list_zipS {z TI TO i1 i2 l1 l2 : Addr} {xs ys : Array Value} {a b : Value} {Q : Value → Shared → Prop} (hh : A.handled = none) (D : ZipApart z TI TO i1 i2 l1 l2) (hxy : ys.size = xs.size) (hpos : 0 < xs.size) (hn : xs.size ≤ sizeLine)
    (hz : IsZipS s.heap z TI TO .none (.bool false)) (hTI : IsPair s.heap TI (.ref i1) (.ref i2)) (hTO : IsPair s.heap TO a b) (h1 : s.heap.IsTupleIter i1 l1 0) (h2 : s.heap.IsTupleIter i2 l2 0) (hl1 : s.heap.IsTuple l1 xs) (hl2 : s.heap.IsTuple l2 ys)
    (hQ : ∀ h' acc c', (∀ b o, b ≠ z → b ≠ TO → b ≠ i1 → b ≠ i2 → s.heap.get? b = some o → h'.get? b = some o) → IsLst h' s.heap.objs.size acc c' → PairsOf xs ys (s.heap.objs.size + 1) h' acc xs.size → Q (.ref s.heap.objs.size) { s with heap := h' }) :
    wpAny (model prog w) A (call (.type "list") [.ref z]) Q E s := by
  refine callType_codes (Q₁ := fun obj s₁ => obj = .ref s.heap.objs.size ∧ s₁ = { s with heap := s.heap.push { cls := .type "list", data := .seq #[] } }) F.called_list (F.typeCall_list_1 _) F.entry_list_init
    (code_list_new _ ⟨rfl, rfl⟩) fun obj s₁ h₁ => ?_
  obtain ⟨rfl, rfl⟩ := h₁
  have hS : (s.heap.push { cls := .type "list", data := .seq #[] }).get? s.heap.objs.size = some { cls := .type "list", data := .seq #[] } := Heap.get?_push_size _ rfl
  refine ⟨⟨_, hS, rfl⟩, F.args_list_init_2 _ _, ?_⟩
  have ps : ∀ b o, s.heap.get? b = some o → (s.heap.push { cls := .type "list", data := .seq #[] }).get? b = some o := fun b o e => Heap.get?_push_of_some _ e
  have lt : ∀ {b o}, s.heap.get? b = some o → b ≠ s.heap.objs.size := fun e => Nat.ne_of_lt (Heap.lt_size e)
  have nz := lt hz
  show wpAny _ _ (do let old ← Builtin.List.listItems (.ref s.heap.objs.size); Builtin.List.listUpdate (.ref s.heap.objs.size) (fun _ => #[]); letGo old.toList.reverse; Builtin.List.listExtendWith (.ref s.heap.objs.size) (.ref z) .none) _ _ _
  refine wpAny_bind ?_
  unfold Builtin.List.listItems
  refine wpAny_bind (wpAny_seqItems hS rfl (wpAny_pure ?_))
  show wpAny _ _ (updateSeq s.heap.objs.size (fun _ => #[]) >>= fun _ => letGo (#[] : Array Value).toList.reverse >>= fun _ => Builtin.List.listExtendWith (.ref s.heap.objs.size) (.ref z) .none) _ _ _
  refine wpAny_bind (wpAny_updateSeq hS rfl ?_)
  have hS₂ := Heap.get?_update_self (Obj.mapSeq (fun _ => (#[] : Array Value))) hS rfl
  refine wpAny_bind (wpAny_letGo ?_)
  unfold Builtin.List.listExtendWith
  have oth : ∀ b o, b ≠ s.heap.objs.size → (s.heap.push { cls := .type "list", data := .seq #[] }).get? b = some o → ((s.heap.push { cls := .type "list", data := .seq #[] }).update s.heap.objs.size (Obj.mapSeq (fun _ => (#[] : Array Value)))).get? b = some o :=
    fun b o hb e => (Heap.get?_update_other _ _ (Ne.symm hb)).trans e
  generalize hH : (s.heap.push { cls := .type "list", data := .seq #[] }).update s.heap.objs.size (Obj.mapSeq (fun _ => (#[] : Array Value))) = H0 at *
  have sz0 : H0.objs.size = s.heap.objs.size + 1 := by rw [← hH, Heap.size_update, Heap.size_push]
  have up : ∀ b o, s.heap.get? b = some o → H0.get? b = some o := fun b o e => oth b o (lt e) (ps b o e)
  have hz0 : IsZipS H0 z TI TO .none (.bool false) := up _ _ hz
  have hT : Shared.TypeIs { s with heap := H0 } (.ref z) "zip" := ⟨_, hz0, rfl⟩
  refine wpAny_bind (wpAny_typeOf hT ?_)
  have e1 : Builtin.List.listSameRef (.ref s.heap.objs.size) (.ref z) = false := by simp [Builtin.List.listSameRef, Ne.symm nz]
  have e2 : (Value.type "zip" == Value.type "list") = false := by decide
  have e3 : (Value.type "zip" == Value.type "tuple") = false := by decide
  simp only [e1, e2, e3, Bool.or_false, Bool.false_eq_true, if_false]
  refine wpAny_bind (iter_zipS hz0 ?_)
  refine wpAny_bind (wpAny_holding ?_)
  unfold Builtin.List.listLengthHint
  refine wpAny_bind (wpAny_specialOf hT zip_no_len ?_)
  show wpAny _ _ (specialOf (Value.ref z) (Str.ofString "__length_hint__") >>= _) _ _ _
  refine wpAny_bind (wpAny_specialOf hT zip_no_hint ?_)
  refine wpAny_pure ?_
  show wpAny _ _ (rule "list.extend.makes-room" >>= fun _ => Builtin.List.listTouch (.ref s.heap.objs.size) >>= fun _ => again (.builtin "list.extend.loop" ⟨[.ref s.heap.objs.size, .ref z, .none], []⟩)) _ _ _
  refine wpAny_bind (wpAny_rule ?_)
  refine wpAny_bind ?_
  show wpAny _ _ (updateSeq s.heap.objs.size (·.push .none) >>= fun _ => updateSeq s.heap.objs.size (·.pop)) _ _ _
  refine wpAny_bind (wpAny_updateSeq hS₂ rfl ?_)
  have hS₃ := Heap.get?_update_self (Obj.mapSeq (·.push Value.none)) hS₂ rfl
  refine wpAny_updateSeq hS₃ rfl ?_
  have hS₄ := Heap.get?_update_self (Obj.mapSeq (·.pop)) hS₃ rfl
  have oth2 : ∀ b o, b ≠ s.heap.objs.size → H0.get? b = some o → ((H0.update s.heap.objs.size (Obj.mapSeq (·.push Value.none))).update s.heap.objs.size (Obj.mapSeq (·.pop))).get? b = some o :=
    fun b o hb e => (Heap.get?_update_other _ _ (Ne.symm hb)).trans ((Heap.get?_update_other _ _ (Ne.symm hb)).trans e)
  generalize hH1 : (H0.update s.heap.objs.size (Obj.mapSeq (·.push Value.none))).update s.heap.objs.size (Obj.mapSeq (·.pop)) = H1 at *
  have sz1 : H1.objs.size = s.heap.objs.size + 1 := by rw [← hH1, Heap.size_update, Heap.size_update, sz0]
  have up1 : ∀ b o, s.heap.get? b = some o → H1.get? b = some o := fun b o e => oth2 b o (lt e) (up b o e)
  have hS4 : IsLst H1 s.heap.objs.size #[] _ := hS₄
  have upI : ∀ {i l : Addr} {k : Nat}, s.heap.IsTupleIter i l k → H1.IsTupleIter i l k := fun ⟨o, e, r⟩ => ⟨o, up1 _ _ e, r⟩
  have upT : ∀ {l : Addr} {vs : Array Value}, s.heap.IsTuple l vs → H1.IsTuple l vs := fun ⟨o, e, r⟩ => ⟨o, up1 _ _ e, r⟩
  have n1 : i1 ≠ s.heap.objs.size := by obtain ⟨_, e, _⟩ := h1; exact lt e
  have n2 : i2 ≠ s.heap.objs.size := by obtain ⟨_, e, _⟩ := h2; exact lt e
  have m1 : l1 ≠ s.heap.objs.size := by obtain ⟨_, e, _⟩ := hl1; exact lt e
  have m2 : l2 ≠ s.heap.objs.size := by obtain ⟨_, e, _⟩ := hl2; exact lt e
  have L : ∀ {b o}, s.heap.get? b = some o → b < s.heap.objs.size + 1 := fun e => Nat.lt_succ_of_lt (Heap.lt_size e)
  refine wpAny_pure ⟨plainId_quiet F.plain_extend_loop _, ext_more (acc := #[]) (by show 0 < sizeLine; omega) (next_first (s := { s with heap := H1 }) D (up1 _ _ hz) (up1 _ _ hTI) (up1 _ _ hTO) (upI h1) (upI h2) (upT hl1) (upT hl2) (x := xs[0]) (y := ys[0]) (by simp [hpos]) (by rw [Array.getElem?_eq_getElem (by omega)]) fun h' z' t' a1 a2 pr sz kp => ⟨_, rfl, kp _ _ (Ne.symm nz) (Ne.symm (lt hTO)) (Ne.symm n1) (Ne.symm n2) hS4, fun g2 c' hS5 kp2 sz2 => ?_⟩)⟩
  have T0 : H1.objs.size ≠ s.heap.objs.size := by omega
  have kp3 : ∀ b o, b ≠ z → b ≠ TO → b ≠ i1 → b ≠ i2 → b ≠ s.heap.objs.size → H1.get? b = some o → g2.get? b = some o := fun b o b1 b2 b3 b4 b5 e => kp2 b o b5 (kp b o b1 b2 b3 b4 e)
  have pr2 : IsPair g2 H1.objs.size xs[0] ys[0] := kp2 _ _ T0 pr
  refine ext_zipS (A := A.in1) (n0 := s.heap.objs.size + 1) (T := H1.objs.size) (l1 := l1) (l2 := l2) (xs := xs) (ys := ys) hh D hxy hn (L hz) (by obtain ⟨_, e, _⟩ := h1; exact L e) (by obtain ⟨_, e, _⟩ := h2; exact L e) (Nat.lt_succ_self _) (Ne.symm nz) (Ne.symm (lt hTI)) (Ne.symm n1) (Ne.symm n2) (Ne.symm m1) (Ne.symm m2) (by omega)
    (xs.size - 1) 1 false { s with heap := g2 } _ c' rfl hpos (by show s.heap.objs.size + 1 ≤ g2.objs.size; have e : g2.objs.size = h'.objs.size := sz2; have e' : h'.objs.size = H1.objs.size + 1 := sz; omega) (kp2 _ _ nz z') ⟨_, pr2⟩ (kp3 _ _ D.TIz D.TITO D.TIi1 D.TIi2 (lt hTI) (up1 _ _ hTI))
    (let ⟨o, e, r⟩ := a1; ⟨o, kp2 _ _ n1 e, r⟩) (let ⟨o, e, r⟩ := a2; ⟨o, kp2 _ _ n2 e, r⟩) (let ⟨o, e, r⟩ := hl1; ⟨o, kp3 _ _ D.l1z D.l1TO D.l1i1 D.l1i2 m1 (up1 _ _ e), r⟩) (let ⟨o, e, r⟩ := hl2; ⟨o, kp3 _ _ D.l2z D.l2TO D.l2i1 D.l2i2 m2 (up1 _ _ e), r⟩) hS5 ?_ ?_
  · refine ⟨rfl, fun j hj => ?_, fun i j T a b => ?_⟩
    rotate_left
    · have := (Array.getElem?_eq_some_iff.mp a).1
      have := (Array.getElem?_eq_some_iff.mp b).1
      simp at *
      omega
    have e : j = 0 := by omega
    subst e
    exact ⟨H1.objs.size, _, _, rfl, Array.getElem?_eq_getElem hpos, Array.getElem?_eq_getElem (by omega), pr2, Nat.le_of_eq sz1.symm⟩
  · intro h3 acc' c3 k3 l3 p3
    exact ⟨rfl, hQ h3 acc' c3 (fun b o b1 b2 b3 b4 e => k3 b o b1 b3 b4 (lt e) (kp3 b o b1 b2 b3 b4 (lt e) (up1 _ _ e))) l3 p3⟩
end
end NC
/-! ### list(zip(a, b, strict=True)) -/
namespace NC
open PySem PySem.Spec PyProof.Rows L2
section
variable {X : Cx} {pins : List (Addr × Obj)} {σ : L2.St} {H H' : Hp} {s : Shared} {h' : Heap}
/-- several new objects at once -/
theorem Inv.laidF {t' : Nat} (I : Inv X pins σ H s) (k : ∀ b o, s.heap.get? b = some o → h'.get? b = some o) (old : ∀ b, b < s.heap.objs.size → H' b = H b) (new : ∀ b u, s.heap.objs.size ≤ b → H' b = some u → ObjOk X.prog X.w H' h' b u) :
    Inv X pins σ H' { s with heap := h', toks := t' } := by
  have lt : ∀ b u, H b = some u → b < s.heap.objs.size := fun b u e => by
    obtain ⟨o, q⟩ := objok_there (I.hok b u e)
    exact Heap.lt_size q
  have up : ∀ b u, H b = some u → H' b = some u := fun b u e => by rw [old b (lt b u e)]; exact e
  refine I.step (g' := s.gens) (d' := s.drawn) (ch := []) (fun _ z => nomatch z) (fun b o _ _ _ e _ => k b o e) (fun b o _ _ _ e _ => ⟨o.slots, k b o e⟩) (fun b o _ e n => by rw [old b (Heap.lt_size e)]; exact n) (fun b o _ e => ⟨o, k b o e⟩)
    (fun b xs e => up b _ e) (fun b o u e => up b _ e) (fun b ps e => ⟨#[], by rw [up b _ e]; simp⟩) (fun m ⟨o, es, ep, e, r⟩ => ⟨o, es, ep, k _ o e, r⟩) (fun b u e => ?_) I.bare
  by_cases hb : b < s.heap.objs.size
  · rw [old b hb] at e
    exact (I.hok b u e).stay (fun d v _ q => k d v q) (fun d q => up d _ q) fun d xs q => up d _ q
  · exact new b u (Nat.le_of_not_lt hb) e
end
theorem isTup_isTuple {h : Heap} {a : Addr} {items : Array Value} (t : IsTup h a items) : h.IsTuple a items := by
  obtain ⟨o, e, c, r⟩ := t
  exact ⟨o, e, c, r⟩
inductive TLZipI (K : PySem.W.Frag) (vs : List V) (H1 : Hp) (Q : VK) : Prop where
  | mk (t1 t2 : Addr) (xs ys : List V) (c1 : vs = [.ref t1, .ref t2]) (c2 : SqT K H1 t1 xs) (c3 : SqT K H1 t2 ys) (c4 : ys.length = xs.length) (c5 : 0 < xs.length)
      (c6 : ∀ l rs H', H1 l = none → Same H1 H' → H' l = some (.lst rs) → Paired (fun r (q : V × V) => ∃ T, r = V.ref T ∧ H' T = some (.tup [q.1, q.2])) rs (xs.zip ys) → Q (.ref l) H')
def tLZip (K : PySem.W.Frag) (ta tb : TE) : TE := fun σ H Q => tCons ta (tCons tb tNil) σ H fun vs H1 => TLZipI K vs H1 Q
theorem zip_apart (n t1 t2 : Nat) (l1 : t1 < n) (l2 : t2 < n) : ZipApart (n + 4) (n + 2) (n + 3) n (n + 1) t1 t2 := by
  constructor <;> (show (_ : Nat) ≠ _; omega)
theorem paired_zip {α β γ : Type} {F : α → β × γ → Prop} : ∀ {rs : List α} {xs : List β} {ys : List γ}, rs.length = xs.length → ys.length = xs.length → (∀ (j : Nat) r x y, rs[j]? = some r → xs[j]? = some x → ys[j]? = some y → F r (x, y)) → Paired F rs (xs.zip ys)
  | [], [], [], _, _, _ => .nil
  | r :: rs, x :: xs, y :: ys, h1, h2, h => .cons (h 0 r x y rfl rfl rfl) (paired_zip (Nat.succ.inj h1) (Nat.succ.inj h2) fun j r x y a b c => h (j + 1) r x y a b c)
theorem callWith_type_kwB {M : Model} {A : Around} {E : Value → Shared → Prop} {s : Shared} {pos : Pos} {T : String} {first : List Value} {args : List (Bool × Sem Value)} {keywords : List (Option Str × Sem Value)} {Q : Value → Shared → Prop}
    (hplain : args.any (·.1) = false) (hkw : keywords.any (·.1.isNone) = false)
    (h : wpAny M A (evalArgs (.type T) true args keywords) (fun a s₁ => wpAny M A (call (.type T) (first ++ a.pos) a.kw) Q E s₁) E s) : wpAny M A (callWith pos (.type T) first args keywords) Q E s := by
  unfold callWith
  refine wpAny_bind (wpAny_holding (wpAny_mono h (fun a s₁ h₁ => wpAny_bind (wpAny_standAt ?_)) fun _ _ x => x))
  simp only [hplain, hkw, Bool.or_false]
  refine wpAny_bind (wpAny_pure ?_)
  exact wpAny_bind (wpAny_mono h₁ (fun r s₂ hr => wpAny_bind (wpAny_holding (wpAny_point (wpAny_pure hr)))) fun _ _ x => x)
section
variable {X : Cx}
theorem pe_lzip {a b : Expr} {ta tb : TE} {p p2 pos pos2 kp cp : Pos} {c0} (hh : X.A.handled = none) (hg : Gl X "zip") (hm : X.mg "zip" = none) (hg2 : Gl X "list") (hm2 : X.mg "list" = none) (ha : PE X a ta) (hb : PE X b tb) (pa : plainE a = true := by rfl) (pb : plainE b = true := by rfl) :
    PE X (.Call (.Name "list" p2) [.Call (.Name "zip" p) [a, b] [⟨some "strict", .Constant (.bool true) c0 cp, kp⟩] pos] [] pos2) (tLZip X.K ta tb) := by
  intro pins s σ H Q I hw
  have hab : PA X [a, b] (tCons ta (tCons tb tNil)) := pa_c ha (pa_c hb pa_nil pb) pa
  refine wpAny_Call_Name_kw (ld_blt I hg2 hm2 boot_list ?_)
  refine PyProof.Rows.callWith_type1 (e := .Call (.Name "zip" p) [a, b] [⟨some "strict", .Constant (.bool true) c0 cp, kp⟩] pos) (rest := []) ?_ rfl rfl
  show wpAny _ _ (spliced ((false, eval (.Call (.Name "zip" p) [a, b] [⟨some "strict", .Constant (.bool true) c0 cp, kp⟩] pos) X.env) :: backTo pos2 (starEach [] X.env))) _ _ s
  refine Calls.spliced_cons ?_
  refine wpAny_Call_Name_kw (ld_blt I hg hm boot_zip ?_)
  have e0 : starEach [a, b] X.env = (false, eval a X.env) :: starEach [b] X.env := star_plain pa
  refine callWith_type_kwB (star_any (es := [a, b]) (by simp [pa, pb])) rfl ?_
  have e1 : backTo pos (starEach [a, b] X.env) = (false, eval a X.env) :: backTo pos (starEach [b] X.env) := by rw [e0]; rfl
  rw [e1]
  refine evalArgs_kwB rfl ?_
  rw [← e1]
  refine thn (hab pos pins s σ H _ I hw) fun us s1 h1 => ?_
  obtain ⟨vs, H1, I1, r1, t1, t2, xs, ys, rfl, hx, hy, hlen, hpos, k⟩ := h1
  refine kws_cons (thn (pe_bl pins s1 σ H1 (fun v H' => v = .bl true ∧ H' = H1) I1 ⟨rfl, rfl⟩) fun u s2 h2 => ?_)
  obtain ⟨v, Hn, I2, ru, rfl, eH⟩ := h2
  have I2 : L2.Inv X pins σ H1 s2 := eH ▸ I2
  obtain rfl : u = Value.bool true := ru
  refine kws_nil ?_
  obtain ⟨u1, u2, rfl, ru1, ru2⟩ := vals2 r1
  cases (show u1 = Value.ref t1 from ru1)
  cases (show u2 = Value.ref t2 from ru2)
  show wpAny _ _ (call (.type "zip") [.ref t1, .ref t2] kwStrict) _ _ s2
  obtain ⟨is1, rv1, p1, z1⟩ := I2.tuple hx
  obtain ⟨is2, rv2, p2', z2⟩ := I2.tuple hy
  have T1 := isTup_isTuple p1
  have T2 := isTup_isTuple p2'
  have l1 : t1 < s2.heap.objs.size := by obtain ⟨_, e, _⟩ := T1; exact Heap.lt_size e
  have l2 : t2 < s2.heap.objs.size := by obtain ⟨_, e, _⟩ := T2; exact Heap.lt_size e
  refine call_zipS T1 T2 fun h' hz hTI hTO hi1 hi2 hsz kp => ?_
  refine wpAny_items_nil ?_
  have D := zip_apart s2.heap.objs.size t1 t2 l1 l2
  have e1 : is1.toArray.size = xs.length := by rw [List.size_toArray, rv1.length]
  have e2 : is2.toArray.size = xs.length := by rw [List.size_toArray, ← rv2.length, hlen]
  refine list_zipS (s := { s2 with heap := h' }) hh D (by rw [e1, e2]) (by rw [e1]; exact hpos) (by rw [e1]; exact z1) hz hTI hTO hi1 hi2 (let ⟨o, e, r⟩ := T1; ⟨o, kp _ _ e, r⟩) (let ⟨o, e, r⟩ := T2; ⟨o, kp _ _ e, r⟩) fun h2 acc c' kp2 hS hP => ?_
  have hsS : h'.objs.size = s2.heap.objs.size + 5 := hsz
  have hS : IsLst h2 h'.objs.size acc c' := hS
  have hP : PairsOf is1.toArray is2.toArray (h'.objs.size + 1) h2 acc is1.toArray.size := hP
  have all : ∀ j : Nat, j < xs.length → ∃ T x y u w, acc[j]? = some (Value.ref T) ∧ xs[j]? = some x ∧ ys[j]? = some y ∧ RelV x u ∧ RelV y w ∧ IsPair h2 T u w ∧ h'.objs.size + 1 ≤ T := fun j hj => by
    obtain ⟨T, u, w, a1, a2, a3, a4, a5⟩ := hP.2.1 j (by rw [e1]; exact hj)
    obtain ⟨u', eu, ru⟩ := rv1.get (List.getElem?_eq_getElem hj)
    obtain ⟨w', ew, rw'⟩ := rv2.get (List.getElem?_eq_getElem (show j < ys.length by omega))
    rw [List.getElem?_toArray] at a2 a3
    rw [a2] at eu
    rw [a3] at ew
    cases eu
    cases ew
    exact ⟨T, _, _, u, w, a1, List.getElem?_eq_getElem hj, List.getElem?_eq_getElem (show j < ys.length by omega), ru, rw', a4, a5⟩
  have accl : acc.size = xs.length := by rw [hP.1, e1]
  let rs : List V := acc.toList.map fun v => match v with | .ref T => V.ref T | _ => V.non
  have rsj : ∀ (j : Nat) (T : Addr), acc[j]? = some (Value.ref T) → rs[j]? = some (V.ref T) := fun j T e => by
    show (acc.toList.map _)[j]? = _
    rw [List.getElem?_map, Array.getElem?_toList, e]
    rfl
  have rsv : Vals rs acc.toList := by
    have g : ∀ l : List Value, (∀ v ∈ l, ∃ T, v = Value.ref T) → Vals (l.map fun v => match v with | .ref T => V.ref T | _ => V.non) l := by
      intro l
      induction l with
      | nil => intro _; exact .nil
      | cons v l ih =>
        intro hl
        obtain ⟨T, rfl⟩ := hl v (by simp)
        exact .cons rfl (ih fun v hv => hl v (by simp [hv]))
    refine g _ fun v hv => ?_
    obtain ⟨j, hj, ev⟩ := List.getElem_of_mem hv
    obtain ⟨T, _, _, _, _, a1, _⟩ := all j (by rw [← accl]; simpa using hj)
    refine ⟨T, ?_⟩
    have e3 : acc.toList[j]? = some v := by rw [List.getElem?_eq_getElem hj, ev]
    rw [Array.getElem?_toList, a1] at e3
    exact (Option.some.inj e3).symm
  let R : Addr → HO → Prop := fun b u => (b = h'.objs.size ∧ u = .lst rs) ∨ ∃ (j : Nat) (x y : V), acc[j]? = some (Value.ref b) ∧ xs[j]? = some x ∧ ys[j]? = some y ∧ u = .tup [x, y]
  have big : ∀ (j : Nat) (T : Addr), acc[j]? = some (Value.ref T) → h'.objs.size + 1 ≤ T := fun j T e => by
    obtain ⟨T', _, _, _, _, a1, _, _, _, _, _, a5⟩ := all j (by rw [← accl]; exact (Array.getElem?_eq_some_iff.mp e).1)
    rw [a1] at e
    cases e
    exact a5
  have uniq : ∀ b u u', R b u → R b u' → u = u' := by
    rintro b u u' (⟨hb, hu⟩ | ⟨j, x, y, a1, a2, a3, hu⟩) (⟨hb', hu'⟩ | ⟨j', x', y', a1', a2', a3', hu'⟩)
    · rw [hu, hu']
    · have := big _ _ a1'
      rw [hb] at this
      exact absurd this (Nat.not_succ_le_self _)
    · have := big _ _ a1
      rw [hb'] at this
      exact absurd this (Nat.not_succ_le_self _)
    · have ej := hP.2.2 j j' b a1 a1'
      subst ej
      rw [a2] at a2'
      rw [a3] at a3'
      cases a2'
      cases a3'
      rw [hu, hu']
  classical
  let H2 : Hp := fun b => if b < s2.heap.objs.size then H1 b else if h : ∃ u, R b u then some (Classical.choose h) else none
  have H2R : ∀ b u, s2.heap.objs.size ≤ b → R b u → H2 b = some u := fun b u hb hr => by
    show (if b < s2.heap.objs.size then H1 b else if h : ∃ u, R b u then some (Classical.choose h) else none) = some u
    rw [if_neg (Nat.not_lt.mpr hb), dif_pos ⟨u, hr⟩]
    exact congrArg some (uniq b _ _ (Classical.choose_spec (⟨u, hr⟩ : ∃ u, R b u)) hr)
  have R2H : ∀ b u, s2.heap.objs.size ≤ b → H2 b = some u → R b u := fun b u hb e => by
    have e : (if b < s2.heap.objs.size then H1 b else if h : ∃ u, R b u then some (Classical.choose h) else none) = some u := e
    rw [if_neg (Nat.not_lt.mpr hb)] at e
    by_cases h : ∃ u, R b u
    · rw [dif_pos h] at e
      rw [← Option.some.inj e]
      exact Classical.choose_spec h
    · rw [dif_neg h] at e
      cases e
  have old : ∀ b, b < s2.heap.objs.size → H2 b = H1 b := fun b hb => if_pos hb
  have kpA : ∀ b o, s2.heap.get? b = some o → h2.get? b = some o := fun b o e => by
    have hb := Heap.lt_size e
    exact kp2 b o (Nat.ne_of_lt (Nat.lt_of_lt_of_le hb (Nat.le_add_right _ _))) (Nat.ne_of_lt (Nat.lt_of_lt_of_le hb (Nat.le_add_right _ _))) (Nat.ne_of_lt hb) (Nat.ne_of_lt (Nat.lt_of_lt_of_le hb (Nat.le_add_right _ _))) (kp b o e)
  have sS : s2.heap.objs.size ≤ h'.objs.size := by omega
  have I3 : L2.Inv X pins σ H2 { s2 with heap := h2, toks := s2.toks } := Inv.laidF I2 kpA old fun b u hb e => by
    rcases R2H b u hb e with ⟨rfl, rfl⟩ | ⟨j, x, y, a1, a2, a3, rfl⟩
    · refine ⟨?_, acc.toList, c', rsv, by rw [hS]⟩
      show (acc.toList.map _).length ≤ sizeLine
      rw [List.length_map, Array.length_toList, accl]
      exact z1
    · obtain ⟨T', x', y', u, w, b1, b2, b3, b4, b5, b6, _⟩ := all j (List.getElem?_eq_some_iff.mp a2).1
      rw [a1] at b1
      cases b1
      rw [a2] at b2
      cases b2
      rw [a3] at b3
      cases b3
      exact ⟨by show 2 ≤ sizeLine; decide, [u, w], .cons b4 (.cons b5 .nil), _, b6, rfl, _, rfl⟩
  have sm : Same H1 H2 := fun b o e => by
    have hb : b < s2.heap.objs.size := by
      obtain ⟨o', q⟩ := objok_there (I2.hok b o e)
      exact Heap.lt_size q
    rw [old b hb]
    exact e
  refine ⟨.ref h'.objs.size, H2, I3, rfl, k _ rs H2 (I2.hok.fresh sS) sm (H2R _ _ sS (.inl ⟨rfl, rfl⟩)) (paired_zip ?_ hlen fun j r x y a1 a2 a3 => ?_)⟩
  · show (acc.toList.map _).length = _
    rw [List.length_map, Array.length_toList, accl]
  · obtain ⟨T, x', y', u, w, b1, b2, b3, _, _, _, b7⟩ := all j (List.getElem?_eq_some_iff.mp a2).1
    rw [rsj j T b1] at a1
    cases a1
    exact ⟨T, rfl, H2R _ _ (Nat.le_trans sS (Nat.le_of_succ_le b7)) (.inr ⟨j, x, y, b1, a2, a3, rfl⟩)⟩
end
end NC
/-! ### the defs of the text -/
namespace NC
open PySem PySem.Spec PyProof.Rows L2
def top (i : Nat) : Stmt := PySem.Challenge.pw_namecall_k07_whole_words_make_no_differe.main.body.getD i (.Pass ⟨0, 0, 0, 0⟩)
/-- the built-in names that the text leaves alone -/
structure NoNames (mg : Str → Option Value) : Prop where
  len : mg "len" = none
  abs : mg "abs" = none
  isinstance : mg "isinstance" = none
  list : mg "list" = none
  tuple : mg "tuple" = none
  str : mg "str" = none
  reversed : mg "reversed" = none
  int : mg "int" = none
  bool : mg "bool" = none
  zip : mg "zip" = none
  range : mg "range" = none
section
variable {P : Program} {w : World} {K : PySem.W.Frag} {mg : Str → Option Value} {base : Heap}
seal L2.PE L2.PA L2.PT L2.PS L2.PSs L2.PW L2.PG L2.PGs L2.PI L2.PO L2.OpR L2.UnR L2.CallR L2.TruR L2.IxR L2.SlR
abbrev s__law_whole : Stmt := top 9
theorem sc__law_whole : FnScope ["_law_found"] ["_law_found"] (defScope s__law_whole) := ⟨rfl, rfl, rfl, by decide +kernel, rfl, by decide +kernel, by decide +kernel⟩
inductive Sp_wholeI (vs : List V) (H : Hp) (Q : VK) : Prop where
  | mk (i : _) (c1 : vs = [.int i]) (c2 : Q (.bl true) H)
def sp_whole : Sp := fun vs H Q u3_ => Sp_wholeI vs H Q
theorem ok__law_whole {f : Addr} {fd : FuncData} (F : Fun K "_law_whole" "_law_whole" s__law_whole f fd) (N_ : NoNames mg) : FnOk P w K mg base CX0 1 f fd ["_law_found"] sp_whole := by
  refine F.ok sc__law_whole (fun vs H Q E h => ?_) (fun cdv A outer s H vs Q E hr h => ?_)
  · obtain ⟨i, rfl, _⟩ := h
    rfl
  · obtain ⟨i, rfl, k⟩ := h
    refine ⟨_, (pss_one (ps_ret (pe_and (pCB call_isi (by rfl) N_.isinstance boot_isinstance (pa_c (pv 0) (pa_c (pe_bltn (v := V.ty "int") rfl N_.int boot_int rfl) pa_nil))) (pe_one (pe_not (pCB call_isi (by rfl) N_.isinstance boot_isinstance (pa_c (pv 0) (pa_c (pe_bltn (v := V.ty "bool") rfl N_.bool boot_bool rfl) pa_nil)))))))), ?_⟩
    exact ⟨_, rfl, _, _, _, _, rfl, .int i, kit_ii K, _, rfl, iteT ⟨_, rfl, _, _, _, _, rfl, .int i, kit_ib K, _, rfl, k⟩⟩
abbrev s__law_any_word : Stmt := top 16
theorem sc__law_any_word : FnScope ["_law_cell", "_law_left", "_law_word"] ["_law_cell"] (defScope s__law_any_word) := ⟨rfl, rfl, rfl, by decide +kernel, rfl, by decide +kernel, by decide +kernel⟩
theorem word_bound {k L : Nat} (h : 26 ^ k * L ≤ 10 ^ 39) (hL : 1 ≤ L) : k ≤ 28 := by
  refine Nat.le_of_not_lt fun z => ?_
  have h1 : 26 ^ 28 ≤ 26 ^ k := Nat.pow_le_pow_right (by decide) (by omega)
  have h2 : 26 ^ k * 1 ≤ 26 ^ k * L := Nat.mul_le_mul_left _ hL
  have h3 : ¬ (26 ^ 28 ≤ 10 ^ 39) := by decide +kernel
  omega
abbrev s__law_room : Stmt := top 15
theorem sc__law_room : FnScope ["_law_script", "_law_most", "_law_bound"] ["_law_script", "_law_most", "_law_bound"] (defScope s__law_room) := ⟨rfl, rfl, rfl, by decide +kernel, rfl, by decide +kernel, by decide +kernel⟩
inductive Sp_roomI (K : PySem.W.Frag) (vs : List V) (H : Hp) (Q : VK) : Prop where
  | mk (a : _) (ns : List Int) (m : _) (b : _) (c1 : vs = [.ref a, m, b]) (c2 : SqL K H a (ns.map V.int)) (c3 : ns.length ≤ 63) (c4 : Q m H)
def sp_room (K : PySem.W.Frag) : Sp := fun vs H Q u3_ => Sp_roomI K vs H Q
theorem ok__law_room {f : Addr} {fd : FuncData} (F : Fun K "_law_room" "_law_room" s__law_room f fd) (N_ : NoNames mg) : FnOk P w K mg base CX0 1 f fd ["_law_script", "_law_most", "_law_bound"] (sp_room K) := by
  refine F.ok sc__law_room (fun vs H Q E h => ?_) (fun cdv A outer s H vs Q E hr h => ?_)
  · obtain ⟨a, ns, m, b, rfl, _⟩ := h
    rfl
  · obtain ⟨a, ns, m, b, rfl, hS, hl, k⟩ := h
    refine ⟨_, (pss_cons (ps_if (pt_cmpR op_gt (pCB call_len_seq (by rfl) N_.len boot_len (pa_c (pv 0) pa_nil)) pe_int (nomark _)) (pss_one (ps_ret (pv 2))) pss_nil)
      (pss_one (ps_ret (pv 1)))), ?_⟩
    show (let V1_ : TS := _; let V2_ : TS := _; tSeq (tIfS _ V2_ _) V1_ _ _ _)
    intro V1_ V2_
    exact ⟨_, rfl, _, _, rfl, Or.inl hS, _, _, rfl, rfl, _, rfl, ifF (by rw [List.length_map]; omega) ⟨_, rfl, k⟩⟩
end
end NC
/-! ### the law's own raising and filling -/
namespace NC
open PySem PySem.Spec PyProof.Rows L2
/-- a pile of terms, the top ahead -/
def PileAt (H : Hp) (p : Addr) (vs : List V) (S : List Tm) : Prop := H p = some (.lst vs) ∧ Paired (TermAt H) vs S.reverse
theorem PileAt.pop {H : Hp} {p : Addr} {vs : List V} {S : List Tm} {x : Tm} (h : PileAt H p vs (x :: S)) : ∃ vs' v, vs = vs' ++ [v] ∧ TermAt H v x ∧ Paired (TermAt H) vs' S.reverse := by
  have q := h.2
  rw [List.reverse_cons] at q
  obtain ⟨vs', v, e, r, tv⟩ := paired_snoc_inv q
  exact ⟨vs', v, e, tv, r⟩
theorem PileAt.same {H H' : Hp} {p : Addr} {vs : List V} {S : List Tm} (h : PileAt H p vs S) (s : Same H H') : PileAt H' p vs S := ⟨s _ _ h.1, paired_imp (fun _ _ q => q.same s) h.2⟩
theorem keep1_tups {H H' : Hp} {p : Addr} {vs : List V} (k : Keep [p] H H') (h : H p = some (.lst vs)) : Tups H H' := fun b xs q => k b _ (fun z => by rw [List.mem_singleton.mp z, h] at q; cases q) q
theorem PileAt.len {H : Hp} {p : Addr} {vs : List V} {S : List Tm} (h : PileAt H p vs S) : vs.length = S.length := by rw [Paired.length h.2, List.length_reverse]
theorem terms_kp {H H' : Hp} {p : Addr} {vs : List V} {us : List V} {S : List Tm} (q : Paired (TermAt H) us S) (k : Keep [p] H H') (h : H p = some (.lst vs)) : Paired (TermAt H') us S := paired_imp (fun _ _ z => z.mono (keep1_tups k h)) q
section
variable {P : Program} {w : World} {K : PySem.W.Frag} {mg : Str → Option Value} {base : Heap}
seal L2.PE L2.PA L2.PT L2.PS L2.PSs L2.PW L2.PG L2.PGs L2.PI L2.PO L2.OpR L2.UnR L2.CallR L2.TruR L2.IxR L2.SlR
abbrev s__law_at : Stmt := top 10
theorem sc__law_at : FnScope ["_law_script", "_law_k"] ["_law_script", "_law_k"] (defScope s__law_at) := ⟨rfl, rfl, rfl, by decide +kernel, rfl, by decide +kernel, by decide +kernel⟩
inductive Sp_latI (K : PySem.W.Frag) (vs : List V) (H : Hp) (Q : VK) : Prop where
  | mk (a : _) (ns : List Int) (k : Nat) (c1 : vs = [.ref a, .int (k : Int)]) (c2 : SqL K H a (ns.map V.int)) (c3 : ns.length ≤ 63) (c4 : ∀ i, Q (.int i) H)
def sp_lat (K : PySem.W.Frag) : Sp := fun vs H Q u3_ => Sp_latI K vs H Q
theorem ok__law_at {f : Addr} {fd : FuncData} (F : Fun K "_law_at" "_law_at" s__law_at f fd) (N_ : NoNames mg) : FnOk P w K mg base CX0 1 f fd ["_law_script", "_law_k"] (sp_lat K) := by
  refine F.ok sc__law_at (fun vs H Q E h => ?_) (fun cdv A outer s H vs Q E hr h => ?_)
  · obtain ⟨a, ns, n, rfl, _⟩ := h
    rfl
  · obtain ⟨a, ns, n, rfl, hS, hl, k⟩ := h
    refine ⟨_, (pss_cons (ps_if (pt_cmpR op_lt (pv 1) (pCB call_len_seq (by rfl) N_.len boot_len (pa_c (pv 0) pa_nil)) (nomark _)) (pss_one (ps_ret (pe_ix ix_list (pv 0) (pv 1) (fun _ _ => rfl)))) pss_nil)
      (pss_one (ps_ret pe_int))), ?_⟩
    show (let V1_ : TS := _; let V2_ : TS := _; tSeq (tIfS _ V2_ _) V1_ _ _ _)
    intro V1_ V2_
    refine ⟨_, rfl, _, rfl, _, _, rfl, Or.inl hS, _, _, rfl, rfl, _, rfl, ifD (fun hlt => ?_) (fun _ => k 0)⟩
    rw [List.length_map] at hlt
    have hlt : n < ns.length := by omega
    exact ⟨_, rfl, _, rfl, _, _, _, _, rfl, rfl, hS, (atI_nat (j := n) (by rw [List.getElem?_map, List.getElem?_eq_getElem hlt]; rfl)), k _⟩
abbrev s__law_is_term : Stmt := top 13
theorem sc__law_is_term : FnScope ["_law_found", "_law_todo", "_law_part"] ["_law_found"] (defScope s__law_is_term) := ⟨rfl, rfl, rfl, by decide +kernel, rfl, by decide +kernel, by decide +kernel⟩
def sumU (its : List Tm) : Nat := (its.map T.size).sum
theorem sumU_snoc (its : List Tm) (q : Tm) : sumU (its ++ [q]) = sumU its + q.size := by
  unfold sumU
  rw [List.map_append, List.sum_append]
  simp
theorem len_sumU : ∀ its : List Tm, its.length ≤ sumU its
  | [] => Nat.le_refl _
  | q :: r => by
    have := len_sumU r
    have h := q.size_pos
    show r.length + 1 ≤ q.size + sumU r
    omega
inductive Sp_lis_termI (vs : List V) (H : Hp) (Q : VK) : Prop where
  | mk (v : _) (t : _) (c1 : vs = [v]) (c2 : TermAt H v t) (c3 : t.size ≤ 100000) (c4 : ∀ H', Same H H' → Q (.bl true) H')
def sp_lis_term : Sp := fun vs H Q u3_ => Sp_lis_termI vs H Q
inductive InvIsTermI (H : Hp) (v : V) (t : Tm) (d : Addr) (m : Nat) (σ : L2.St) (H' : Hp) : Prop where
  | mk (its : _) (xs : _) (x2 : _) (c1 : σ = [some v, some (.ref d), x2]) (c2 : Same H H') (c3 : H' d = some (.lst xs)) (c4 : Paired (TermAt H') xs its) (c5 : m = sumU its) (c6 : sumU its ≤ t.size)
def InvIsTerm (H : Hp) (v : V) (t : Tm) (d : Addr) (m : Nat) (σ : L2.St) (H' : Hp) : Prop := InvIsTermI H v t d m σ H'
theorem ok__law_is_term {f : Addr} {fd : FuncData} (F : Fun K "_law_is_term" "_law_is_term" s__law_is_term f fd) (N_ : NoNames mg) (G__law_whole : GF P w K mg base CX0 1 "_law_whole" ["_law_found"] sp_whole) : FnOk P w K mg base CX0 2 f fd ["_law_found"] sp_lis_term := by
  refine F.ok sc__law_is_term (fun vs H Q E h => ?_) (fun cdv A outer s H vs Q E hr h => ?_)
  · obtain ⟨v, t, rfl, _⟩ := h
    rfl
  · obtain ⟨v, t, rfl, ht, hsz, k⟩ := h
    have hu0 := hr.units0
    refine ⟨_, (pss_cons (ps_set (i := 1) sc__law_is_term.nd rfl (Or.inl rfl) (pLst (pa_c (pv 0) pa_nil)))
      (pss_cons (ps_while PassesOwn.never (pt_cmpR (op_neNil hu0) (pv 1) (pLst pa_nil) (nomark _)) (pss_cons (ps_set (i := 2) sc__law_is_term.nd rfl (Or.inl rfl) (pPop (pv 1)))
      (pss_cons (ps_if (PW.pt (pw_or (pt_not (pt_val (pCB call_isi (by rfl) N_.isinstance boot_isinstance (pa_c (pv 2) (pa_c (pe_bltn (v := V.ty "tuple") rfl N_.tuple boot_tuple rfl) pa_nil))))) (pw_or (pt_cmpR op_lt (pCB call_len_seq (by rfl) N_.len boot_len (pa_c (pv 2) pa_nil)) pe_int (nomark _)) (pw_or1 (pt_not (pt_val (pCB call_isi (by rfl) N_.isinstance boot_isinstance (pa_c (pe_ix ix_tup (pv 2) pe_int (fun _ _ => rfl)) (pa_c (pe_bltn (v := V.ty "str") rfl N_.str boot_str rfl) pa_nil))))))))) (pss_one (ps_ret pe_bl)) pss_nil)
      (pss_one (ps_if (PW.pt (pw_and (pt_cmpR op_eq (pe_ix ix_tup (pv 2) pe_int (fun _ _ => rfl)) pe_str (nomark _)) (pw_and1 (pt_cmpR op_eq (pCB call_len_seq (by rfl) N_.len boot_len (pa_c (pv 2) pa_nil)) pe_int (nomark _))))) (pss_one (ps_expr (pApp (pv 1) (pe_ix ix_tup (pv 2) pe_int (fun _ _ => rfl))))) (pss_one (ps_if (PW.pt (pw_and (pt_cmpR op_eq (pe_ix ix_tup (pv 2) pe_int (fun _ _ => rfl)) pe_str (nomark _)) (pw_and1 (pt_cmpR op_eq (pCB call_len_seq (by rfl) N_.len boot_len (pa_c (pv 2) pa_nil)) pe_int (nomark _))))) (pss_cons (ps_expr (pApp (pv 1) (pe_ix ix_tup (pv 2) pe_int (fun _ _ => rfl))))
      (pss_one (ps_expr (pApp (pv 1) (pe_ix ix_tup (pv 2) pe_int (fun _ _ => rfl)))))) (pss_one (ps_if (PW.pt (pw_and (pt_cmpR op_eq (pe_ix ix_tup (pv 2) pe_int (fun _ _ => rfl)) pe_str (nomark _)) (pw_and1 (pt_cmpR op_eq (pCB call_len_seq (by rfl) N_.len boot_len (pa_c (pv 2) pa_nil)) pe_int (nomark _))))) (pss_one (ps_if (pt_not (pt_val (pe_gf G__law_whole (hr.mono (by decide)) rfl pass0 (pa_c (pe_ix ix_tup (pv 2) pe_int (fun _ _ => rfl)) pa_nil)))) (pss_one (ps_ret pe_bl)) pss_nil)) (pss_one (ps_if (PW.pt (pw_or (pt_cmpR op_ne (pe_ix ix_tup (pv 2) pe_int (fun _ _ => rfl)) pe_str (nomark _)) (pw_or (pt_cmpR op_ne (pCB call_len_seq (by rfl) N_.len boot_len (pa_c (pv 2) pa_nil)) pe_int (nomark _)) (pw_or1 (pt_not (pt_val (pCB call_isi (by rfl) N_.isinstance boot_isinstance (pa_c (pe_ix ix_tup (pv 2) pe_int (fun _ _ => rfl)) (pa_c (pe_bltn (v := V.ty "str") rfl N_.str boot_str rfl) pa_nil))))))))) (pss_one (ps_ret pe_bl)) pss_nil)))))))))))
      (pss_one (ps_ret pe_bl)))), ?_⟩
    show (let V1_ : TS := _; let V2_ : TS := _; let V3_ : TS := _; let V4_ : TS := tSeq _ V3_; let V5_ : TS := _; let V6_ : TS := tIfS _ V5_ _; let V7_ : TS := _; let V8_ : TS := tIfS _ V7_ _; let V9_ : TS := tIfS _ V6_ V8_; let V10_ : TS := tIfS _ V4_ V9_; let V11_ : TS := tIfS _ V2_ V10_; let V12_ : TS := _; let V13_ : TS := tSeq (tIfS _ V12_ _) V11_; let V14_ : TS := tSeq _ V13_; let V15_ : TS := tSeq (tWhile _ V14_) V1_; tSeq _ V15_ _ _ _)
    intro V1_ V2_ V3_ V4_ V5_ V6_ V7_ V8_ V9_ V10_ V11_ V12_ V13_ V14_ V15_
    refine ⟨_, rfl, small' (by simp), fun d H4 nd s4 hd4 => ?_⟩
    refine ⟨InvIsTerm H v t d, ⟨sumU [t], [t], [v], none, rfl, s4, hd4, .cons (ht.same s4) .nil, rfl, by show t.size + 0 ≤ _; omega⟩, ?_⟩
    rintro m σ H5 ⟨its, xs, x2, rfl, s5, hd5, hit, rfl, hsum⟩
    refine ⟨_, rfl, small' (by simp), fun e0 H5' ne0 s5' he0 => ⟨_, _, _, rfl, rfl, SqL.of (s5' _ _ hd5), SqL.of he0, _, rfl, ?_⟩⟩
    have hd5' := s5' _ _ hd5
    have hit := paired_imp (fun a b h => TermAt.same h s5') hit
    have s5 := s5.trans s5'
    clear hd5
    by_cases hnil : its = []
    · subst hnil
      cases paired_nil hit
      exact iteF (k H5' s5)
    · obtain ⟨its', t1, rfl⟩ := snoc_of hnil
      obtain ⟨xs', x, rfl, hit', htv⟩ := paired_snoc_inv hit
      rw [show (if true = true then !(xs' ++ [x]).isEmpty else (xs' ++ [x]).isEmpty) = true by simp]
      refine iteT ⟨fun σ' H' => ∃ m', m' < sumU (its' ++ [t1]) ∧ InvIsTerm H v t d m' σ' H', fun _ _ h => h, ?_⟩
      refine ⟨_, rfl, Or.inl ⟨rfl, _, SqL.of hd5'⟩, d, xs', x, rfl, rfl, hd5', fun H6 k6 hd6 => ?_⟩
      have tu6 := keep1_tups k6 hd5'
      have htv6 := htv.mono tu6
      have it6 := terms_kp hit' k6 hd5'
      have s6 : Same H H6 := same_keep s5 k6 fun x hx => by rw [List.mem_singleton.mp hx]; exact nd
      rw [sumU_snoc] at hsum
      rw [sumU_snoc]
      have hxl : xs'.length ≤ t.size := by
        rw [Paired.length it6]
        have := len_sumU its'
        omega
      cases htv6 with
      | name h =>
        refine ⟨_, rfl, _, _, _, _, rfl, .tup h, kit_tt K, _, rfl, iteF ⟨_, rfl, _, _, rfl, Or.inr (SqT.of h), _, _, rfl, rfl, _, rfl, ifF (show ¬ (2 : Int) < 2 by decide) ⟨_, rfl, _, _, _, _, rfl, rfl, SqT.of h, at0, _, _, _, _, rfl, .str _, kit_ss K, _, rfl, iteF ?_⟩⟩⟩
        refine ⟨_, rfl, _, _, _, _, rfl, rfl, SqT.of h, at0, rfl, _, rfl, ifF n_nf (iteF ⟨_, rfl, _, _, _, _, rfl, rfl, SqT.of h, at0, rfl, _, rfl, ifF n_nc (iteF ⟨_, rfl, _, _, _, _, rfl, rfl, SqT.of h, at0, rfl, _, rfl, ifF n_np (iteF ?_)⟩)⟩)⟩
        refine ⟨_, rfl, _, _, _, _, rfl, rfl, SqT.of h, at0, rfl, _, rfl, ifNF rfl ⟨_, rfl, _, _, rfl, Or.inr (SqT.of h), rfl, _, rfl, ifNF rfl ⟨_, rfl, _, _, _, _, rfl, rfl, SqT.of h, at1, _, _, _, _, rfl, .str _, kit_ss K, _, rfl, iteF ?_⟩⟩⟩
        exact ⟨_, by show sumU its' < sumU its' + 1; omega, its', xs', _, rfl, s6, hd6, it6, rfl, by omega⟩
      | @place a1 n h =>
        refine ⟨_, rfl, _, _, _, _, rfl, .tup h, kit_tt K, _, rfl, iteF ⟨_, rfl, _, _, rfl, Or.inr (SqT.of h), _, _, rfl, rfl, _, rfl, ifF (show ¬ (2 : Int) < 2 by decide) ⟨_, rfl, _, _, _, _, rfl, rfl, SqT.of h, at0, _, _, _, _, rfl, .str _, kit_ss K, _, rfl, iteF ?_⟩⟩⟩
        refine ⟨_, rfl, _, _, _, _, rfl, rfl, SqT.of h, at0, rfl, _, rfl, ifF n_pf (iteF ⟨_, rfl, _, _, _, _, rfl, rfl, SqT.of h, at0, rfl, _, rfl, ifF n_pc (iteF ⟨_, rfl, _, _, _, _, rfl, rfl, SqT.of h, at0, rfl, _, rfl, ifT rfl ⟨_, rfl, _, _, rfl, Or.inr (SqT.of h), rfl, _, rfl, ifT rfl ?_⟩⟩)⟩)⟩
        refine ⟨_, rfl, _, _, _, _, rfl, rfl, SqT.of h, at1, n, rfl, _, rfl, iteF ?_⟩
        exact ⟨_, by show sumU its' < sumU its' + 1; omega, its', xs', _, rfl, s6, hd6, it6, rfl, by omega⟩
      | @form a1 bv b h hb =>
        have hbs : T.size (.form b : Tm) = b.size + 1 := rfl
        refine ⟨_, rfl, _, _, _, _, rfl, .tup h, kit_tt K, _, rfl, iteF ⟨_, rfl, _, _, rfl, Or.inr (SqT.of h), _, _, rfl, rfl, _, rfl, ifF (show ¬ (2 : Int) < 2 by decide) ⟨_, rfl, _, _, _, _, rfl, rfl, SqT.of h, at0, _, _, _, _, rfl, .str _, kit_ss K, _, rfl, iteF ?_⟩⟩⟩
        refine ⟨_, rfl, _, _, _, _, rfl, rfl, SqT.of h, at0, rfl, _, rfl, ifT rfl ⟨_, rfl, _, _, rfl, Or.inr (SqT.of h), rfl, _, rfl, ifT rfl ?_⟩⟩
        refine ⟨_, rfl, Or.inl ⟨rfl, _, SqL.of hd6⟩, _, rfl, _, _, _, _, rfl, rfl, SqT.of h, at1, _, _, _, rfl, rfl, hd6, small (by omega), fun H8 k8 hd8 => ?_⟩
        refine ⟨_, ?_, its' ++ [b], _, _, rfl, same_keep s6 k8 (fun x hx => by rw [List.mem_singleton.mp hx]; exact nd), hd8, paired_snoc (hb.mono (keep1_tups k8 hd6)) (terms_kp it6 k8 hd6), rfl, ?_⟩
        · rw [sumU_snoc]; show sumU its' + b.size < sumU its' + (b.size + 1); omega
        · rw [sumU_snoc]; omega
      | @call a1 xv yv x y h hx hy =>
        have hcs : T.size (.call x y : Tm) = x.size + y.size + 1 := rfl
        refine ⟨_, rfl, _, _, _, _, rfl, .tup h, kit_tt K, _, rfl, iteF ⟨_, rfl, _, _, rfl, Or.inr (SqT.of h), _, _, rfl, rfl, _, rfl, ifF (show ¬ (3 : Int) < 2 by decide) ⟨_, rfl, _, _, _, _, rfl, rfl, SqT.of h, at0, _, _, _, _, rfl, .str _, kit_ss K, _, rfl, iteF ?_⟩⟩⟩
        refine ⟨_, rfl, _, _, _, _, rfl, rfl, SqT.of h, at0, rfl, _, rfl, ifF n_cf (iteF ⟨_, rfl, _, _, _, _, rfl, rfl, SqT.of h, at0, rfl, _, rfl, ifT rfl ⟨_, rfl, _, _, rfl, Or.inr (SqT.of h), rfl, _, rfl, ifT rfl ?_⟩⟩)⟩
        refine ⟨_, rfl, Or.inl ⟨rfl, _, SqL.of hd6⟩, _, rfl, _, _, _, _, rfl, rfl, SqT.of h, at1, _, _, _, rfl, rfl, hd6, small (by omega), fun H8 k8 hd8 => ?_⟩
        have tu8 := keep1_tups k8 hd6
        have h8 := tu8 _ _ h
        refine ⟨_, rfl, Or.inl ⟨rfl, _, SqL.of hd8⟩, _, rfl, _, _, _, _, rfl, rfl, SqT.of h8, at2, _, _, _, rfl, rfl, hd8, small (by rw [List.length_append, List.length_singleton]; omega), fun H9 k9 hd9 => ?_⟩
        have tu9 := keep1_tups k9 hd8
        refine ⟨_, ?_, (its' ++ [x]) ++ [y], _, _, rfl, same_keep s6 (k8.trans k9) (fun x hx => by rw [List.mem_singleton.mp hx]; exact nd), hd9, paired_snoc ((hy.mono tu8).mono tu9) (paired_snoc ((hx.mono tu8).mono tu9) (terms_kp (terms_kp it6 k8 hd6) k9 hd8)), rfl, ?_⟩
        · rw [sumU_snoc, sumU_snoc]; show sumU its' + x.size + y.size < sumU its' + (x.size + y.size + 1); omega
        · rw [sumU_snoc, sumU_snoc]; omega
end
end NC
/-! ### named terms: walk -/
namespace NC
open PySem PySem.Spec PyProof.Rows L2
section
variable {P : Program} {w : World} {K : PySem.W.Frag} {mg : Str → Option Value} {base : Heap}
seal L2.PE L2.PA L2.PT L2.PS L2.PSs L2.PW L2.PG L2.PGs L2.PI L2.PO L2.OpR L2.UnR L2.CallR L2.TruR L2.IxR L2.SlR
abbrev s_walk : Stmt := top 1
theorem sc_walk : FnScope ["term", "around", "inward", "found", "todo", "pair", "part"] ["term", "around", "inward"] (defScope s_walk) := ⟨rfl, rfl, rfl, by decide +kernel, rfl, by decide +kernel, by decide +kernel⟩
/-- inward: one form more -/
inductive Sp_inwNI (J : Hp → Prop) (vs : List V) (H : Hp) (Q : VK) : Prop where
  | mk (a : _) (w : _) (u : _) (ws : _) (av : _) (c1 : vs = [.ref a, av]) (c2 : H a = some (.tup [.str "form", .str w, u])) (c3 : ArAt H ws av) (c4 : J H) (c5 : ∀ av' H', Same H H' → ArAt H' (w :: ws) av' → Q av' H')
def sp_inwN (J : Hp → Prop) : Sp := fun vs H Q u3_ => Sp_inwNI J vs H Q
inductive Sp_walkNI (kf : Nat) (P : Program) (w : World) (K : PySem.W.Frag) (mg : Str → Option Value) (base : Heap) (vs : List V) (H : Hp) (Q : VK) : Prop where
  | mk (v : _) (t : _) (ws0 : _) (av0 : _) (f : _) (ps : _) (J : _) (c1 : vs = [v, av0, .ref f]) (c2 : NamedAt H v t) (c3 : ArAt H ws0 av0) (c4 : t.size ≤ 100000) (c5 : FV P w K mg base CX0 kf f ps (sp_inwN J)) (c6 : (∀ H', Same H H' → J H')) (c7 : ∀ l rs H', Same H H' → H l = none → H' l = some (.lst rs) → Paired (NPairAt H') rs (t.parts ws0) → Q (.ref l) H')
def sp_walkN (kf : Nat) (P : Program) (w : World) (K : PySem.W.Frag) (mg : Str → Option Value) (base : Heap) : Sp := fun vs H Q u3_ => Sp_walkNI kf P w K mg base vs H Q
inductive InvWalkNI (H : Hp) (v : V) (t : NT) (ws0 : List Str) (av0 u : V) (f d : Addr) (m : Nat) (σ : L2.St) (H' : Hp) : Prop where
  | mk (its : _) (xs : _) (fs : _) (ps : _) (x3 : _) (x4 : _) (c1 : σ = [some v, some av0, some u, some (.ref f), some (.ref d), x3, x4]) (c2 : Same H H') (c3 : H' f = some (.lst fs)) (c4 : H' d = some (.lst xs)) (c5 : Paired (NPairAt H') xs its) (c6 : Paired (NPairAt H') fs ps) (c7 : ps ++ pendN its = t.parts ws0) (c8 : m = sizesQ its) (c9 : sizesQ its ≤ t.size)
def InvWalkN (H : Hp) (v : V) (t : NT) (ws0 : List Str) (av0 u : V) (f d : Addr) (m : Nat) (σ : L2.St) (H' : Hp) : Prop := InvWalkNI H v t ws0 av0 u f d m σ H'
theorem atm1N {α : Type} {a b c : α} : atI [a, b, c] (-1) = some c := rfl
theorem ok_walkN {f : Addr} {fd : FuncData} {kf : Nat} (F : Fun K "walk" "walk" s_walk f fd) : FnOk P w K mg base CX0 (kf + 1) f fd ["term", "around", "inward"] (sp_walkN kf P w K mg base) := by
  refine F.ok sc_walk (fun vs H Q E h => ?_) (fun cdv A outer s H vs Q E hr h => ?_)
  · obtain ⟨v, t, ws0, av0, g, ps, J, rfl, _⟩ := h
    rfl
  · obtain ⟨v, t, ws0, av0, g, gps, J, rfl, ht, har, hsz, hfv, hJ, k⟩ := h
    have hrF : Room kf (A.deeper (envOfC "walk" (defScope s_walk) s.heap.objs.size _ cdv)) := hr
    refine ⟨_, (pss_cons (ps_set (i := 3) sc_walk.nd rfl (Or.inl rfl) (pLst pa_nil))
      (pss_cons (ps_set (i := 4) sc_walk.nd rfl (Or.inl rfl) (pLst (pa_c (pTup (pa_c (pv 0) (pa_c (pv 1) pa_nil))) pa_nil)))
      (pss_cons (ps_while PassesOwn.never (pt_truth (pv 4) (fun _ => rfl)) (pss_cons (ps_set (i := 5) sc_walk.nd rfl (Or.inl rfl) (pPop (pv 4)))
      (pss_cons (ps_expr (pApp (pv 3) (pv 5)))
      (pss_cons (ps_set (i := 6) sc_walk.nd rfl (Or.inl rfl) (pe_ix ix_tup (pv 5) pe_int (fun _ _ => rfl)))
      (pss_one (ps_if (pt_cmpR op_eq (pe_ix ix_tup (pv 6) pe_int (fun _ _ => rfl)) pe_str (nomark _)) (pss_one (ps_expr (pApp (pv 4) (pTup (pa_c (pe_ix ix_tup (pv 6) (pe_un un_neg pe_int) (fun _ _ => rfl)) (pa_c (pe_fvE 2 hrF pass0 (pa_c (pv 6) (pa_c (pe_ix ix_tup (pv 5) pe_int (fun _ _ => rfl)) pa_nil))) pa_nil)))))) (pss_one (ps_if (pt_cmpR op_eq (pe_ix ix_tup (pv 6) pe_int (fun _ _ => rfl)) pe_str (nomark _)) (pss_cons (ps_expr (pApp (pv 4) (pTup (pa_c (pe_ix ix_tup (pv 6) pe_int (fun _ _ => rfl)) (pa_c (pe_ix ix_tup (pv 5) pe_int (fun _ _ => rfl)) pa_nil)))))
      (pss_one (ps_expr (pApp (pv 4) (pTup (pa_c (pe_ix ix_tup (pv 6) pe_int (fun _ _ => rfl)) (pa_c (pe_ix ix_tup (pv 5) pe_int (fun _ _ => rfl)) pa_nil))))))) pss_nil))))))))
      (pss_one (ps_ret (pv 3)))))), ?_⟩
    show (let V1_ : TS := _; let V2_ : TS := _; let V3_ : TS := _; let V4_ : TS := tSeq _ V3_; let V5_ : TS := tIfS _ V4_ _; let V6_ : TS := tIfS _ V2_ V5_; let V7_ : TS := tSeq _ V6_; let V8_ : TS := tSeq _ V7_; let V9_ : TS := tSeq _ V8_; let V10_ : TS := tSeq (tWhile _ V9_) V1_; let V11_ : TS := tSeq _ V10_; tSeq _ V11_ _ _ _)
    intro V1_ V2_ V3_ V4_ V5_ V6_ V7_ V8_ V9_ V10_ V11_
    refine ⟨small' (by simp), fun f H1 nf s1 hf1 => ⟨_, rfl, _, rfl, small' (by simp), fun q H3 nq s3 hq3 => ⟨small' (by simp), fun d H4 nd s4 hd4 => ?_⟩⟩⟩
    have s04 : Same H H4 := (s1.trans s3).trans s4
    have hf4 : H4 f = some (.lst []) := s4 _ _ (s3 _ _ hf1)
    have nfd : f ≠ d := ne_of_none (s3 _ _ hf1) nd
    have n_f : H f = none := nf
    have n_d : H d = none := (s1.trans s3).free nd
    have nL : ∀ x ∈ [f, d], H x = none := fun x hx => by
      rcases List.mem_cons.mp hx with e | hx
      · rw [e]; exact n_f
      · rw [List.mem_singleton.mp hx]; exact n_d
    refine ⟨InvWalkN H v t ws0 av0 (.ref g) f d, ⟨sizesQ [(t, ws0)], ?_⟩, ?_⟩
    · refine ⟨[(t, ws0)], [.ref q], [], [], none, none, rfl, s04, hf4, hd4, .cons ⟨q, v, av0, rfl, s4 _ _ hq3, ht.same s04, har.mono (.of_same s04)⟩ .nil, .nil, ?_, rfl, ?_⟩
      · show [] ++ (t.parts ws0 ++ []) = _
        rw [List.append_nil, List.nil_append]
      · show t.size + 0 ≤ t.size
        omega
    · rintro m σ H5 ⟨its, xs, fs, ps, x3, x4, rfl, s5, hf5, hd5, hit, hps, heq, rfl, hsum⟩
      by_cases hnil : its = []
      · subst hnil
        cases paired_nil hit
        refine ⟨_, rfl, false, Or.inl ⟨_, SqL.of hd5, rfl⟩, iteF ⟨_, rfl, ?_⟩⟩
        have e : ps = t.parts ws0 := by rw [← heq]; unfold pendN; simp
        subst e
        exact k f fs H5 s5 n_f hf5 hps
      · obtain ⟨its', ⟨t1, k1⟩, rfl⟩ := snoc_of hnil
        obtain ⟨xs', x, rfl, hit', a, tv, av, rfl, ha, htv, hav⟩ := paired_snoc_inv hit
        have htv : NamedAt H5 tv t1 := htv
        have hav : ArAt H5 k1 av := hav
        refine ⟨_, rfl, true, Or.inl ⟨_, SqL.of hd5, by simp⟩, iteT ⟨fun σ' H' => ∃ m', m' < sizesQ (its' ++ [(t1, k1)]) ∧ InvWalkN H v t ws0 av0 (.ref g) f d m' σ' H', fun _ _ h => h, ?_⟩⟩
        refine ⟨_, rfl, Or.inl ⟨rfl, _, SqL.of hd5⟩, d, xs', .ref a, rfl, rfl, hd5, fun H6 k6 hd6 => ?_⟩
        have hL := lists2 hf5 hd5
        have K6 : Keep [f, d] H5 H6 := k6.sub (by simp)
        have tu6 := K6.tups hL
        have ha6 := tu6 _ _ ha
        have hf6 : H6 f = some (.lst fs) := k6.at hf5 nfd
        have s6 : Same H H6 := same_keep s5 K6 nL
        have it6 := paired_imp (fun a b h => NPairAt.mono h tu6) hit'
        have ps6 := paired_imp (fun a b h => NPairAt.mono h tu6) hps
        have hL6 := lists2 hf6 hd6
        rw [pendN_snoc] at heq
        rw [sizesQ_snoc] at hsum
        rw [sizesQ_snoc]
        have hxl : xs'.length ≤ t.size := by
          rw [Paired.length it6]
          have := len_sizesQ its'
          have h1 : sizesQ its' + t1.size ≤ t.size := hsum
          omega
        have hfl : fs.length ≤ t.size := by
          rw [Paired.length ps6]
          have h1 := congrArg List.length heq
          rw [List.length_append, nparts_len] at h1
          omega
        have hs1 : sizesQ its' + t1.size ≤ t.size := hsum
        refine ⟨_, rfl, Or.inl ⟨rfl, _, SqL.of hf6⟩, _, rfl, _, _, _, rfl, rfl, hf6, small (by omega), fun H7 k7 hf7 => ?_⟩
        have K7 : Keep [f, d] H6 H7 := k7.sub (by simp)
        have hd7 : H7 d = some (.lst xs') := k7.at hd6 nfd.symm
        have tu7 := K7.tups hL6
        have ha7 := tu7 _ _ ha6
        have htv7 := (htv.mono tu6).mono tu7
        have hav7 := (hav.mono tu6).mono tu7
        have s7 : Same H H7 := same_keep s6 K7 nL
        have it7 := paired_imp (fun a b h => NPairAt.mono h tu7) it6
        have ps7 := paired_snoc (x := V.ref a) (y := (t1, k1)) ⟨a, tv, av, rfl, ha7, htv7, hav7⟩ (paired_imp (fun a b h => NPairAt.mono h tu7) ps6)
        have hL7 := lists2 hf7 hd7
        refine ⟨_, rfl, _, _, _, _, rfl, rfl, SqT.of ha7, at0, ?_⟩
        have heq : ps ++ (t1.parts k1 ++ pendN its') = t.parts ws0 := heq
        cases htv7 with
        | name h =>
          refine ⟨_, rfl, _, _, _, _, rfl, rfl, SqT.of h, at0, rfl, _, rfl, ifF n_nf ⟨_, rfl, _, _, _, _, rfl, rfl, SqT.of h, at0, rfl, _, rfl, ifF n_nc ?_⟩⟩
          refine ⟨_, by show sizesQ its' < sizesQ its' + 1; omega, its', xs', _, _, _, _, rfl, s7, hf7, hd7, it7, ps7, ?_, rfl, by omega⟩
          rw [List.append_assoc]; exact heq
        | @form a1 fw bv b h hb =>
          have hbs : NT.size (.form fw b) = b.size + 1 := rfl
          refine ⟨_, rfl, _, _, _, _, rfl, rfl, SqT.of h, at0, rfl, _, rfl, ifT rfl ?_⟩
          refine ⟨_, rfl, Or.inl ⟨rfl, _, SqL.of hd7⟩, _, rfl, _, rfl, _, _, _, _, rfl, rfl, SqT.of h, atm1N, g, _, _, rfl, hfv, _, rfl, _, rfl, _, _, _, _, rfl, rfl, SqT.of ha7, at1, _, _, _, _, _, rfl, h, hav7, hJ _ s7, fun av' H8 s8 har8 => ⟨small' (by show 2 ≤ 1000000; decide), fun b9 H9 n9 s9' h9 => ⟨_, _, _, rfl, rfl, s9' _ _ (s8 _ _ hd7), small (by omega), fun H10 k10 hd10 => ?_⟩⟩⟩
          have s9 := s8.trans s9'
          have K10 : Keep [f, d] H7 H10 := (Keep.of_same s9).trans (k10.sub (by simp))
          have tu10 := K10.tups hL7
          refine ⟨_, ?_, its' ++ [(b, fw :: k1)], _, _, _, _, _, rfl, same_keep s7 K10 nL, k10.at (s9 _ _ hf7) nfd, hd10, paired_snoc ⟨b9, bv, av', rfl, k10.tup1 (s9 _ _ hd7) _ _ h9, hb.mono tu10, (har8.mono (.of_same s9')).mono (k10.tup1 (s9 _ _ hd7))⟩ (paired_imp (fun a b h => NPairAt.mono h tu10) it7), paired_imp (fun a b h => NPairAt.mono h tu10) ps7, ?_, rfl, ?_⟩
          · rw [sizesQ_snoc]; show sizesQ its' + b.size < sizesQ its' + (b.size + 1); omega
          · rw [pendN_snoc, List.append_assoc]; exact heq
          · rw [sizesQ_snoc]; show sizesQ its' + b.size ≤ t.size; omega
        | @call a1 xv yv x y h hx hy =>
          have hcs : NT.size (.call x y) = x.size + y.size + 1 := rfl
          refine ⟨_, rfl, _, _, _, _, rfl, rfl, SqT.of h, at0, rfl, _, rfl, ifF n_cf ⟨_, rfl, _, _, _, _, rfl, rfl, SqT.of h, at0, rfl, _, rfl, ifT rfl ?_⟩⟩
          refine ⟨_, rfl, Or.inl ⟨rfl, _, SqL.of hd7⟩, _, rfl, _, _, _, _, rfl, rfl, SqT.of h, at2, _, rfl, _, _, _, _, rfl, rfl, SqT.of ha7, at1, small' (by show 2 ≤ 1000000; decide), fun b9 H9 n9 s9 h9 => ⟨_, _, _, rfl, rfl, s9 _ _ hd7, small (by omega), fun H10 k10 hd10 => ?_⟩⟩
          have K10 : Keep [f, d] H7 H10 := (Keep.of_same s9).trans (k10.sub (by simp))
          have tu10 := K10.tups hL7
          have hf10 := k10.at (s9 _ _ hf7) nfd
          have hL10 := lists2 hf10 hd10
          have it10 := paired_snoc (x := V.ref b9) (y := (y, k1)) ⟨b9, yv, av, rfl, k10.tup1 (s9 _ _ hd7) _ _ h9, hy.mono tu10, hav7.mono tu10⟩ (paired_imp (fun a b h => NPairAt.mono h tu10) it7)
          refine ⟨_, rfl, Or.inl ⟨rfl, _, SqL.of hd10⟩, _, rfl, _, _, _, _, rfl, rfl, SqT.of (tu10 _ _ h), at1, _, rfl, _, _, _, _, rfl, rfl, SqT.of (tu10 _ _ ha7), at1, small' (by show 2 ≤ 1000000; decide), fun c9 H11 m9 s11 g9 => ⟨_, _, _, rfl, rfl, s11 _ _ hd10, small (by rw [List.length_append, List.length_singleton]; omega), fun H12 k12 hd12 => ?_⟩⟩
          have K12 : Keep [f, d] H10 H12 := (Keep.of_same s11).trans (k12.sub (by simp))
          have tu12 := K12.tups hL10
          refine ⟨_, ?_, (its' ++ [(y, k1)]) ++ [(x, k1)], _, _, _, _, _, rfl, same_keep s7 (K10.trans K12) nL, k12.at (s11 _ _ hf10) nfd, hd12, paired_snoc ⟨c9, xv, av, rfl, k12.tup1 (s11 _ _ hd10) _ _ g9, (hx.mono tu10).mono tu12, (hav7.mono tu10).mono tu12⟩ (paired_imp (fun a b h => NPairAt.mono h tu12) it10), paired_imp (fun a b h => (NPairAt.mono h tu10).mono tu12) ps7, ?_, rfl, ?_⟩
          · rw [sizesQ_snoc, sizesQ_snoc]; show sizesQ its' + y.size + x.size < sizesQ its' + (x.size + y.size + 1); omega
          · rw [pendN_snoc, pendN_snoc, List.append_assoc]
            show ps ++ ((.call x y, k1) :: (x.parts k1 ++ (y.parts k1 ++ pendN its'))) = _
            rw [← heq]
            show _ = ps ++ ((.call x y, k1) :: (x.parts k1 ++ y.parts k1) ++ pendN its')
            simp
          · rw [sizesQ_snoc, sizesQ_snoc]; show sizesQ its' + y.size + x.size ≤ _; omega
end
end NC
/-! ### named terms: built, told by number -/
namespace NC
open PySem PySem.Spec PyProof.Rows L2
inductive Sp_leafNI (g : Str → List Str → Tm) (vs : List V) (H : Hp) (Q : VK) : Prop where
  | mk (v : _) (w : _) (av : _) (ws : _) (c1 : vs = [v, av]) (c2 : NamedAt H v (.name w)) (c3 : ArAt H ws av) (c4 : ws.length ≤ 100000) (c5 : ∀ v' H', Same H H' → TermAt H' v' (g w ws) → Q v' H')
def sp_leafN (g : Str → List Str → Tm) : Sp := fun vs H Q u3_ => Sp_leafNI g vs H Q
inductive Sp_overNI (Jc : Hp → Prop) (vs : List V) (H : Hp) (Q : VK) : Prop where
  | mk (v : _) (av : _) (b : _) (c1 : vs = [v, av]) (c2 : TermAt H v b) (c3 : Jc H) (c4 : ∀ v' H', Same H H' → TermAt H' v' (.form b) → Q v' H')
def sp_overN (Jc : Hp → Prop) : Sp := fun vs H Q u3_ => Sp_overNI Jc vs H Q
inductive Sp_builtNI (kf : Nat) (P : Program) (w : World) (K : PySem.W.Frag) (mg : Str → Option Value) (base : Heap) (vs : List V) (H : Hp) (Q : VK) : Prop where
  | mk (l : _) (rs : _) (t : NT) (ws0 : _) (f1 : _) (f2 : _) (ps1 : _) (ps2 : _) (Jc : _) (g : _) (c1 : vs = [.ref l, .ref f1, .ref f2]) (c2 : H l = some (.lst rs)) (c3 : Paired (NPairAt H) rs (t.parts ws0)) (c4 : t.size + ws0.length ≤ 100000) (c5 : FV P w K mg base CX0 kf f1 ps1 (sp_leafN g)) (c6 : FV P w K mg base CX0 kf f2 ps2 (sp_overN Jc)) (c7 : (∀ H', Same H H' → Jc H')) (c8 : ∀ v' H', Same H H' → TermAt H' v' (t.num g ws0) → Q v' H')
def sp_builtN (kf : Nat) (P : Program) (w : World) (K : PySem.W.Frag) (mg : Str → Option Value) (base : Heap) : Sp := fun vs H Q u3_ => Sp_builtNI kf P w K mg base vs H Q
section
variable {P : Program} {w : World} {K : PySem.W.Frag} {mg : Str → Option Value} {base : Heap}
seal L2.PE L2.PA L2.PT L2.PS L2.PSs L2.PW L2.PG L2.PGs L2.PI L2.PO L2.OpR L2.UnR L2.CallR L2.TruR L2.IxR L2.SlR
abbrev s_built : Stmt := top 2
theorem sc_built : FnScope ["found", "leaf", "over", "ready", "part", "around", "one"] ["found", "leaf", "over"] (defScope s_built) := ⟨rfl, rfl, rfl, by decide +kernel, rfl, by decide +kernel, by decide +kernel⟩
abbrev s_told_by_number : Stmt := top 5
theorem sc_told_by_number : FnScope ["part", "around", "number"] ["part", "around"] (defScope s_told_by_number) := ⟨rfl, rfl, rfl, by decide +kernel, rfl, by decide +kernel, by decide +kernel⟩
inductive InvRebNI (g : Str → List Str → Tm) (H : Hp) (u1 u2 : V) (t : NT) (ws0 : List Str) (p l : Addr) (rs : List V) (i : Nat) (σ : L2.St) (H' : Hp) : Prop where
  | mk (vs : _) (S : _) (x3 : _) (x4 : _) (x5 : _) (c1 : σ = [some (.ref l), some u1, some u2, some (.ref p), x3, x4, x5]) (c2 : Same H H') (c3 : PileAt H' p vs S) (c4 : S.length ≤ i) (c5 : runN g ((t.parts ws0).reverse.drop i) S = some [t.num g ws0])
def InvRebN (g : Str → List Str → Tm) (H : Hp) (u1 u2 : V) (t : NT) (ws0 : List Str) (p l : Addr) (rs : List V) (i : Nat) (σ : L2.St) (H' : Hp) : Prop := InvRebNI g H u1 u2 t ws0 p l rs i σ H'
theorem ok_builtN {f : Addr} {fd : FuncData} {kf : Nat} (F : Fun K "built" "built" s_built f fd) (N_ : NoNames mg) : FnOk P w K mg base CX0 (kf + 1) f fd ["found", "leaf", "over"] (sp_builtN kf P w K mg base) := by
  refine F.ok sc_built (fun vs H Q E h => ?_) (fun cdv A outer s H vs Q E hr h => ?_)
  · obtain ⟨l, rs, t, ws0, f1, f2, ps1, ps2, Jc, g, rfl, _⟩ := h
    rfl
  · obtain ⟨l, rs, t, ws0, f1, f2, ps1, ps2, Jc, g, rfl, hl0, hr0, hsz, hfv1, hfv2, hJc, k⟩ := h
    have hrF : Room kf (A.deeper (envOfC "built" (defScope s_built) s.heap.objs.size _ cdv)) := hr
    refine ⟨_, (pss_cons (ps_set (i := 3) sc_built.nd rfl (Or.inl rfl) (pLst pa_nil))
      (pss_cons (ps_for PassesOwn.never rfl (pi_rev rfl N_.reversed (pv 0)) (pg_tup rfl (pgs_cons (pg_name (i := 4) sc_built.nd rfl (Or.inl rfl)) (pgs_cons (pg_name (i := 5) sc_built.nd rfl (Or.inl rfl)) pgs_nil))) (pss_one (ps_if (pt_cmpR op_eq (pe_ix ix_tup (pv 4) pe_int (fun _ _ => rfl)) pe_str (nomark _)) (pss_one (ps_expr (pApp (pv 3) (pe_fvE 2 hrF pass0 (pa_c (pPop (pv 3)) (pa_c (pv 5) pa_nil)))))) (pss_one (ps_if (pt_cmpR op_eq (pe_ix ix_tup (pv 4) pe_int (fun _ _ => rfl)) pe_str (nomark _)) (pss_cons (ps_set (i := 6) sc_built.nd rfl (Or.inl rfl) (pPop (pv 3)))
      (pss_one (ps_expr (pApp (pv 3) (pTup (pa_c pe_str (pa_c (pv 6) (pa_c (pPop (pv 3)) pa_nil)))))))) (pss_one (ps_expr (pApp (pv 3) (pe_fvE 1 hrF pass0 (pa_c (pv 4) (pa_c (pv 5) pa_nil)))))))))))
      (pss_one (ps_ret (pPop (pv 3)))))), ?_⟩
    show (let V1_ : TS := _; let V2_ : TS := _; let V3_ : TS := _; let V4_ : TS := tSeq _ V3_; let V5_ : TS := _; let V6_ : TS := tIfS _ V4_ V5_; let V7_ : TS := tIfS _ V2_ V6_; let V8_ : TS := tSeq (tFor _ _ V7_) V1_; tSeq _ V8_ _ _ _)
    intro V1_ V2_ V3_ V4_ V5_ V6_ V7_ V8_
    refine ⟨small' (by simp), fun p H1 np s1 hp1 => ?_⟩
    have hlen : rs.length = t.size := by rw [Paired.length hr0, nparts_len]
    refine ⟨_, rfl, l, rs, rfl, SqL.of (s1 _ _ hl0), for_rev (K := K) (a := l) (xs := rs) (InvRebN g H (.ref f1) (.ref f2) t ws0 p l rs) ?_ ?_ ?_ ?_⟩
    · exact ⟨[], [], none, none, none, rfl, s1, ⟨hp1, .nil⟩, Nat.le_refl _, runN_all t ws0⟩
    · rintro i σ H' _ ⟨_, _, _, _, _, _, h, _⟩
      exact SqL.of (h _ _ hl0)
    · rintro i x σ H3 hi ⟨vs, S, x3, x4, x5, rfl, s3, hp3, hS, hrun⟩
      obtain ⟨⟨t1, k1⟩, hi2, a, tv, av, rfl, ha, htv, hav⟩ := paired_get (paired_rev (paired_imp (fun _ _ z => NPairAt.mono z (.of_same s3)) hr0)) hi
      have htv : NamedAt H3 tv t1 := htv
      have hav : ArAt H3 k1 av := hav
      have hlt : i < t.size := by
        have := (List.getElem?_eq_some_iff.mp hi).1
        rw [List.length_reverse] at this
        omega
      have hd : (t.parts ws0).reverse.drop i = (t1, k1) :: (t.parts ws0).reverse.drop (i + 1) := by
        rw [List.drop_eq_getElem_cons (List.getElem?_eq_some_iff.mp hi2).1, (List.getElem?_eq_some_iff.mp hi2).2]
      rw [hd] at hrun
      refine ⟨a, _, rfl, SqT.of ha, rfl, _, _, rfl, _, _, rfl, rfl, ?_⟩
      have fin : ∀ {H7 : Hp} {vs7 : List V} {S7 : List Tm} {u : V} {y : Tm} {x5 : Option V}, Same H H7 → H7 p = some (.lst vs7) → Paired (TermAt H7) vs7 S7.reverse → TermAt H7 u y → S7.length ≤ i → runN g ((t.parts ws0).reverse.drop (i + 1)) (y :: S7) = some [t.num g ws0] →
          ∀ H8, Keep [p] H7 H8 → H8 p = some (.lst (vs7 ++ [u])) → InvRebN g H (.ref f1) (.ref f2) t ws0 p l rs (i + 1) [some (.ref l), some (.ref f1), some (.ref f2), some (.ref p), some tv, some av, x5] H8 := by
        intro H7 vs7 S7 u y x5 s7 hp7 q7 hu hS7 hrun7 H8 k8 hp8
        have tu8 := keep1_tups k8 hp7
        refine ⟨_, y :: S7, _, _, _, rfl, same_keep1 s7 k8 np, ⟨hp8, ?_⟩, by rw [List.length_cons]; omega, hrun7⟩
        rw [List.reverse_cons]
        exact paired_snoc (hu.mono tu8) (terms_kp q7 k8 hp7)
      have hk1b : k1.length ≤ 100000 := by
        have := nparts_le t ws0 _ (List.mem_reverse.mp (List.mem_of_getElem? hi2))
        have e : (t1, k1).2 = k1 := rfl
        rw [e] at this
        omega
      cases htv with
      | @name a1 w1 h =>
        refine ⟨_, rfl, _, _, _, _, rfl, rfl, SqT.of h, at0, rfl, _, rfl, ifF n_nf ⟨_, rfl, _, _, _, _, rfl, rfl, SqT.of h, at0, rfl, _, rfl, ifF n_nc ?_⟩⟩
        refine ⟨_, rfl, Or.inl ⟨rfl, _, SqL.of hp3.1⟩, f1, _, _, rfl, hfv1, _, rfl, _, rfl, _, w1, av, k1, rfl, .name h, hav, hk1b, fun v' H4 s4 hv' => ?_⟩
        have hp4 := s4 _ _ hp3.1
        refine ⟨_, _, _, rfl, rfl, hp4, small (by have := hp3.len; omega), fun H8 k8 hp8 => ?_⟩
        exact fin (s3.trans s4) hp4 (paired_imp (fun _ _ z => z.same s4) hp3.2) hv' hS hrun H8 k8 hp8
      | @form a1 w1 bv b h hb =>
        obtain ⟨x, S', rfl, hrun⟩ := runN_form hrun
        obtain ⟨vs', u, rfl, hu, hv'⟩ := hp3.pop
        have ln := hp3.len
        rw [List.length_append, List.length_singleton, List.length_cons] at ln
        rw [List.length_cons] at hS
        refine ⟨_, rfl, _, _, _, _, rfl, rfl, SqT.of h, at0, rfl, _, rfl, ifT rfl ?_⟩
        refine ⟨_, rfl, Or.inl ⟨rfl, _, SqL.of hp3.1⟩, f2, _, _, rfl, hfv2, _, rfl, Or.inl ⟨rfl, _, SqL.of hp3.1⟩, p, vs', u, rfl, rfl, hp3.1, fun H6 k6 hp6 => ⟨_, rfl, u, av, x, rfl, hu.mono (keep1_tups k6 hp3.1), hJc _ (same_keep1 s3 k6 np), fun v' H9 s9 h9 => ?_⟩⟩
        have hp9 := s9 _ _ hp6
        have k39 := k6.trans (Keep.of_same s9)
        refine ⟨_, _, _, rfl, rfl, hp9, small (by omega), fun H8 k8 hp8 => ?_⟩
        exact fin (same_keep1 s3 k39 np) hp9 (terms_kp hv' k39 hp3.1) h9 (by omega) hrun H8 k8 hp8
      | @call a1 xv yv x y h hx hy =>
        obtain ⟨x, y, S', rfl, hrun⟩ := runN_call hrun
        obtain ⟨vs1, u, rfl, hu, hv1⟩ := hp3.pop
        have ln := hp3.len
        refine ⟨_, rfl, _, _, _, _, rfl, rfl, SqT.of h, at0, rfl, _, rfl, ifF n_cf ⟨_, rfl, _, _, _, _, rfl, rfl, SqT.of h, at0, rfl, _, rfl, ifT rfl ?_⟩⟩
        refine ⟨_, rfl, Or.inl ⟨rfl, _, SqL.of hp3.1⟩, p, vs1, u, rfl, rfl, hp3.1, fun H6 k6 hp6 => ?_⟩
        have P6 : PileAt H6 p vs1 (y :: S') := ⟨hp6, terms_kp hv1 k6 hp3.1⟩
        obtain ⟨vs', z, rfl, hz, hv'⟩ := P6.pop
        rw [List.length_append, List.length_append, List.length_singleton, List.length_singleton, List.length_cons, List.length_cons] at ln
        rw [List.length_cons, List.length_cons] at hS
        refine ⟨_, rfl, Or.inl ⟨rfl, _, SqL.of hp6⟩, _, rfl, _, rfl, Or.inl ⟨rfl, _, SqL.of hp6⟩, p, vs', z, rfl, rfl, hp6, fun H7 k7 hp7 => ⟨small' (by show 3 ≤ 1000000; decide), fun b9 H9 n9 s9 h9 => ?_⟩⟩
        have hp9 := s9 _ _ hp7
        have k69 := k7.trans (Keep.of_same s9)
        have k39 := k6.trans k69
        have tu39 := keep1_tups k39 hp3.1
        refine ⟨_, _, _, rfl, rfl, hp9, small (by omega), fun H8 k8 hp8 => ?_⟩
        exact fin (same_keep1 s3 k39 np) hp9 (terms_kp hv' k69 hp6) (.call h9 (hu.mono tu39) (hz.mono (keep1_tups k69 hp6))) (by omega) hrun H8 k8 hp8
    · rintro σ H3 ⟨vs, S, x3, x4, x5, rfl, s3, hp3, hS, hrun⟩
      rw [List.drop_eq_nil_of_le (by rw [List.length_reverse, nparts_len, hlen]; exact Nat.le_refl _)] at hrun
      cases (Option.some.inj hrun)
      obtain ⟨vs', u, rfl, hu, hv'⟩ := hp3.pop
      cases paired_nil hv'
      refine ⟨_, rfl, Or.inl ⟨rfl, _, SqL.of hp3.1⟩, p, [], u, rfl, rfl, hp3.1, fun H6 k6 hp6 => ?_⟩
      exact k u H6 (same_keep1 s3 k6 np) (hu.mono (keep1_tups k6 hp3.1))
theorem ok_told {f : Addr} {fd : FuncData} (F : Fun K "told_by_number" "told_by_number" s_told_by_number f fd) : FnOk P w K mg base CX0 1 f fd ["part", "around"] (sp_leafN byNum) := by
  refine F.ok sc_told_by_number (fun vs H Q E h => ?_) (fun cdv A outer s H vs Q E hr h => ?_)
  · obtain ⟨v, w, av, ws, rfl, _⟩ := h
    rfl
  · obtain ⟨v, w, av, ws, rfl, hv, hav, hlen, k⟩ := h
    cases hv with
    | @name a1 w1 h1 =>
    refine ⟨_, (pss_cons (ps_set (i := 2) sc_told_by_number.nd rfl (Or.inl rfl) pe_int)
      (pss_cons (ps_while PassesOwn.never (pt_cmpR op_notN (pv 1) pe_non (nomark _)) (pss_cons (ps_if (pt_cmpR op_eq (pe_ix ix_tup (pv 1) pe_int (fun _ _ => rfl)) (pe_ix ix_tup (pv 0) pe_int (fun _ _ => rfl)) (nomark _)) (pss_one (ps_ret (pTup (pa_c pe_str (pa_c (pv 2) pa_nil))))) pss_nil)
      (pss_cons (ps_aug (i := 2) sc_told_by_number.nd rfl (Or.inl rfl) pe_int ip_add)
      (pss_one (ps_set (i := 1) sc_told_by_number.nd rfl (Or.inl rfl) (pe_ix ix_tup (pv 1) pe_int (fun _ _ => rfl)))))))
      (pss_one (ps_ret (pv 0))))), ?_⟩
    show (let V1_ : TS := _; let V2_ : TS := _; let V3_ : TS := tSeq _ V2_; let V4_ : TS := _; let V5_ : TS := tSeq (tIfS _ V4_ _) V3_; let V6_ : TS := tSeq (tWhile _ V5_) V1_; tSeq _ V6_ _ _ _)
    intro V1_ V2_ V3_ V4_ V5_ V6_
    refine ⟨fun m σ H' => ∃ ws' av', ∃ n : Nat, σ = [some (.ref a1), some av', some (.int (n : Int))] ∧ H' = H ∧ ArAt H ws' av' ∧ numAt w ws' n = byNum w ws ∧ m = ws'.length, ⟨ws.length, ws, av, 0, rfl, rfl, hav, rfl, rfl⟩, ?_⟩
    rintro m σ H' ⟨ws', av', n, rfl, rfl, har, hn, rfl⟩
    cases ws' with
    | nil =>
      cases (show av' = .non from har)
      refine ⟨_, rfl, rfl, _, rfl, ifNF rfl ⟨_, rfl, ?_⟩⟩
      refine k _ H' (.refl _) ?_
      rw [← hn]
      exact .name h1
    | cons u ws2 =>
      obtain ⟨a2, u2, rfl, h2, h3⟩ := har
      refine ⟨_, rfl, rfl, _, rfl, ifNT (by simp) ⟨fun σ' H2 => ∃ m', m' < (u :: ws2).length ∧ ∃ ws' av', ∃ n : Nat, σ' = [some (.ref a1), some av', some (.int (n : Int))] ∧ H2 = H' ∧ ArAt H' ws' av' ∧ numAt w ws' n = byNum w ws ∧ m' = ws'.length, fun _ _ h => h, ?_⟩⟩
      refine ⟨_, rfl, _, _, _, _, rfl, rfl, SqT.of h2, at0, _, rfl, _, _, _, _, rfl, rfl, SqT.of h1, at1, rfl, _, rfl, ?_⟩
      by_cases e : u = w
      · refine ifT (by rw [e]) ⟨_, rfl, small' (by show 2 ≤ 1000000; decide), fun p H9 np s9 h9 => k _ H9 s9 ?_⟩
        rw [← hn]
        unfold numAt
        rw [if_pos e]
        exact .place h9
      · refine ifF (fun z => e (V.str.inj z)) ?_
        refine ⟨_, rfl, _, _, rfl, rfl, ⟨_, rfl, _, _, _, _, rfl, rfl, SqT.of h2, at1, ?_⟩⟩
        refine ⟨ws2.length, Nat.lt_succ_self _, ws2, u2, n + 1, by rfl, rfl, h3, ?_, rfl⟩
        rw [← hn]
        show _ = (if u = w then T.place n else numAt w ws2 (n + 1))
        rw [if_neg e]
end
end NC
/-! ### named terms: numbered -/
namespace NC
open PySem PySem.Spec PyProof.Rows L2
section
variable {P : Program} {w : World} {K : PySem.W.Frag} {mg : Str → Option Value} {base : Heap}
seal L2.PE L2.PA L2.PT L2.PS L2.PSs L2.PW L2.PG L2.PGs L2.PI L2.PO L2.OpR L2.UnR L2.CallR L2.TruR L2.IxR L2.SlR
abbrev s_numbered : Stmt := top 6
theorem sc_numbered : FnScope ["term", "found"] ["term"] (defScope s_numbered) := ⟨rfl, rfl, rfl, by decide +kernel, rfl, by decide +kernel, by decide +kernel⟩
abbrev l_numbered_0 : Expr := asgArg s_numbered 0 2
def q_numbered_0 : Str := ("numbered" : Str) ++ ".<locals>." ++ "<lambda>"
theorem sl_numbered_0 : CloScope ["form", "around"] [] (lamScope l_numbered_0) := ⟨rfl, rfl, rfl, by decide +kernel, by decide +kernel, by decide +kernel, by decide +kernel, by decide +kernel⟩
abbrev l_numbered_1 : Expr := retArg s_numbered 1 2
def q_numbered_1 : Str := ("numbered" : Str) ++ ".<locals>." ++ "<lambda>"
theorem sl_numbered_1 : CloScope ["body", "around"] [] (lamScope l_numbered_1) := ⟨rfl, rfl, rfl, by decide +kernel, by decide +kernel, by decide +kernel, by decide +kernel, by decide +kernel⟩
theorem ok_inwN {f c : Addr} {pm ctv : Value} {J : Hp → Prop} (ho : base.get? f = some (PySem.W.kla_obj "<lambda>" q_numbered_0 (lamArgs l_numbered_0) (lamBody l_numbered_0) (lamScope l_numbered_0) [] pm c ctv)) (hJ : ∀ H, J H → H c = some (CodeX c q_numbered_0)) :
    FV P w K mg base CX0 1 f ["form", "around"] (sp_inwN J) := by
  refine ⟨_, _, _, _, fn_lamT (k := 0) (CX := CX0) (fvs := []) (fs := []) ho sl_numbered_0 .nil ?_ ?_ ?_ ?_ ?_, ho, ?_⟩
  · intro x c' h; cases h
  · intro x y c' h1 h2; cases h1
  · intro vs H Q E h
    obtain ⟨a, w, u, ws, av, rfl, _⟩ := h
    rfl
  · intro vs H Q E h
    obtain ⟨a, w, u, ws, av, rfl, _, _, j, _⟩ := h
    exact hJ _ j
  · intro A outer s H vs Q E hr h
    obtain ⟨a, w, u, ws, av, rfl, ha, har, hj, k⟩ := h
    exact ⟨_, (pTup (pa_c (pe_ix ix_tup (pv 0) pe_int (fun _ _ => rfl)) (pa_c (pv 1) pa_nil))), _, rfl, _, _, _, _, rfl, rfl, SqT.of ha, at1, _, rfl, small' (by show 2 ≤ 1000000; decide), fun b9 H9 n9 s9 h9 => k _ _ s9 ⟨b9, av, rfl, h9, har.mono (.of_same s9)⟩⟩
  · exact .all fun us hl => by obtain ⟨a, b, rfl⟩ := len2 hl; rfl
theorem ok_overN {f c : Addr} {pm ctv : Value} (ho : base.get? f = some (PySem.W.kla_obj "<lambda>" q_numbered_1 (lamArgs l_numbered_1) (lamBody l_numbered_1) (lamScope l_numbered_1) [] pm c ctv)) :
    FV P w K mg base CX0 1 f ["body", "around"] (sp_overN fun H => H c = some (CodeX c q_numbered_1)) := by
  refine ⟨_, _, _, _, fn_lamT (k := 0) (CX := CX0) (fvs := []) (fs := []) ho sl_numbered_1 .nil ?_ ?_ ?_ ?_ ?_, ho, ?_⟩
  · intro x c' h; cases h
  · intro x y c' h1 h2; cases h1
  · intro vs H Q E h
    obtain ⟨v, av, b, rfl, _⟩ := h
    rfl
  · intro vs H Q E h
    obtain ⟨v, av, b, rfl, _, j, _⟩ := h
    exact j
  · intro A outer s H vs Q E hr h
    obtain ⟨v, av, b, rfl, ht, hj, k⟩ := h
    exact ⟨_, (pTup (pa_c pe_str (pa_c (pv 0) pa_nil))), _, rfl, small' (by show 2 ≤ 1000000; decide), fun b9 H9 n9 s9 h9 => k _ _ s9 (.form h9 (ht.same s9))⟩
  · exact .all fun us hl => by obtain ⟨a, b, rfl⟩ := len2 hl; rfl
/-- the table of numbered's code: nothing yet, or both -/
abbrev tA (c : Addr) : List Value := [rawInt (lamPos l_numbered_0).line, rawInt (lamPos l_numbered_0).col, .ref c]
abbrev tB2 (d : Addr) : List Value := [rawInt (lamPos l_numbered_1).line, rawInt (lamPos l_numbered_1).col, .ref d]
inductive NumTab (T0 : Addr) (H : Hp) : Prop where
  | empty (h : H T0 = some (.tbl #[]))
  | both (c d : Addr) (h : H T0 = some (.tbl (tA c ++ tB2 d).toArray)) (hc : H c = some (CodeX c q_numbered_0)) (hd : H d = some (CodeX d q_numbered_0))
inductive NumTab1 (T0 c : Addr) (H : Hp) : Prop where
  | one (h : H T0 = some (.tbl (tA c).toArray))
  | two (d : Addr) (h : H T0 = some (.tbl (tA c ++ tB2 d).toArray)) (hd : H d = some (CodeX d q_numbered_0))
theorem NumTab.nl {T0 : Addr} {H H' : Hp} (t : NumTab T0 H) (s : NL H H') : NumTab T0 H' := by
  cases t with
  | empty h => exact .empty (s _ _ (fun _ z => by cases z) h)
  | both c d h hc hd => exact .both c d (s _ _ (fun _ z => by cases z) h) (s _ _ (fun _ z => by cases z) hc) (s _ _ (fun _ z => by cases z) hd)
theorem NumTab1.same {T0 c : Addr} {H H' : Hp} (t : NumTab1 T0 c H) (s : Same H H') : NumTab1 T0 c H' := by
  cases t with
  | one h => exact .one (s _ _ h)
  | two d h hd => exact .two d (s _ _ h) (s _ _ hd)
theorem numA {T0 : Addr} {H : Hp} {Q : VK} (t : NumTab T0 H) (k : ∀ f c H1, H f = none → SameX H H1 → (∀ b, H1 b = none → H b = none) → NumTab1 T0 c H1 → H1 c = some (CodeX c q_numbered_0) → H1 f = some (FnObjL f c q_numbered_0 (lamArgs l_numbered_0) (lamBody l_numbered_0) (lamScope l_numbered_0) []) → Q (.ref f) H1) :
    TLamGI T0 (lamPos l_numbered_0) q_numbered_0 (lamArgs l_numbered_0) (lamBody l_numbered_0) (lamScope l_numbered_0) [] H Q := by
  cases t with
  | empty h =>
    refine .new #[] h trivial rfl fun f c H' nf sx hP hc hf oth => k f c H' nf sx (fun b n => ?_) (.one (by rw [hP]; rfl)) hc hf
    rcases sx.free n with e | ⟨ps, e⟩
    · exact e
    · by_cases hb : b = T0
      · rw [hb, hP] at n; cases n
      · have := oth b hb ps e
        rw [n] at this; cases this
  | both c d h hc hd =>
    exact .old _ c h trivial (by rfl) hc fun f H' nf s hf => k f c H' nf (.of s) (fun b n => s.free n) (.two d (s _ _ h) (s _ _ hd)) (s _ _ hc) hf
theorem numB {T0 c : Addr} {H : Hp} {Q : VK} (t : NumTab1 T0 c H) (tc : H c = some (CodeX c q_numbered_0)) (k : ∀ f d H1, H f = none → SameX H H1 → (∀ b, H1 b = none → H b = none) → NumTab T0 H1 → H1 d = some (CodeX d q_numbered_1) → H1 f = some (FnObjL f d q_numbered_1 (lamArgs l_numbered_1) (lamBody l_numbered_1) (lamScope l_numbered_1) []) → Q (.ref f) H1) :
    TLamGI T0 (lamPos l_numbered_1) q_numbered_1 (lamArgs l_numbered_1) (lamBody l_numbered_1) (lamScope l_numbered_1) [] H Q := by
  cases t with
  | one h =>
    refine .new _ h trivial (by rfl) fun f d H' nf sx hP hc hf oth => k f d H' nf sx (fun b n => ?_) (.both c d (by rw [hP]; rfl) (sx _ _ (fun _ z => by cases z) tc) hc) hc hf
    rcases sx.free n with e | ⟨ps, e⟩
    · exact e
    · by_cases hb : b = T0
      · rw [hb, hP] at n; cases n
      · have := oth b hb ps e
        rw [n] at this; cases this
  | two d h hd =>
    exact .old _ d h trivial (by rfl) hd fun f H' nf s hf => k f d H' nf (.of s) (fun b n => s.free n) (.both c d (s _ _ h) (s _ _ tc) (s _ _ hd)) (s _ _ hd) hf
inductive Sp_numberedI (T0 : Addr) (vs : List V) (H : Hp) (Q : VK) : Prop where
  | mk (v : V) (t : NT) (c1 : vs = [v]) (c2 : NamedAt H v t) (c3 : t.size ≤ 1000) (c4 : NumTab T0 H) (c5 : ∀ v' H', SameX H H' → NumTab T0 H' → TermAt H' v' t.numbered → Q v' H')
def sp_numbered (T0 : Addr) : Sp := fun vs H Q _ => Sp_numberedI T0 vs H Q
theorem ok_numbered {f c0 T0 ft : Addr} {fd : FuncData} (F : FunC K "numbered" "numbered" s_numbered f fd c0) (hC : PySem.W.codeHdIn K c0 T0 = true) (BB : BltAt base mg) (hm_told : mg "told_by_number" = some (.ref ft))
    (hTold : ∀ base', Larger K mg base base' → FV P w K mg base' CX0 1 ft ["part", "around"] (sp_leafN byNum))
    (G_walk : GB P w K mg base CX0 2 "walk" ["term", "around", "inward"] (sp_walkN 1 P w K mg)) (G_built : GB P w K mg base CX0 2 "built" ["found", "leaf", "over"] (sp_builtN 1 P w K mg)) : FnOk P w K mg base CX0 3 f fd ["term"] (sp_numbered T0) := by
  refine F.ok sc_numbered (fun vs H Q E h => ?_) (fun A outer s H vs Q E hr h => ?_)
  · obtain ⟨v, t, rfl, _⟩ := h
    rfl
  · obtain ⟨v, t, rfl, ht, hsz, tab, k⟩ := h
    refine ⟨_, (pss_cons (ps_set (i := 1) sc_numbered.nd rfl (Or.inl rfl) (pe_ex (E := E0) G_walk (hr.mono (by decide)) rfl (fun _ _ _ _ _ _ _ _ h => h.elim) (pa_c (pv 0) (pa_c pe_non (pa_c (pe_lamG (params := lamArgs l_numbered_0) (body := lamBody l_numbered_0) (scope := lamScope l_numbered_0) (pos := lamPos l_numbered_0) (qual := q_numbered_0) (clos := []) rfl hC BB rfl rfl) pa_nil)))))
      (pss_one (ps_ret (pe_ex (E := E0) G_built (hr.mono (by decide)) rfl (fun _ _ _ _ _ _ _ _ h => h.elim) (pa_c (pv 1) (pa_c (pe_glob (v := .ref ft) rfl hm_told rfl) (pa_c (pe_lamG (params := lamArgs l_numbered_1) (body := lamBody l_numbered_1) (scope := lamScope l_numbered_1) (pos := lamPos l_numbered_1) (qual := q_numbered_1) (clos := []) rfl hC BB rfl rfl) pa_nil))))))), ?_⟩
    show (let V1_ : TS := _; tSeq _ V1_ _ _ _)
    intro V1_
    refine ⟨_, rfl, numA tab fun f c H1 nf sx fr tab1 hc1 hf1 => ⟨[f], fun b hb => ?_, fun base' lg => ?_⟩⟩
    · rw [List.mem_singleton.mp hb]
      exact goes_lam hf1
    · obtain ⟨pm, ctv, ho⟩ := lg.ext f (by simp) _ hf1
      have ncf : c ∉ [f] := fun z => lg.nocode c z _ hc1
      refine ⟨v, t, [], .non, f, _, fun H => H c = some (CodeX c q_numbered_0), rfl, (ht.mono sx.tups).mono (tups_del lg.only), rfl, by omega, ok_inwN ho (fun _ h => h), fun H' s' => s' _ _ (by rw [delH_ne ncf]; exact hc1), fun l rs H2 s2 nl hl2 hr2 gone => ?_⟩
      have lf : l ∉ [f] := fun z => by rw [gone l z] at hl2; cases hl2
      have tu := tups_add (H := H1) gone
      have s3 : Same H1 (addH H2 H1 [f]) := same_add s2
      have hl3 : addH H2 H1 [f] l = some (.lst rs) := by rw [addH_ne lf]; exact hl2
      have hr3 := paired_imp (fun _ _ h => NPairAt.mono h tu) hr2
      generalize addH H2 H1 [f] = H3 at *
      refine ⟨_, rfl, numB (tab1.same s3) (s3 _ _ hc1) fun f2 d H4 nf2 sx2 fr2 tab2 hd4 hf4 => ⟨[f2], fun b hb => ?_, fun base2 lg2 => ?_⟩⟩
      · rw [List.mem_singleton.mp hb]
        exact goes_lam hf4
      · obtain ⟨pm2, ctv2, ho2⟩ := lg2.ext f2 (by simp) _ hf4
        have ncd : d ∉ [f2] := fun z => lg2.nocode d z _ hd4
        have tu4 : Tups H3 (delH H4 [f2]) := fun b xs e => tups_del lg2.only _ _ (sx2.tups _ _ e)
        have hl4 : delH H4 [f2] l = some (.lst rs) := by
          rw [delH_ne fun z => by rw [List.mem_singleton.mp z, nf2] at hl3; cases hl3]
          exact sx2.lst hl3
        refine ⟨l, rs, t, [], ft, f2, _, _, fun H => H d = some (CodeX d q_numbered_1), byNum, rfl, hl4, paired_imp (fun _ _ z => NPairAt.mono z tu4) hr3, by show t.size + 0 ≤ 100000; omega, hTold _ lg2.lg, ok_overN ho2, fun H' s' => s' _ _ (by rw [delH_ne ncd]; exact hd4), fun v' H5 s5 hv' gone2 => ?_⟩
        have s6 : Same H4 (addH H5 H4 [f2]) := same_add s5
        exact k v' _ (((sx.trans (.of s3)).trans sx2).trans (.of s6)) (tab2.nl (.of_same s6)) (hv'.mono (tups_add gone2))
end
end NC
/-! ### same, alike -/
namespace NC
open PySem PySem.Spec PyProof.Rows L2
section
variable {P : Program} {w : World} {K : PySem.W.Frag} {mg : Str → Option Value} {base : Heap}
seal L2.PE L2.PA L2.PT L2.PS L2.PSs L2.PW L2.PG L2.PGs L2.PI L2.PO L2.OpR L2.UnR L2.CallR L2.TruR L2.IxR L2.SlR
inductive DPair (H : Hp) (x : V) (q : Tm × Tm) : Prop where
  | mk (a : Addr) (lv rv : V) (c1 : x = .ref a) (c2 : H a = some (.tup [lv, rv])) (c3 : TermAt H lv q.1) (c4 : TermAt H rv q.2)
theorem DPair.mono {H H' : Hp} {x : V} {q : Tm × Tm} (h : DPair H x q) (k : Tups H H') : DPair H' x q := let ⟨a, lv, rv, e, h1, h2, h3⟩ := h; ⟨a, lv, rv, e, k _ _ h1, h2.mono k, h3.mono k⟩
def sumS (its : List (Tm × Tm)) : Nat := (its.map fun q => q.1.size).sum
theorem sumS_snoc (its : List (Tm × Tm)) (q : Tm × Tm) : sumS (its ++ [q]) = sumS its + q.1.size := by
  unfold sumS
  rw [List.map_append, List.sum_append]
  simp
theorem len_sumS : ∀ its : List (Tm × Tm), its.length ≤ sumS its
  | [] => Nat.le_refl _
  | q :: its => by
    have h1 := len_sumS its
    have h2 := T.size_pos q.1
    unfold sumS at *
    rw [List.map_cons, List.sum_cons, List.length_cons]
    omega
abbrev s_same : Stmt := top 3
theorem sc_same : FnScope ["one", "other", "todo", "pair", "left", "right"] ["one", "other"] (defScope s_same) := ⟨rfl, rfl, rfl, by decide +kernel, rfl, by decide +kernel, by decide +kernel⟩
inductive Sp_sameI (vs : List V) (H : Hp) (Q : VK) : Prop where
  | mk (v u : V) (t r : Tm) (c1 : vs = [v, u]) (c2 : TermAt H v t) (c3 : TermAt H u r) (c4 : t.size ≤ 1000) (c5 : ∀ (b : Bool) H', (b = true ↔ t = r) → Same H H' → Q (.bl b) H')
def sp_same : Sp := fun vs H Q _ => Sp_sameI vs H Q
inductive InvSame (H : Hp) (v u : V) (t r : Tm) (d : Addr) (m : Nat) (σ : L2.St) (H' : Hp) : Prop where
  | mk (its : List (Tm × Tm)) (xs : List V) (x3 x4 x5 : Option V) (c1 : σ = [some v, some u, some (.ref d), x3, x4, x5]) (c2 : Same H H') (c3 : H' d = some (.lst xs)) (c4 : Paired (DPair H') xs its) (c5 : t = r ↔ ∀ q ∈ its, q.1 = q.2) (c6 : m = sumS its) (c7 : sumS its ≤ t.size)
theorem sz0 {a : V} {l : List V} : ¬ (HT.sIx (a :: l).length 0 (some 1) = 0 ∧ HT.sIx (a :: l).length (a :: l).length none = (a :: l).length) := by
  intro z
  have := z.1
  unfold HT.sIx at this
  simp at this
theorem ok_same {f : Addr} {fd : FuncData} (F : Fun K "same" "same" s_same f fd) (N_ : NoNames mg) : FnOk P w K mg base CX0 1 f fd ["one", "other"] sp_same := by
  refine F.ok sc_same (fun vs H Q E h => ?_) (fun cdv A outer s H vs Q E hr h => ?_)
  · obtain ⟨v, u, t, r, rfl, _⟩ := h
    rfl
  · obtain ⟨v, u, t, r, rfl, ht, hr0, hsz, k⟩ := h
    refine ⟨_, (pss_cons (ps_set (i := 2) sc_same.nd rfl (Or.inl rfl) (pLst (pa_c (pTup (pa_c (pv 0) (pa_c (pv 1) pa_nil))) pa_nil)))
      (pss_cons (ps_while PassesOwn.never (pt_truth (pv 2) (fun _ => rfl)) (pss_cons (ps_set (i := 3) sc_same.nd rfl (Or.inl rfl) (pPop (pv 2)))
      (pss_cons (ps_set (i := 4) sc_same.nd rfl (Or.inl rfl) (pe_ix ix_tup (pv 3) pe_int (fun _ _ => rfl)))
      (pss_cons (ps_set (i := 5) sc_same.nd rfl (Or.inl rfl) (pe_ix ix_tup (pv 3) pe_int (fun _ _ => rfl)))
      (pss_cons (ps_if (pt_cmpR op_ne (pe_ix ix_tup (pv 4) pe_int (fun _ _ => rfl)) (pe_ix ix_tup (pv 5) pe_int (fun _ _ => rfl)) (nomark _)) (pss_one (ps_ret pe_bl)) pss_nil)
      (pss_one (ps_if (PW.pt (pw_or (pt_cmpR op_eq (pe_ix ix_tup (pv 4) pe_int (fun _ _ => rfl)) pe_str (nomark _)) (pw_or1 (pt_cmpR op_eq (pe_ix ix_tup (pv 4) pe_int (fun _ _ => rfl)) pe_str (nomark _))))) (pss_one (ps_if (pt_cmpR op_ne (pe_ix ix_tup (pv 4) pe_int (fun _ _ => rfl)) (pe_ix ix_tup (pv 5) pe_int (fun _ _ => rfl)) (nomark _)) (pss_one (ps_ret pe_bl)) pss_nil)) (pss_one (ps_expr (pExt (pv 2) (pe_lzip hr.hd rfl N_.zip rfl N_.list (pe_slice sl_tup (pv 4) (po_some pe_int) po_none) (pe_slice sl_tup (pv 5) (po_some pe_int) po_none))))))))))))
      (pss_one (ps_ret pe_bl)))), ?_⟩
    show (let V1_ : TS := _; let V2_ : TS := _; let V3_ : TS := tIfS _ V2_ _; let V4_ : TS := _; let V5_ : TS := tIfS _ V3_ V4_; let V6_ : TS := _; let V7_ : TS := tSeq (tIfS _ V6_ _) V5_; let V8_ : TS := tSeq _ V7_; let V9_ : TS := tSeq _ V8_; let V10_ : TS := tSeq _ V9_; let V11_ : TS := tSeq (tWhile _ V10_) V1_; tSeq _ V11_ _ _ _)
    intro V1_ V2_ V3_ V4_ V5_ V6_ V7_ V8_ V9_ V10_ V11_
    refine ⟨_, rfl, _, rfl, small' (by simp), fun q0 H3 nq s3 hq3 => ⟨small' (by simp), fun d H4 nd s4 hd4 => ?_⟩⟩
    have s04 : Same H H4 := s3.trans s4
    have n_d : H d = none := s3.free nd
    have nL : ∀ x ∈ [d], H x = none := fun x hx => by rw [List.mem_singleton.mp hx]; exact n_d
    refine ⟨InvSame H v u t r d, ⟨sumS [(t, r)], ⟨[(t, r)], [.ref q0], none, none, none, rfl, s04, hd4, .cons ⟨q0, v, u, rfl, s4 _ _ hq3, ht.same s04, hr0.same s04⟩ .nil, ⟨fun e q hq => by rw [List.mem_singleton.mp hq]; exact e, fun e => e (t, r) (by simp)⟩, rfl, by show t.size + 0 ≤ t.size; omega⟩⟩, ?_⟩
    rintro m σ H5 ⟨its, xs, x3, x4, x5, rfl, s5, hd5, hit, heq, rfl, hsum⟩
    by_cases hnil : its = []
    · subst hnil
      cases paired_nil hit
      exact ⟨_, rfl, false, Or.inl ⟨_, SqL.of hd5, rfl⟩, iteF (k true H5 ⟨fun _ => heq.mpr (by simp), fun _ => rfl⟩ s5)⟩
    · obtain ⟨its', ⟨t1, r1⟩, rfl⟩ := snoc_of hnil
      obtain ⟨xs', x, rfl, hit', a, lv, rv, rfl, ha, htl, htr⟩ := paired_snoc_inv hit
      have htl : TermAt H5 lv t1 := htl
      have htr : TermAt H5 rv r1 := htr
      refine ⟨_, rfl, true, Or.inl ⟨_, SqL.of hd5, by simp⟩, iteT ⟨fun σ' H' => ∃ m', m' < sumS (its' ++ [(t1, r1)]) ∧ InvSame H v u t r d m' σ' H', fun _ _ h => h, ?_⟩⟩
      refine ⟨_, rfl, Or.inl ⟨rfl, _, SqL.of hd5⟩, d, xs', .ref a, rfl, rfl, hd5, fun H6 k6 hd6 => ?_⟩
      have tu6 := keep1_tups k6 hd5
      have ha6 := tu6 _ _ ha
      have htl6 := htl.mono tu6
      have htr6 := htr.mono tu6
      have s6 : Same H H6 := same_keep s5 k6 nL
      have it6 := paired_imp (fun a b h => DPair.mono h tu6) hit'
      rw [sumS_snoc] at hsum
      have hs1 : sumS its' + t1.size ≤ t.size := hsum
      have hxl : xs'.length ≤ t.size := by
        rw [Paired.length it6]
        have := len_sumS its'
        omega
      have all : (t = r) ↔ (t1 = r1 ∧ ∀ q ∈ its', q.1 = q.2) := heq.trans ⟨fun h => ⟨h (t1, r1) (by simp), fun q hq => h q (by simp [hq])⟩, fun h q hq => by
        rcases List.mem_append.mp hq with z | z
        · exact h.2 q z
        · rw [List.mem_singleton.mp z]; exact h.1⟩
      obtain ⟨al, xl, rl, rfl, hl⟩ := htl6.tup
      obtain ⟨ar, xr, rr, rfl, hrr⟩ := htr6.tup
      refine ⟨_, rfl, _, _, _, _, rfl, rfl, SqT.of ha6, at0, ?_⟩
      refine ⟨_, rfl, _, _, _, _, rfl, rfl, SqT.of ha6, at1, ?_⟩
      refine ⟨_, rfl, _, _, _, _, rfl, rfl, SqT.of hl, at0, _, rfl, _, _, _, _, rfl, rfl, SqT.of hrr, at0, rfl, _, rfl, ?_⟩
      by_cases htag : tag t1 = tag r1
      · refine ifNF (by rw [htag]) ?_
        have nxt : ∀ {H7 : Hp} {its2 : List (Tm × Tm)} {xs2 : List V} {x3 x4 x5 : Option V}, Same H H7 → H7 d = some (.lst xs2) → Paired (DPair H7) xs2 its2 → (t = r ↔ ∀ q ∈ its2, q.1 = q.2) → sumS its2 < sumS its' + t1.size →
            ∃ m', m' < sumS (its' ++ [(t1, r1)]) ∧ InvSame H v u t r d m' [some v, some u, some (.ref d), x3, x4, x5] H7 := fun a b c e l => ⟨_, by rw [sumS_snoc]; exact l, ⟨_, _, _, _, _, rfl, a, b, c, e, rfl, by omega⟩⟩
        have no : ∀ {b : Bool}, b = false → t1 ≠ r1 → (b = true ↔ t = r) := fun e n => ⟨(fun z => by rw [e] at z; cases z), fun z => absurd (all.mp z).1 n⟩
        have p1 := T.size_pos t1
        cases htl6 with
        | @name _ w1 h1 =>
          cases htr6 with
          | place _ => exact absurd (congrArg V.str htag) n_np
          | form _ _ => exact absurd (congrArg V.str htag) n_nf
          | call _ _ _ => exact absurd (congrArg V.str htag) n_nc
          | @name _ w2 h2 =>
            refine ⟨_, rfl, _, _, _, _, rfl, rfl, SqT.of h1, at0, rfl, _, rfl, ifT rfl (iteT ?_)⟩
            refine ⟨_, rfl, _, _, _, _, rfl, rfl, SqT.of h1, at1, _, rfl, _, _, _, _, rfl, rfl, SqT.of h2, at1, rfl, _, rfl, ?_⟩
            by_cases e : w1 = w2
            · exact ifNF (by rw [e]) (nxt s6 hd6 it6 (all.trans ⟨fun z => z.2, fun z => ⟨by rw [e], z⟩⟩) (by omega))
            · exact ifNT (fun z => e (V.str.inj z)) (k false H6 (no rfl fun z => e (by injection z)) s6)
        | @place _ w1 h1 =>
          cases htr6 with
          | name _ => exact absurd (congrArg V.str htag) n_pn
          | form _ _ => exact absurd (congrArg V.str htag) n_pf
          | call _ _ _ => exact absurd (congrArg V.str htag) n_pc
          | @place _ w2 h2 =>
            refine ⟨_, rfl, _, _, _, _, rfl, rfl, SqT.of h1, at0, rfl, _, rfl, ifF n_pn ⟨_, rfl, _, _, _, _, rfl, rfl, SqT.of h1, at0, rfl, _, rfl, ifT rfl ?_⟩⟩
            refine ⟨_, rfl, _, _, _, _, rfl, rfl, SqT.of h1, at1, _, rfl, _, _, _, _, rfl, rfl, SqT.of h2, at1, rfl, _, rfl, ?_⟩
            by_cases e : w1 = w2
            · exact ifNF (by rw [e]) (nxt s6 hd6 it6 (all.trans ⟨fun z => z.2, fun z => ⟨by rw [e], z⟩⟩) (by omega))
            · exact ifNT (fun z => e (by injection z with z; omega)) (k false H6 (no rfl fun z => e (by injection z)) s6)
        | @form _ bv b h1 hb =>
          cases htr6 with
          | name _ => exact absurd (congrArg V.str htag) n_fn
          | place _ => exact absurd (congrArg V.str htag) n_fp
          | call _ _ _ => exact absurd (congrArg V.str htag) n_fc
          | @form _ bv2 b2 h2 hb2 =>
            refine ⟨_, rfl, _, _, _, _, rfl, rfl, SqT.of h1, at0, rfl, _, rfl, ifF n_fn ⟨_, rfl, _, _, _, _, rfl, rfl, SqT.of h1, at0, rfl, _, rfl, ifF n_fp ?_⟩⟩
            refine ⟨_, rfl, Or.inl ⟨rfl, _, SqL.of hd6⟩, _, rfl, _, rfl, _, _, rfl, SqT.of h1, sz0, fun p1 n1 => ?_⟩
            have s7 : Same H6 (upd H6 p1 (.tup (cutV [V.str "form", bv] (some 1) none))) := same_new n1
            refine ⟨_, rfl, _, rfl, _, _, rfl, SqT.of (s7 _ _ h2), sz0, fun p2 n2 => ?_⟩
            have s8 := s7.trans (same_new (o := HO.tup (cutV [V.str "form", bv2] (some 1) none)) n2)
            refine ⟨p1, p2, [bv], [bv2], rfl, SqT.of (same_new n2 _ _ upd_same), SqT.of upd_same, rfl, Nat.succ_pos _, fun l rs H9 nl s9 hl9 pr => ?_⟩
            have s69 : Same H6 H9 := s8.trans s9
            cases pr with
            | cons pr1 pr2 =>
            cases pr2
            obtain ⟨T1, rfl, hT1⟩ := pr1
            refine ⟨_, _, _, _, rfl, rfl, s69 _ _ hd6, hl9, small' (by show xs'.length + 1 ≤ 1000000; omega), fun H10 k10 hd10 => ?_⟩
            have tu10 : Tups H9 H10 := keep1_tups k10 (s69 _ _ hd6)
            have tu := (Tups.of_same s69).trans tu10
            refine nxt (same_keep1 (s6.trans s69) k10 n_d) hd10 (paired_snoc (y := (b, b2)) ⟨T1, bv, bv2, rfl, tu10 _ _ hT1, hb.mono tu, hb2.mono tu⟩ (paired_imp (fun _ _ h => DPair.mono h tu) it6)) (all.trans ⟨fun z q hq => ?_, fun z => ⟨by rw [show b = b2 from z (b, b2) (by simp)], fun q hq => z q (by simp [hq])⟩⟩) (by rw [sumS_snoc]; show sumS its' + b.size < sumS its' + (b.size + 1); omega)
            rcases List.mem_append.mp hq with z' | z'
            · exact z.2 q z'
            · rw [List.mem_singleton.mp z']
              have := z.1
              injection this
        | @call _ xv yv x y h1 hx hy =>
          cases htr6 with
          | name _ => exact absurd (congrArg V.str htag) n_cn
          | place _ => exact absurd (congrArg V.str htag) n_cp
          | form _ _ => exact absurd (congrArg V.str htag) n_cf
          | @call _ xv2 yv2 x2 y2 h2 hx2 hy2 =>
            refine ⟨_, rfl, _, _, _, _, rfl, rfl, SqT.of h1, at0, rfl, _, rfl, ifF n_cn ⟨_, rfl, _, _, _, _, rfl, rfl, SqT.of h1, at0, rfl, _, rfl, ifF n_cp ?_⟩⟩
            refine ⟨_, rfl, Or.inl ⟨rfl, _, SqL.of hd6⟩, _, rfl, _, rfl, _, _, rfl, SqT.of h1, sz0, fun p1 n1 => ?_⟩
            have s7 : Same H6 (upd H6 p1 (.tup (cutV [V.str "call", xv, yv] (some 1) none))) := same_new n1
            refine ⟨_, rfl, _, rfl, _, _, rfl, SqT.of (s7 _ _ h2), sz0, fun p2 n2 => ?_⟩
            have s8 := s7.trans (same_new (o := HO.tup (cutV [V.str "call", xv2, yv2] (some 1) none)) n2)
            refine ⟨p1, p2, [xv, yv], [xv2, yv2], rfl, SqT.of (same_new n2 _ _ upd_same), SqT.of upd_same, rfl, Nat.succ_pos _, fun l rs H9 nl s9 hl9 pr => ?_⟩
            have s69 : Same H6 H9 := s8.trans s9
            cases pr with
            | cons pr1 pr2 =>
            cases pr2 with
            | cons pr2 pr3 =>
            cases pr3
            obtain ⟨T1, rfl, hT1⟩ := pr1
            obtain ⟨T2, rfl, hT2⟩ := pr2
            refine ⟨_, _, _, _, rfl, rfl, s69 _ _ hd6, hl9, small' (by show xs'.length + 2 ≤ 1000000; omega), fun H10 k10 hd10 => ?_⟩
            have tu10 : Tups H9 H10 := keep1_tups k10 (s69 _ _ hd6)
            have tu := (Tups.of_same s69).trans tu10
            have hp := paired_snoc (y := (y, y2)) ⟨T2, yv, yv2, rfl, tu10 _ _ hT2, hy.mono tu, hy2.mono tu⟩ (paired_snoc (y := (x, x2)) ⟨T1, xv, xv2, rfl, tu10 _ _ hT1, hx.mono tu, hx2.mono tu⟩ (paired_imp (fun _ _ h => DPair.mono h tu) it6))
            rw [List.append_assoc] at hp
            refine nxt (same_keep1 (s6.trans s69) k10 n_d) hd10 hp (all.trans ⟨fun z q hq => ?_, fun z => ⟨by rw [show x = x2 from z (x, x2) (by simp), show y = y2 from z (y, y2) (by simp)], fun q hq => z q (by simp [hq])⟩⟩) (by rw [sumS_snoc, sumS_snoc]; show sumS its' + x.size + y.size < sumS its' + (x.size + y.size + 1); omega)
            have z1 := z.1
            injection z1 with z1 z2
            rcases List.mem_append.mp hq with z' | z'
            · rcases List.mem_append.mp z' with z' | z'
              · exact z.2 q z'
              · rw [List.mem_singleton.mp z']; exact z1
            · rw [List.mem_singleton.mp z']; exact z2
      · refine ifNT (fun z => htag (V.str.inj z)) (k false H6 ⟨(fun z => by cases z), fun z => absurd (by rw [(all.mp z).1]) htag⟩ s6)
abbrev s_alike : Stmt := top 7
theorem sc_alike : FnScope ["one", "other"] ["one", "other"] (defScope s_alike) := ⟨rfl, rfl, rfl, by decide +kernel, rfl, by decide +kernel, by decide +kernel⟩
inductive Sp_alikeI (T0 : Addr) (vs : List V) (H : Hp) (Q : VK) : Prop where
  | mk (v u : V) (t r : NT) (c1 : vs = [v, u]) (c2 : NamedAt H v t) (c3 : NamedAt H u r) (c4 : t.size ≤ 1000) (c5 : r.size ≤ 1000) (c6 : NumTab T0 H) (c7 : ∀ (b : Bool) H', (b = true ↔ t.numbered = r.numbered) → SameX H H' → NumTab T0 H' → Q (.bl b) H')
def sp_alike (T0 : Addr) : Sp := fun vs H Q _ => Sp_alikeI T0 vs H Q
theorem ok_alike {f T0 : Addr} {fd : FuncData} (F : Fun K "alike" "alike" s_alike f fd) (G_numbered : GF P w K mg base CX0 3 "numbered" ["term"] (sp_numbered T0)) (G_same : GF P w K mg base CX0 1 "same" ["one", "other"] sp_same) : FnOk P w K mg base CX0 4 f fd ["one", "other"] (sp_alike T0) := by
  refine F.ok sc_alike (fun vs H Q E h => ?_) (fun cdv A outer s H vs Q E hr h => ?_)
  · obtain ⟨v, u, t, r, rfl, _⟩ := h
    rfl
  · obtain ⟨v, u, t, r, rfl, ht, hu, hs1, hs2, tab, k⟩ := h
    refine ⟨_, (pss_one (ps_ret (pe_gf G_same (hr.mono (by decide)) rfl pass0 (pa_c (pe_gf G_numbered (hr.mono (by decide)) rfl pass0 (pa_c (pv 0) pa_nil)) (pa_c (pe_gf G_numbered (hr.mono (by decide)) rfl pass0 (pa_c (pv 1) pa_nil)) pa_nil))))), ?_⟩
    refine ⟨_, rfl, v, t, rfl, ht, hs1, tab, fun v1 H1 sx1 tab1 hv1 => ⟨_, rfl, u, r, rfl, hu.mono sx1.tups, hs2, tab1, fun v2 H2 sx2 tab2 hv2 => ⟨v1, v2, _, _, rfl, hv1.mono sx2.tups, hv2, ?_, fun b H3 hb s3 => k b H3 hb ((sx1.trans sx2).trans (.of s3)) (tab2.nl (.of_same s3))⟩⟩⟩
    show (t.num byNum []).size ≤ 1000
    rw [num_size]
    exact hs1
end
end NC
/-! ### a law's own telling by numbers, and other words for forms -/
namespace NC
open PySem PySem.Spec PyProof.Rows L2
/-- a list of words, none of L -/
inductive LsN (L : List Addr) (H : Hp) (v : V) (ws : List Str) : Prop where
  | mk (l : Addr) (c1 : v = .ref l) (c2 : l ∉ L) (c3 : H l = some (.lst (ws.map V.str)))
inductive ItmN (L : List Addr) (H : Hp) (v : V) (q : NT × List Str) : Prop where
  | mk (a : Addr) (tv wv : V) (c1 : v = .ref a) (c2 : H a = some (.tup [tv, wv])) (c3 : NamedAt H tv q.1) (c4 : LsN L H wv q.2)
theorem LsN.keep {L : List Addr} {H H' : Hp} {v : V} {ws : List Str} (h : LsN L H v ws) (k : Keep L H H') : LsN L H' v ws := let ⟨l, e, n, q⟩ := h; ⟨l, e, n, k _ _ n q⟩
theorem ItmN.keep {L : List Addr} {H H' : Hp} {v : V} {q : NT × List Str} (h : ItmN L H v q) (k : Keep L H H') (hL : Lists L H) : ItmN L H' v q :=
  let ⟨a, tv, wv, e, h1, h2, h3⟩ := h
  ⟨a, tv, wv, e, k.tups hL _ _ h1, h2.mono (k.tups hL), h3.keep k⟩
theorem ItmN.fresh {L : List Addr} {H H' : Hp} {v : V} {q : NT × List Str} {p : Addr} (h : ItmN L H v q) (s : Same H H') (n : H p = none) : ItmN [p] H' v q :=
  let ⟨a, tv, wv, e, h1, h2, ⟨l, e2, _, h3⟩⟩ := h
  ⟨a, tv, wv, e, s _ _ h1, h2.same s, ⟨l, e2, (fun z => by rw [List.mem_singleton.mp z, n] at h3; cases h3), s _ _ h3⟩⟩
def pendM (its : List (NT × List Str)) : List (NT × List Str) := its.reverse.flatMap fun q => q.1.lparts q.2
theorem pendM_snoc (its : List (NT × List Str)) (q : NT × List Str) : pendM (its ++ [q]) = q.1.lparts q.2 ++ pendM its := by
  unfold pendM
  rw [List.reverse_append]
  rfl
theorem numAt_idx (w : Str) : ∀ (ws : List Str) (n : Nat), numAt w ws n = if w ∈ ws then .place (n + ws.idxOf w) else .name w
  | [], n => by simp [numAt]
  | u :: ws, n => by
    unfold numAt
    by_cases h : u = w
    · subst h; simp
    · rw [if_neg h, numAt_idx w ws (n + 1)]
      have h' : ¬ w = u := fun z => h z.symm
      have e : (u :: ws).idxOf w = ws.idxOf w + 1 := by
        rw [List.idxOf_cons, beq_false_of_ne h]
        rfl
      rw [e]
      by_cases hm : w ∈ ws
      · rw [if_pos hm, if_pos (List.mem_cons_of_mem _ hm)]
        congr 1
        omega
      · rw [if_neg hm, if_neg (by simp [h', hm])]
theorem byNum_in {w : Str} {ws : List Str} (h : w ∈ ws) : byNum w ws = .place (ws.idxOf w) := by
  unfold byNum
  rw [numAt_idx, if_pos h, Nat.zero_add]
theorem byNum_out {w : Str} {ws : List Str} (h : w ∉ ws) : byNum w ws = .name w := by
  unfold byNum
  rw [numAt_idx, if_neg h]
/-- the shape of a named term -/
def NT.shape : NT → Tm
  | .name _ => .name (Str.ofString "")
  | .form _ b => .form b.shape
  | .call a b => .call a.shape b.shape
theorem shape_size : ∀ t : NT, t.shape.size = t.size
  | .name _ => rfl
  | .form _ b => by show b.shape.size + 1 = b.size + 1; rw [shape_size b]
  | .call a b => by show a.shape.size + b.shape.size + 1 = a.size + b.size + 1; rw [shape_size a, shape_size b]
def gSh : Str → List Str → Tm := fun _ _ => .name (Str.ofString "")
theorem num_shape : ∀ (t : NT) (ws : List Str), t.num gSh ws = t.shape
  | .name _, _ => rfl
  | .form w b, ws => by show T.form (b.num gSh (w :: ws)) = T.form b.shape; rw [num_shape b]
  | .call a b, ws => by show T.call (a.num gSh ws) (b.num gSh ws) = T.call a.shape b.shape; rw [num_shape a, num_shape b]
theorem map_cons {α β : Type} {f : α → β} {S : List α} {x : β} {S' : List β} (h : S.map f = x :: S') : ∃ y R, S = y :: R ∧ f y = x ∧ R.map f = S' := by
  cases S with
  | nil => cases h
  | cons y R =>
    rw [List.map_cons] at h
    injection h with h1 h2
    exact ⟨y, R, rfl, h1, h2⟩
/-- a pile of named terms, the top ahead -/
def NPileAt (H : Hp) (p : Addr) (vs : List V) (S : List NT) : Prop := H p = some (.lst vs) ∧ Paired (NamedAt H) vs S.reverse
theorem NPileAt.pop {H : Hp} {p : Addr} {vs : List V} {S : List NT} {x : NT} (h : NPileAt H p vs (x :: S)) : ∃ vs' v, vs = vs' ++ [v] ∧ NamedAt H v x ∧ Paired (NamedAt H) vs' S.reverse := by
  have q := h.2
  rw [List.reverse_cons] at q
  obtain ⟨vs', v, e, r, tv⟩ := paired_snoc_inv q
  exact ⟨vs', v, e, tv, r⟩
theorem NPileAt.len {H : Hp} {p : Addr} {vs : List V} {S : List NT} (h : NPileAt H p vs S) : vs.length = S.length := by rw [Paired.length h.2, List.length_reverse]
theorem nameds_kp {H H' : Hp} {p : Addr} {vs : List V} {us : List V} {S : List NT} (q : Paired (NamedAt H) us S) (k : Keep [p] H H') (h : H p = some (.lst vs)) : Paired (NamedAt H') us S := nameds_mono q (keep1_tups k h)
section
variable {P : Program} {w : World} {K : PySem.W.Frag} {mg : Str → Option Value} {base : Heap}
seal L2.PE L2.PA L2.PT L2.PS L2.PSs L2.PW L2.PG L2.PGs L2.PI L2.PO L2.OpR L2.UnR L2.CallR L2.TruR L2.IxR L2.SlR
abbrev s__law_counted : Stmt := top 12
theorem sc__law_counted : FnScope ["_law_term", "_law_row", "_law_todo", "_law_part", "_law_words", "_law_pile", "_law_made", "_law_other"] ["_law_term"] (defScope s__law_counted) := ⟨rfl, rfl, rfl, by decide +kernel, rfl, by decide +kernel, by decide +kernel⟩
inductive Sp_countedI (vs : List V) (H : Hp) (Q : VK) : Prop where
  | mk (v : V) (t : NT) (c1 : vs = [v]) (c2 : NamedAt H v t) (c3 : t.size ≤ 100000) (c4 : ∀ v' H', Same H H' → TermAt H' v' t.numbered → Q v' H')
def sp_counted : Sp := fun vs H Q _ => Sp_countedI vs H Q
inductive InvCt1 (H : Hp) (v : V) (t : NT) (f d : Addr) (m : Nat) (σ : L2.St) (H' : Hp) : Prop where
  | mk (its : List (NT × List Str)) (xs fs : List V) (ps : List (NT × List Str)) (x3 x4 : Option V) (c1 : σ = [some v, some (.ref f), some (.ref d), x3, x4, none, none, none]) (c2 : Same H H') (c3 : H' f = some (.lst fs)) (c4 : H' d = some (.lst xs)) (c5 : Paired (ItmN [f, d] H') xs its) (c6 : Paired (ItmN [f, d] H') fs ps) (c7 : ps ++ pendM its = t.lparts []) (c8 : m = sizesQ its) (c9 : sizesQ its ≤ t.size) (c10 : ∀ q ∈ its, q.2.length + q.1.size ≤ t.size)
inductive InvCt2 (H : Hp) (v : V) (t : NT) (f d p : Addr) (rs : List V) (i : Nat) (σ : L2.St) (H' : Hp) : Prop where
  | mk (vs : List V) (S : List Tm) (x3 x4 x6 x7 : Option V) (c1 : σ = [some v, some (.ref f), some (.ref d), x3, x4, some (.ref p), x6, x7]) (c2 : Same H H') (c3 : PileAt H' p vs S) (c4 : H' f = some (.lst rs)) (c5 : Paired (ItmN [p] H') rs (t.lparts [])) (c6 : S.length ≤ i) (c7 : runM byNum ((t.lparts []).reverse.drop i) S = some [t.numbered])
theorem ok__law_counted {f : Addr} {fd : FuncData} (F : Fun K "_law_counted" "_law_counted" s__law_counted f fd) (N_ : NoNames mg) : FnOk P w K mg base CX0 1 f fd ["_law_term"] sp_counted := by
  refine F.ok sc__law_counted (fun vs H Q E h => ?_) (fun cdv A outer s H vs Q E hr h => ?_)
  · obtain ⟨v, t, rfl, _⟩ := h
    rfl
  · obtain ⟨v, t, rfl, ht, hsz, k⟩ := h
    have hu0 := hr.units0
    refine ⟨_, (pss_cons (ps_set (i := 1) sc__law_counted.nd rfl (Or.inl rfl) (pLst pa_nil))
      (pss_cons (ps_set (i := 2) sc__law_counted.nd rfl (Or.inl rfl) (pLst (pa_c (pTup (pa_c (pv 0) (pa_c (pLst pa_nil) pa_nil))) pa_nil)))
      (pss_cons (ps_while PassesOwn.never (pt_cmpR (op_neNil hu0) (pv 2) (pLst pa_nil) (nomark _)) (pss_cons (ps_asg (pPop (pv 2)) (pg_tup rfl (pgs_cons (pg_name (i := 3) sc__law_counted.nd rfl (Or.inl rfl)) (pgs_cons (pg_name (i := 4) sc__law_counted.nd rfl (Or.inl rfl)) pgs_nil))))
      (pss_cons (ps_expr (pApp (pv 1) (pTup (pa_c (pv 3) (pa_c (pv 4) pa_nil)))))
      (pss_cons (ps_if (pt_cmpR op_eq (pe_ix ix_tup (pv 3) pe_int (fun _ _ => rfl)) pe_str (nomark _)) (pss_one (ps_expr (pApp (pv 2) (pTup (pa_c (pe_ix ix_tup (pv 3) pe_int (fun _ _ => rfl)) (pa_c (pe_op op_ct (pLst (pa_c (pe_ix ix_tup (pv 3) pe_int (fun _ _ => rfl)) pa_nil)) (pv 4)) pa_nil)))))) pss_nil)
      (pss_one (ps_if (pt_cmpR op_eq (pe_ix ix_tup (pv 3) pe_int (fun _ _ => rfl)) pe_str (nomark _)) (pss_cons (ps_expr (pApp (pv 2) (pTup (pa_c (pe_ix ix_tup (pv 3) pe_int (fun _ _ => rfl)) (pa_c (pv 4) pa_nil)))))
      (pss_one (ps_expr (pApp (pv 2) (pTup (pa_c (pe_ix ix_tup (pv 3) pe_int (fun _ _ => rfl)) (pa_c (pv 4) pa_nil))))))) pss_nil))))))
      (pss_cons (ps_set (i := 5) sc__law_counted.nd rfl (Or.inl rfl) (pLst pa_nil))
      (pss_cons (ps_for PassesOwn.never rfl (pi_rev rfl N_.reversed (pv 1)) (pg_tup rfl (pgs_cons (pg_name (i := 3) sc__law_counted.nd rfl (Or.inl rfl)) (pgs_cons (pg_name (i := 4) sc__law_counted.nd rfl (Or.inl rfl)) pgs_nil))) (pss_cons (ps_set (i := 6) sc__law_counted.nd rfl (Or.inl rfl) (pv 3))
      (pss_cons (ps_if (pt_cmpR op_eq (pe_ix ix_tup (pv 3) pe_int (fun _ _ => rfl)) pe_str (nomark _)) (pss_one (ps_set (i := 6) sc__law_counted.nd rfl (Or.inl rfl) (pTup (pa_c pe_str (pa_c (pPop (pv 5)) pa_nil))))) (pss_one (ps_if (pt_cmpR op_eq (pe_ix ix_tup (pv 3) pe_int (fun _ _ => rfl)) pe_str (nomark _)) (pss_cons (ps_set (i := 7) sc__law_counted.nd rfl (Or.inl rfl) (pPop (pv 5)))
      (pss_one (ps_set (i := 6) sc__law_counted.nd rfl (Or.inl rfl) (pTup (pa_c pe_str (pa_c (pPop (pv 5)) (pa_c (pv 7) pa_nil))))))) (pss_one (ps_if (pt_cmpR op_in_txt (pe_ix ix_tup (pv 3) pe_int (fun _ _ => rfl)) (pv 4) rfl) (pss_one (ps_set (i := 6) sc__law_counted.nd rfl (Or.inl rfl) (pTup (pa_c pe_str (pa_c (pIdx (pv 4) (pe_ix ix_tup (pv 3) pe_int (fun _ _ => rfl))) pa_nil))))) pss_nil)))))
      (pss_one (ps_expr (pApp (pv 5) (pv 6)))))))
      (pss_one (ps_ret (pe_ix ix_list (pv 5) pe_int (fun _ _ => rfl))))))))), ?_⟩
    show (let V1_ : TS := _; let V2_ : TS := _; let V3_ : TS := _; let V4_ : TS := _; let V5_ : TS := tSeq _ V4_; let V6_ : TS := _; let V7_ : TS := tIfS _ V6_ _; let V8_ : TS := tIfS _ V5_ V7_; let V9_ : TS := tSeq (tIfS _ V3_ V8_) V2_; let V10_ : TS := tSeq _ V9_; let V11_ : TS := tSeq (tFor _ _ V10_) V1_; let V12_ : TS := tSeq _ V11_; let V13_ : TS := _; let V14_ : TS := tSeq _ V13_; let V15_ : TS := tIfS _ V14_ _; let V16_ : TS := _; let V17_ : TS := tSeq (tIfS _ V16_ _) V15_; let V18_ : TS := tSeq _ V17_; let V19_ : TS := tSeq _ V18_; let V20_ : TS := tSeq (tWhile _ V19_) V12_; let V21_ : TS := tSeq _ V20_; tSeq _ V21_ _ _ _)
    intro V1_ V2_ V3_ V4_ V5_ V6_ V7_ V8_ V9_ V10_ V11_ V12_ V13_ V14_ V15_ V16_ V17_ V18_ V19_ V20_ V21_
    refine ⟨small' (by simp), fun f H1 nf s1 hf1 => ⟨_, rfl, small' (by simp), fun pl H2 npl s2 hpl2 => ⟨small' (by simp), fun q H3 nq s3 hq3 => ⟨small' (by simp), fun d H4 nd s4 hd4 => ?_⟩⟩⟩⟩
    have s04 : Same H H4 := ((s1.trans s2).trans s3).trans s4
    have hf4 : H4 f = some (.lst []) := s4 _ _ (s3 _ _ (s2 _ _ hf1))
    have nfd : f ≠ d := ne_of_none (s3 _ _ (s2 _ _ hf1)) nd
    have hpl3 := s3 _ _ hpl2
    have n_f : H f = none := nf
    have n_d : H d = none := (s1.trans (s2.trans s3)).free nd
    have nL : ∀ x ∈ [f, d], H x = none := fun x hx => by
      rcases List.mem_cons.mp hx with e | hx
      · rw [e]; exact n_f
      · rw [List.mem_singleton.mp hx]; exact n_d
    have plf : pl ≠ f := (ne_of_none hf1 npl).symm
    have pld : pl ≠ d := ne_of_none hpl3 nd
    refine ⟨InvCt1 H v t f d, ⟨sizesQ [(t, [])], ?_⟩, ?_⟩
    · refine ⟨[(t, [])], [.ref q], [], [], none, none, rfl, s04, hf4, hd4, .cons ⟨q, v, .ref pl, rfl, s4 _ _ hq3, ht.same s04, pl, rfl, by simp [plf, pld], s4 _ _ hpl3⟩ .nil, .nil, ?_, rfl, ?_, ?_⟩
      · show [] ++ (t.lparts [] ++ []) = _
        rw [List.append_nil, List.nil_append]
      · show t.size + 0 ≤ t.size
        omega
      · intro q hq
        rw [List.mem_singleton.mp hq]
        show 0 + t.size ≤ t.size
        omega
    · rintro m σ H5 ⟨its, xs, fs, ps, x3, x4, rfl, s5, hf5, hd5, hit, hps, heq, rfl, hsum, hall⟩
      refine ⟨_, rfl, small' (by simp), fun e0 H5' ne0 s5' he0 => ⟨_, _, _, rfl, rfl, SqL.of (s5' _ _ hd5), SqL.of he0, _, rfl, ?_⟩⟩
      have hf5' := s5' _ _ hf5
      have hd5' := s5' _ _ hd5
      have K5 : Keep [f, d] H5 H5' := Keep.of_same s5'
      have hL0 := lists2 hf5 hd5
      have hit := paired_imp (fun a b h => ItmN.keep h K5 hL0) hit
      have hps := paired_imp (fun a b h => ItmN.keep h K5 hL0) hps
      have s5 := s5.trans s5'
      clear hf5 hd5 hL0 K5
      by_cases hnil : its = []
      · subst hnil
        cases paired_nil hit
        have e : ps = t.lparts [] := by
          rw [← heq]
          unfold pendM
          simp
        subst e
        clear heq hsum hall
        refine iteF ?_
        refine ⟨small' (by simp), fun p H6 np s6 hp6 => ?_⟩
        have n_p : H p = none := s5.free np
        have hr6 := paired_imp (fun _ _ z => ItmN.fresh z s6 np) hps
        have hf6 := s6 _ _ hf5'
        have npf : p ≠ f := (ne_of_none hf5' np).symm
        clear hps hit
        have hlen : fs.length = t.size := by rw [Paired.length hr6, nlparts_len]
        refine ⟨_, rfl, f, fs, rfl, SqL.of hf6, for_rev (K := K) (a := f) (xs := fs) (InvCt2 H v t f d p fs) ?_ ?_ ?_ ?_⟩
        · exact ⟨[], [], _, _, _, _, rfl, s5.trans s6, ⟨hp6, .nil⟩, hf6, hr6, Nat.le_refl _, runM_all t []⟩
        · rintro i σ H' _ ⟨_, _, _, _, _, _, _, _, _, h, _⟩
          exact SqL.of h
        · rintro i x σ H3 hi ⟨vs, S, x3, x4, x6, x7, rfl, s3, hp3, hf3, hr3, hS, hrun⟩
          obtain ⟨⟨t1, k1⟩, hi2, a, tv, wv, rfl, ha, htv, hwv⟩ := paired_get (paired_rev hr3) hi
          have htv : NamedAt H3 tv t1 := htv
          obtain ⟨l, rfl, nlp, hl⟩ : LsN [p] H3 wv k1 := hwv
          have hlt : i < t.size := by
            have := (List.getElem?_eq_some_iff.mp hi).1
            rw [List.length_reverse] at this
            omega
          have hd : (t.lparts []).reverse.drop i = (t1, k1) :: (t.lparts []).reverse.drop (i + 1) := by
            rw [List.drop_eq_getElem_cons (List.getElem?_eq_some_iff.mp hi2).1, (List.getElem?_eq_some_iff.mp hi2).2]
          rw [hd] at hrun
          refine ⟨a, _, rfl, SqT.of ha, rfl, _, _, rfl, _, _, rfl, rfl, ?_⟩
          refine ⟨_, rfl, ?_⟩
          have hL3 : Lists [p] H3 := fun x hx => ⟨vs, by rw [List.mem_singleton.mp hx]; exact hp3.1⟩
          -- pile.append(made)
          have fin : ∀ {H7 : Hp} {vs7 : List V} {S7 : List Tm} {u : V} {y : Tm} {x7 : Option V}, Keep [p] H3 H7 → H7 p = some (.lst vs7) → Paired (TermAt H7) vs7 S7.reverse → TermAt H7 u y → S7.length ≤ i → runM byNum ((t.lparts []).reverse.drop (i + 1)) (y :: S7) = some [t.numbered] →
              ∀ H8, Keep [p] H7 H8 → H8 p = some (.lst (vs7 ++ [u])) → InvCt2 H v t f d p fs (i + 1) [some v, some (.ref f), some (.ref d), some tv, some (.ref l), some (.ref p), some u, x7] H8 := by
            intro H7 vs7 S7 u y x7 k7 hp7 q7 hu hS7 hrun7 H8 k8 hp8
            have k38 := k7.trans k8
            refine ⟨_, y :: S7, _, _, _, _, rfl, same_keep1 s3 k38 n_p, ⟨hp8, ?_⟩, k38.at hf3 npf.symm, paired_imp (fun _ _ z => ItmN.keep z k38 hL3) hr3, by rw [List.length_cons]; omega, hrun7⟩
            rw [List.reverse_cons]
            exact paired_snoc (hu.mono (keep1_tups k8 hp7)) (terms_kp q7 k8 hp7)
          cases htv with
          | @name a1 w1 h =>
            refine ⟨_, rfl, _, _, _, _, rfl, rfl, SqT.of h, at0, rfl, _, rfl, ifF n_nf ⟨_, rfl, _, _, _, _, rfl, rfl, SqT.of h, at0, rfl, _, rfl, ifF n_nc ⟨_, rfl, _, _, _, _, rfl, rfl, SqT.of h, at1, _, rfl, l, k1, w1, rfl, rfl, hl, _, rfl, ifD (fun hin => ?_) (fun hout => ?_)⟩⟩⟩
            · refine ⟨_, rfl, Or.inl ⟨rfl, _, SqL.of hl⟩, _, rfl, _, _, _, _, rfl, rfl, SqT.of h, at1, l, k1, w1, rfl, rfl, hl, hin, small' (by show 2 ≤ 1000000; decide), fun b9 H9 n9 s9 h9 => ?_⟩
              have hp9 := s9 _ _ hp3.1
              refine ⟨_, rfl, Or.inl ⟨rfl, _, SqL.of hp9⟩, _, rfl, _, _, _, rfl, rfl, hp9, small (by have := hp3.len; omega), fun H8 k8 hp8 => ?_⟩
              refine fin (Keep.of_same s9) hp9 (paired_imp (fun _ _ q => q.same s9) hp3.2) (.place (n := k1.idxOf w1) h9) hS ?_ H8 k8 hp8
              rw [← byNum_in hin]
              exact hrun
            · refine ⟨_, rfl, Or.inl ⟨rfl, _, SqL.of hp3.1⟩, _, rfl, _, _, _, rfl, rfl, hp3.1, small (by have := hp3.len; omega), fun H8 k8 hp8 => ?_⟩
              refine fin (Keep.refl _ _) hp3.1 hp3.2 (.name h) hS ?_ H8 k8 hp8
              rw [← byNum_out hout]
              exact hrun
          | @form a1 fw bv b h hb =>
            obtain ⟨x, S', rfl, hrun⟩ := runM_form hrun
            obtain ⟨vs', u, rfl, hu, hv'⟩ := hp3.pop
            refine ⟨_, rfl, _, _, _, _, rfl, rfl, SqT.of h, at0, rfl, _, rfl, ifT rfl ?_⟩
            refine ⟨_, rfl, Or.inl ⟨rfl, _, SqL.of hp3.1⟩, p, vs', u, rfl, rfl, hp3.1, fun H6 k6 hp6 => ⟨small' (by show 2 ≤ 1000000; decide), fun b9 H9 n9 s9 h9 => ?_⟩⟩
            have hp9 := s9 _ _ hp6
            have k39 := k6.trans (Keep.of_same s9)
            have ln := hp3.len
            rw [List.length_append, List.length_singleton, List.length_cons] at ln
            rw [List.length_cons] at hS
            refine ⟨_, rfl, Or.inl ⟨rfl, _, SqL.of hp9⟩, _, rfl, _, _, _, rfl, rfl, hp9, small (by omega), fun H8 k8 hp8 => ?_⟩
            exact fin k39 hp9 (terms_kp hv' k39 hp3.1) (.form h9 (hu.mono (keep1_tups k39 hp3.1))) (by omega) hrun H8 k8 hp8
          | @call a1 xv yv x y h hx hy =>
            obtain ⟨y, x, S', rfl, hrun⟩ := runM_call hrun
            obtain ⟨vs1, u, rfl, hu, hv1⟩ := hp3.pop
            refine ⟨_, rfl, _, _, _, _, rfl, rfl, SqT.of h, at0, rfl, _, rfl, ifF n_cf ⟨_, rfl, _, _, _, _, rfl, rfl, SqT.of h, at0, rfl, _, rfl, ifT rfl ?_⟩⟩
            refine ⟨_, rfl, Or.inl ⟨rfl, _, SqL.of hp3.1⟩, p, vs1, u, rfl, rfl, hp3.1, fun H6 k6 hp6 => ?_⟩
            have P6 : PileAt H6 p vs1 (x :: S') := ⟨hp6, terms_kp hv1 k6 hp3.1⟩
            obtain ⟨vs', z, rfl, hz, hv'⟩ := P6.pop
            refine ⟨_, rfl, Or.inl ⟨rfl, _, SqL.of hp6⟩, p, vs', z, rfl, rfl, hp6, fun H7 k7 hp7 => ⟨_, rfl, small' (by show 3 ≤ 1000000; decide), fun b9 H9 n9 s9 h9 => ?_⟩⟩
            have hp9 := s9 _ _ hp7
            have k69 := k7.trans (Keep.of_same s9)
            have k39 := k6.trans k69
            have ln := hp3.len
            rw [List.length_append, List.length_append, List.length_singleton, List.length_singleton, List.length_cons, List.length_cons] at ln
            rw [List.length_cons, List.length_cons] at hS
            refine ⟨_, rfl, Or.inl ⟨rfl, _, SqL.of hp9⟩, _, rfl, _, _, _, rfl, rfl, hp9, small (by omega), fun H8 k8 hp8 => ?_⟩
            exact fin k39 hp9 (terms_kp hv' k69 hp6) (.call h9 (hz.mono (keep1_tups k69 hp6)) (hu.mono (keep1_tups k39 hp3.1))) (by omega) hrun H8 k8 hp8
        · rintro σ H3 ⟨vs, S, x3, x4, x6, x7, rfl, s3, hp3, hf3, hr3, hS, hrun⟩
          rw [List.drop_eq_nil_of_le (by rw [List.length_reverse, nlparts_len, hlen]; exact Nat.le_refl _)] at hrun
          cases (Option.some.inj hrun)
          obtain ⟨vs', u, rfl, hu, hv'⟩ := hp3.pop
          cases paired_nil hv'
          exact ⟨_, rfl, _, _, _, _, rfl, rfl, SqL.of hp3.1, at0, k u H3 s3 hu⟩
      · obtain ⟨its', ⟨t1, p1⟩, rfl⟩ := snoc_of hnil
        obtain ⟨xs', x, rfl, hit', a, tv, wv, rfl, ha, htv, hwv⟩ := paired_snoc_inv hit
        have htv : NamedAt H5' tv t1 := htv
        have hwv : LsN [f, d] H5' wv p1 := hwv
        rw [show (if true = true then !(xs' ++ [V.ref a]).isEmpty else (xs' ++ [V.ref a]).isEmpty) = true by simp]
        refine iteT ⟨fun σ' H' => ∃ m', m' < sizesQ (its' ++ [(t1, p1)]) ∧ InvCt1 H v t f d m' σ' H', fun _ _ h => h, ?_⟩
        refine ⟨_, rfl, Or.inl ⟨rfl, _, SqL.of hd5'⟩, d, xs', .ref a, rfl, rfl, hd5', fun H6 k6 hd6 => ?_⟩
        have hL := lists2 hf5' hd5'
        have K6 : Keep [f, d] H5' H6 := k6.sub (by simp)
        have tu6 := K6.tups hL
        have ha6 := tu6 _ _ ha
        have htv6 := htv.mono tu6
        obtain ⟨l, rfl, nl, hl6⟩ := hwv.keep K6
        have hf6 : H6 f = some (.lst fs) := k6.at hf5' nfd
        have s6 : Same H H6 := same_keep s5 K6 nL
        have it6 := paired_imp (fun a b h => ItmN.keep h K6 hL) hit'
        have ps6 := paired_imp (fun a b h => ItmN.keep h K6 hL) hps
        have hL6 := lists2 hf6 hd6
        rw [pendM_snoc] at heq
        rw [sizesQ_snoc] at hsum
        rw [sizesQ_snoc]
        have hall' : ∀ q ∈ its', q.2.length + q.1.size ≤ t.size := fun q hq => hall q (List.mem_append_left _ hq)
        have hq1 : p1.length + t1.size ≤ t.size := hall (t1, p1) (by simp)
        have hs1 : sizesQ its' + t1.size ≤ t.size := hsum
        have hxl : xs'.length ≤ t.size := by
          rw [Paired.length it6]
          have := len_sizesQ its'
          omega
        have hfl : fs.length ≤ t.size := by
          rw [Paired.length ps6]
          have h1 := congrArg List.length heq
          rw [List.length_append, nlparts_len] at h1
          omega
        refine ⟨a, _, rfl, SqT.of ha6, rfl, _, _, rfl, _, _, rfl, rfl, ?_⟩
        have heq : ps ++ (t1.lparts p1 ++ pendM its') = t.lparts [] := heq
        -- row.append((part, words))
        refine ⟨_, rfl, Or.inl ⟨rfl, _, SqL.of hf6⟩, _, rfl, _, rfl, small' (by show 2 ≤ 1000000; decide), fun r7 H6a n7 s7a h7 => ⟨_, _, _, rfl, rfl, s7a _ _ hf6, small (by omega), fun H7 k7 hf7 => ?_⟩⟩
        have K7 : Keep [f, d] H6 H7 := (Keep.of_same s7a).trans (k7.sub (by simp))
        have hd7 : H7 d = some (.lst xs') := k7.at (s7a _ _ hd6) nfd.symm
        have tu7 := K7.tups hL6
        have htv7 := htv6.mono tu7
        have hl7 := K7 _ _ nl hl6
        have s7 : Same H H7 := same_keep s6 K7 nL
        have it7 := paired_imp (fun a b h => ItmN.keep h K7 hL6) it6
        have ps7 := paired_snoc (x := V.ref r7) (y := (t1, p1)) ⟨r7, tv, .ref l, rfl, k7.tup1 (s7a _ _ hf6) _ _ h7, htv7, l, rfl, nl, hl7⟩ (paired_imp (fun a b h => ItmN.keep h K7 hL6) ps6)
        have hL7 := lists2 hf7 hd7
        clear htv6
        cases htv7 with
        | name h =>
          refine ⟨_, rfl, _, _, _, _, rfl, rfl, SqT.of h, at0, rfl, _, rfl, ifF n_nf ⟨_, rfl, _, _, _, _, rfl, rfl, SqT.of h, at0, rfl, _, rfl, ifF n_nc ?_⟩⟩
          refine ⟨_, by show sizesQ its' < sizesQ its' + 1; omega, its', xs', _, _, _, _, rfl, s7, hf7, hd7, it7, ps7, ?_, rfl, by omega, hall'⟩
          rw [List.append_assoc]; exact heq
        | @form a1 fw bv b h hb =>
          have hbs : NT.size (.form fw b) = b.size + 1 := rfl
          refine ⟨_, rfl, _, _, _, _, rfl, rfl, SqT.of h, at0, rfl, _, rfl, ifT rfl ?_⟩
          refine ⟨_, rfl, Or.inl ⟨rfl, _, SqL.of hd7⟩, _, rfl, _, _, _, _, rfl, rfl, SqT.of h, at2, _, rfl, _, _, _, _, rfl, rfl, SqT.of h, at1, small' (by show 1 ≤ 1000000; decide), fun b7 H8 n8 s8 h8 => ⟨_, rfl, _, _, _, _, rfl, rfl, h8, s8 _ _ hl7, small' (by rw [List.length_map]; show 1 + p1.length ≤ _; omega), fun b8 H8b n8b s8b h8b => ⟨small' (by show 2 ≤ 1000000; decide), fun b9 H9 n9 s9' h9 => ⟨_, _, _, rfl, rfl, s9' _ _ (s8b _ _ (s8 _ _ hd7)), small (by omega), fun H10 k10 hd10 => ?_⟩⟩⟩⟩
          have s9 := (s8.trans s8b).trans s9'
          have K10 : Keep [f, d] H7 H10 := (Keep.of_same s9).trans (k10.sub (by simp))
          have tu10 := K10.tups hL7
          have n8f : b8 ≠ f := (ne_of_none (s8 _ _ hf7) n8b).symm
          have n8d : b8 ≠ d := (ne_of_none (s8 _ _ hd7) n8b).symm
          refine ⟨_, rfl, _, _, _, _, rfl, rfl, SqT.of (tu10 _ _ h), at0, rfl, _, rfl, ifF n_fc ?_⟩
          refine ⟨_, ?_, its' ++ [(b, fw :: p1)], _, _, _, _, _, rfl, same_keep s7 K10 nL, k10.at (s9 _ _ hf7) nfd, hd10, paired_snoc ⟨b9, bv, .ref b8, rfl, k10.tup1 (s9 _ _ hd7) _ _ h9, hb.mono tu10, b8, rfl, by simp [n8f, n8d], k10.at (s9' _ _ h8b) n8d⟩ (paired_imp (fun a b h => ItmN.keep h K10 hL7) it7), paired_imp (fun a b h => ItmN.keep h K10 hL7) ps7, ?_, rfl, ?_, fun q hq => ?_⟩
          · rw [sizesQ_snoc]; show sizesQ its' + b.size < sizesQ its' + (b.size + 1); omega
          · rw [pendM_snoc, List.append_assoc]; exact heq
          · rw [sizesQ_snoc]; show sizesQ its' + b.size ≤ t.size; omega
          · rcases List.mem_append.mp hq with hq | hq
            · exact hall' q hq
            · rw [List.mem_singleton.mp hq]; show p1.length + 1 + b.size ≤ t.size; omega
        | @call a1 xv yv x y h hx hy =>
          have hcs : NT.size (.call x y) = x.size + y.size + 1 := rfl
          refine ⟨_, rfl, _, _, _, _, rfl, rfl, SqT.of h, at0, rfl, _, rfl, ifF n_cf ⟨_, rfl, _, _, _, _, rfl, rfl, SqT.of h, at0, rfl, _, rfl, ifT rfl ?_⟩⟩
          refine ⟨_, rfl, Or.inl ⟨rfl, _, SqL.of hd7⟩, _, rfl, _, _, _, _, rfl, rfl, SqT.of h, at1, _, rfl, small' (by show 2 ≤ 1000000; decide), fun b9 H9 n9 s9 h9 => ⟨_, _, _, rfl, rfl, s9 _ _ hd7, small (by omega), fun H10 k10 hd10 => ?_⟩⟩
          have K10 : Keep [f, d] H7 H10 := (Keep.of_same s9).trans (k10.sub (by simp))
          have tu10 := K10.tups hL7
          have hf10 := k10.at (s9 _ _ hf7) nfd
          have hL10 := lists2 hf10 hd10
          have hl10 := K10 _ _ nl hl7
          have it10 := paired_snoc (x := V.ref b9) (y := (x, p1)) ⟨b9, xv, .ref l, rfl, k10.tup1 (s9 _ _ hd7) _ _ h9, hx.mono tu10, l, rfl, nl, hl10⟩ (paired_imp (fun a b h => ItmN.keep h K10 hL7) it7)
          refine ⟨_, rfl, Or.inl ⟨rfl, _, SqL.of hd10⟩, _, rfl, _, _, _, _, rfl, rfl, SqT.of (tu10 _ _ h), at2, _, rfl, small' (by show 2 ≤ 1000000; decide), fun c9 H11 m9 s11 g9 => ⟨_, _, _, rfl, rfl, s11 _ _ hd10, small (by rw [List.length_append, List.length_singleton]; omega), fun H12 k12 hd12 => ?_⟩⟩
          have K12 : Keep [f, d] H10 H12 := (Keep.of_same s11).trans (k12.sub (by simp))
          have tu12 := K12.tups hL10
          refine ⟨_, ?_, (its' ++ [(x, p1)]) ++ [(y, p1)], _, _, _, _, _, rfl, same_keep s7 (K10.trans K12) nL, k12.at (s11 _ _ hf10) nfd, hd12, paired_snoc ⟨c9, yv, .ref l, rfl, k12.tup1 (s11 _ _ hd10) _ _ g9, (hy.mono tu10).mono tu12, l, rfl, nl, K12 _ _ nl hl10⟩ (paired_imp (fun a b h => ItmN.keep h K12 hL10) it10), paired_imp (fun a b h => ItmN.keep (ItmN.keep h K10 hL7) K12 hL10) ps7, ?_, rfl, ?_, fun q hq => ?_⟩
          · rw [sizesQ_snoc, sizesQ_snoc]; show sizesQ its' + x.size + y.size < sizesQ its' + (x.size + y.size + 1); omega
          · rw [pendM_snoc, pendM_snoc, List.append_assoc]
            show ps ++ ((.call x y, p1) :: (y.lparts p1 ++ (x.lparts p1 ++ pendM its'))) = _
            rw [← heq]
            show _ = ps ++ ((.call x y, p1) :: (y.lparts p1 ++ x.lparts p1) ++ pendM its')
            simp
          · rw [sizesQ_snoc, sizesQ_snoc]; show sizesQ its' + x.size + y.size ≤ _; omega
          · rcases List.mem_append.mp hq with hq | hq
            · rcases List.mem_append.mp hq with hq | hq
              · exact hall' q hq
              · rw [List.mem_singleton.mp hq]; show p1.length + x.size ≤ t.size; omega
            · rw [List.mem_singleton.mp hq]; show p1.length + y.size ≤ t.size; omega
abbrev s__law_reworded : Stmt := top 14
theorem sc__law_reworded : FnScope ["_law_term", "_law_signs", "_law_way", "_law_spot", "_law_row", "_law_todo", "_law_part", "_law_words", "_law_pile", "_law_count", "_law_made", "_law_odd", "_law_other"] ["_law_term", "_law_signs", "_law_way", "_law_spot"] (defScope s__law_reworded) := ⟨rfl, rfl, rfl, by decide +kernel, rfl, by decide +kernel, by decide +kernel⟩
inductive Sp_rewordedI (vs : List V) (H : Hp) (Q : VK) : Prop where
  | mk (v : V) (t : NT) (sg : Str) (wy sp : Int) (c1 : vs = [v, .str sg, .int wy, .int sp]) (c2 : NamedAt H v t) (c3 : t.size ≤ 100000) (c4 : sg.cps.toList.length = 20) (c5 : 0 ≤ wy) (c6 : wy ≤ 2) (c7 : ∀ v' H' (r : NT), Same H H' → NamedAt H' v' r → r.size = t.size → Q v' H')
def sp_reworded : Sp := fun vs H Q _ => Sp_rewordedI vs H Q
inductive InvRw1 (H : Hp) (v u1 u2 u3 : V) (t : NT) (f d : Addr) (m : Nat) (σ : L2.St) (H' : Hp) : Prop where
  | mk (its : List (NT × List Str)) (xs fs : List V) (ps : List (NT × List Str)) (x3 x4 : Option V) (c1 : σ = [some v, some u1, some u2, some u3, some (.ref f), some (.ref d), x3, x4, none, none, none, none, none]) (c2 : Same H H') (c3 : H' f = some (.lst fs)) (c4 : H' d = some (.lst xs)) (c5 : Paired (ItmN [f, d] H') xs its) (c6 : Paired (ItmN [f, d] H') fs ps) (c7 : ps ++ pendM its = t.lparts []) (c8 : m = sizesQ its) (c9 : sizesQ its ≤ t.size) (c10 : ∀ q ∈ its, q.2.length + q.1.size ≤ t.size)
inductive InvRw2 (H : Hp) (v u1 u2 u3 : V) (t : NT) (f d p : Addr) (rs : List V) (i : Nat) (σ : L2.St) (H' : Hp) : Prop where
  | mk (vs : List V) (S : List NT) (x3 x4 x6 x7 x8 : Option V) (c1 : σ = [some v, some u1, some u2, some u3, some (.ref f), some (.ref d), x3, x4, some (.ref p), some (.int (i : Int)), x6, x7, x8]) (c2 : Same H H') (c3 : NPileAt H' p vs S) (c4 : H' f = some (.lst rs)) (c5 : Paired (ItmN [p] H') rs (t.lparts [])) (c6 : S.length ≤ i) (c7 : runM gSh ((t.lparts []).reverse.drop i) (S.map NT.shape) = some [t.num gSh []])
theorem at_sign {sg : Str} (h : sg.cps.toList.length = 20) (k : Int) : ∃ c, atI sg.cps.toList (k % 20) = some c := by
  have e : k % 20 = (((k % 20).toNat : Nat) : Int) := by omega
  rw [e]
  have hlt : (k % 20).toNat < sg.cps.toList.length := by omega
  exact ⟨_, atI_nat (List.getElem?_eq_getElem hlt)⟩
theorem at_bool {x y : V} (b : Bool) : ∃ z, atI [x, y] (if b = true then 1 else 0) = some z ∧ (z = x ∨ z = y) := by
  cases b with
  | false => exact ⟨x, at0, .inl rfl⟩
  | true => exact ⟨y, at1, .inr rfl⟩
theorem ok__law_reworded {f : Addr} {fd : FuncData} (F : Fun K "_law_reworded" "_law_reworded" s__law_reworded f fd) (N_ : NoNames mg) : FnOk P w K mg base CX0 1 f fd ["_law_term", "_law_signs", "_law_way", "_law_spot"] sp_reworded := by
  refine F.ok sc__law_reworded (fun vs H Q E h => ?_) (fun cdv A outer s H vs Q E hr h => ?_)
  · obtain ⟨v, t, sg, wy, sp, rfl, _⟩ := h
    rfl
  · obtain ⟨v, t, sg, wy, sp, rfl, ht, hsz, hsg, hw0, hw2, k⟩ := h
    have hu0 := hr.units0
    refine ⟨_, (pss_cons (ps_set (i := 4) sc__law_reworded.nd rfl (Or.inl rfl) (pLst pa_nil))
      (pss_cons (ps_set (i := 5) sc__law_reworded.nd rfl (Or.inl rfl) (pLst (pa_c (pTup (pa_c (pv 0) (pa_c (pLst pa_nil) pa_nil))) pa_nil)))
      (pss_cons (ps_while PassesOwn.never (pt_cmpR (op_neNil hu0) (pv 5) (pLst pa_nil) (nomark _)) (pss_cons (ps_asg (pPop (pv 5)) (pg_tup rfl (pgs_cons (pg_name (i := 6) sc__law_reworded.nd rfl (Or.inl rfl)) (pgs_cons (pg_name (i := 7) sc__law_reworded.nd rfl (Or.inl rfl)) pgs_nil))))
      (pss_cons (ps_expr (pApp (pv 4) (pTup (pa_c (pv 6) (pa_c (pv 7) pa_nil)))))
      (pss_cons (ps_if (pt_cmpR op_eq (pe_ix ix_tup (pv 6) pe_int (fun _ _ => rfl)) pe_str (nomark _)) (pss_one (ps_expr (pApp (pv 5) (pTup (pa_c (pe_ix ix_tup (pv 6) pe_int (fun _ _ => rfl)) (pa_c (pe_op op_ct (pLst (pa_c (pe_ix ix_tup (pv 6) pe_int (fun _ _ => rfl)) pa_nil)) (pv 7)) pa_nil)))))) pss_nil)
      (pss_one (ps_if (pt_cmpR op_eq (pe_ix ix_tup (pv 6) pe_int (fun _ _ => rfl)) pe_str (nomark _)) (pss_cons (ps_expr (pApp (pv 5) (pTup (pa_c (pe_ix ix_tup (pv 6) pe_int (fun _ _ => rfl)) (pa_c (pv 7) pa_nil)))))
      (pss_one (ps_expr (pApp (pv 5) (pTup (pa_c (pe_ix ix_tup (pv 6) pe_int (fun _ _ => rfl)) (pa_c (pv 7) pa_nil))))))) pss_nil))))))
      (pss_cons (ps_set (i := 8) sc__law_reworded.nd rfl (Or.inl rfl) (pLst pa_nil))
      (pss_cons (ps_set (i := 9) sc__law_reworded.nd rfl (Or.inl rfl) pe_int)
      (pss_cons (ps_for PassesOwn.never rfl (pi_rev rfl N_.reversed (pv 4)) (pg_tup rfl (pgs_cons (pg_name (i := 6) sc__law_reworded.nd rfl (Or.inl rfl)) (pgs_cons (pg_name (i := 7) sc__law_reworded.nd rfl (Or.inl rfl)) pgs_nil))) (pss_cons (ps_set (i := 10) sc__law_reworded.nd rfl (Or.inl rfl) (pv 6))
      (pss_cons (ps_set (i := 11) sc__law_reworded.nd rfl (Or.inl rfl) (pe_and (pe_cmpR op_gt (pv 2) pe_int (nomark _)) (pe_one (pe_cmpR op_eq (pv 9) (pe_op op_mod (pv 3) (pCB call_len_seq (by rfl) N_.len boot_len (pa_c (pv 4) pa_nil))) (nomark _)))))
      (pss_cons (ps_set (i := 9) sc__law_reworded.nd rfl (Or.inl rfl) (pe_op op_add (pv 9) pe_int))
      (pss_cons (ps_if (pt_cmpR op_eq (pe_ix ix_tup (pv 6) pe_int (fun _ _ => rfl)) pe_str (nomark _)) (pss_one (ps_set (i := 10) sc__law_reworded.nd rfl (Or.inl rfl) (pTup (pa_c pe_str (pa_c (pe_ix ix_list (pLst (pa_c (pe_ix ix_str (pv 1) (pe_op op_mod (pCB call_len_seq (by rfl) N_.len boot_len (pa_c (pv 7) pa_nil)) pe_int) (fun _ _ => rfl)) (pa_c pe_str pa_nil))) (pCT call_int1 (by rfl) N_.int boot_int (pa_c (pv 11) pa_nil)) (fun _ _ => rfl)) (pa_c (pPop (pv 8)) pa_nil)))))) (pss_one (ps_if (pt_cmpR op_eq (pe_ix ix_tup (pv 6) pe_int (fun _ _ => rfl)) pe_str (nomark _)) (pss_cons (ps_set (i := 12) sc__law_reworded.nd rfl (Or.inl rfl) (pPop (pv 8)))
      (pss_one (ps_set (i := 10) sc__law_reworded.nd rfl (Or.inl rfl) (pTup (pa_c pe_str (pa_c (pPop (pv 8)) (pa_c (pv 12) pa_nil))))))) (pss_one (ps_if (pt_truth (pv 11) (fun _ => rfl)) (pss_one (ps_set (i := 10) sc__law_reworded.nd rfl (Or.inl rfl) (pTup (pa_c pe_str (pa_c (pe_ix ix_list (pLst (pa_c pe_str (pa_c pe_str pa_nil))) (pe_op op_sub (pv 2) pe_int) (fun _ _ => rfl)) pa_nil))))) (pss_one (ps_if (pt_cmpR op_in_txt (pe_ix ix_tup (pv 6) pe_int (fun _ _ => rfl)) (pv 7) rfl) (pss_one (ps_set (i := 10) sc__law_reworded.nd rfl (Or.inl rfl) (pTup (pa_c pe_str (pa_c (pe_ix ix_str (pv 1) (pe_op op_mod (pe_op op_sub (pe_op op_sub (pCB call_len_seq (by rfl) N_.len boot_len (pa_c (pv 7) pa_nil)) pe_int) (pIdx (pv 7) (pe_ix ix_tup (pv 6) pe_int (fun _ _ => rfl)))) pe_int) (fun _ _ => rfl)) pa_nil))))) pss_nil)))))))
      (pss_one (ps_expr (pApp (pv 8) (pv 10)))))))))
      (pss_one (ps_ret (pe_ix ix_list (pv 8) pe_int (fun _ _ => rfl)))))))))), ?_⟩
    show (let V1_ : TS := _; let V2_ : TS := _; let V3_ : TS := _; let V4_ : TS := _; let V5_ : TS := tSeq _ V4_; let V6_ : TS := _; let V7_ : TS := _; let V8_ : TS := tIfS _ V7_ _; let V9_ : TS := tIfS _ V6_ V8_; let V10_ : TS := tIfS _ V5_ V9_; let V11_ : TS := tSeq (tIfS _ V3_ V10_) V2_; let V12_ : TS := tSeq _ V11_; let V13_ : TS := tSeq _ V12_; let V14_ : TS := tSeq _ V13_; let V15_ : TS := tSeq (tFor _ _ V14_) V1_; let V16_ : TS := tSeq _ V15_; let V17_ : TS := tSeq _ V16_; let V18_ : TS := _; let V19_ : TS := tSeq _ V18_; let V20_ : TS := tIfS _ V19_ _; let V21_ : TS := _; let V22_ : TS := tSeq (tIfS _ V21_ _) V20_; let V23_ : TS := tSeq _ V22_; let V24_ : TS := tSeq _ V23_; let V25_ : TS := tSeq (tWhile _ V24_) V17_; let V26_ : TS := tSeq _ V25_; tSeq _ V26_ _ _ _)
    intro V1_ V2_ V3_ V4_ V5_ V6_ V7_ V8_ V9_ V10_ V11_ V12_ V13_ V14_ V15_ V16_ V17_ V18_ V19_ V20_ V21_ V22_ V23_ V24_ V25_ V26_
    refine ⟨small' (by simp), fun f H1 nf s1 hf1 => ⟨_, rfl, small' (by simp), fun pl H2 npl s2 hpl2 => ⟨small' (by simp), fun q H3 nq s3 hq3 => ⟨small' (by simp), fun d H4 nd s4 hd4 => ?_⟩⟩⟩⟩
    have s04 : Same H H4 := ((s1.trans s2).trans s3).trans s4
    have hf4 : H4 f = some (.lst []) := s4 _ _ (s3 _ _ (s2 _ _ hf1))
    have nfd : f ≠ d := ne_of_none (s3 _ _ (s2 _ _ hf1)) nd
    have hpl3 := s3 _ _ hpl2
    have n_f : H f = none := nf
    have n_d : H d = none := (s1.trans (s2.trans s3)).free nd
    have nL : ∀ x ∈ [f, d], H x = none := fun x hx => by
      rcases List.mem_cons.mp hx with e | hx
      · rw [e]; exact n_f
      · rw [List.mem_singleton.mp hx]; exact n_d
    have plf : pl ≠ f := (ne_of_none hf1 npl).symm
    have pld : pl ≠ d := ne_of_none hpl3 nd
    refine ⟨InvRw1 H v (.str sg) (.int wy) (.int sp) t f d, ⟨sizesQ [(t, [])], ?_⟩, ?_⟩
    · refine ⟨[(t, [])], [.ref q], [], [], none, none, rfl, s04, hf4, hd4, .cons ⟨q, v, .ref pl, rfl, s4 _ _ hq3, ht.same s04, pl, rfl, by simp [plf, pld], s4 _ _ hpl3⟩ .nil, .nil, ?_, rfl, ?_, ?_⟩
      · show [] ++ (t.lparts [] ++ []) = _
        rw [List.append_nil, List.nil_append]
      · show t.size + 0 ≤ t.size
        omega
      · intro q hq
        rw [List.mem_singleton.mp hq]
        show 0 + t.size ≤ t.size
        omega
    · rintro m σ H5 ⟨its, xs, fs, ps, x3, x4, rfl, s5, hf5, hd5, hit, hps, heq, rfl, hsum, hall⟩
      refine ⟨_, rfl, small' (by simp), fun e0 H5' ne0 s5' he0 => ⟨_, _, _, rfl, rfl, SqL.of (s5' _ _ hd5), SqL.of he0, _, rfl, ?_⟩⟩
      have hf5' := s5' _ _ hf5
      have hd5' := s5' _ _ hd5
      have K5 : Keep [f, d] H5 H5' := Keep.of_same s5'
      have hL0 := lists2 hf5 hd5
      have hit := paired_imp (fun a b h => ItmN.keep h K5 hL0) hit
      have hps := paired_imp (fun a b h => ItmN.keep h K5 hL0) hps
      have s5 := s5.trans s5'
      clear hf5 hd5 hL0 K5
      by_cases hnil : its = []
      · subst hnil
        cases paired_nil hit
        have e : ps = t.lparts [] := by
          rw [← heq]
          unfold pendM
          simp
        subst e
        clear heq hsum hall
        refine iteF ?_
        refine ⟨small' (by simp), fun p H6 np s6 hp6 => ?_⟩
        have n_p : H p = none := s5.free np
        have hr6 := paired_imp (fun _ _ z => ItmN.fresh z s6 np) hps
        have hf6 := s6 _ _ hf5'
        have npf : p ≠ f := (ne_of_none hf5' np).symm
        clear hps hit
        have hlen : fs.length = t.size := by rw [Paired.length hr6, nlparts_len]
        have hfs0 : (0 : Int) < (fs.length : Nat) := by have := t.size_pos; omega
        refine ⟨_, rfl, f, fs, rfl, SqL.of hf6, for_rev (K := K) (a := f) (xs := fs) (InvRw2 H v (.str sg) (.int wy) (.int sp) t f d p fs) ?_ ?_ ?_ ?_⟩
        · exact ⟨[], [], _, _, _, _, _, rfl, s5.trans s6, ⟨hp6, .nil⟩, hf6, hr6, Nat.le_refl _, runM_all t []⟩
        · rintro i σ H' _ ⟨_, _, _, _, _, _, _, _, _, _, h, _⟩
          exact SqL.of h
        · rintro i x σ H3 hi ⟨vs, S, x3, x4, x6, x7, x8, rfl, s3, hp3, hf3, hr3, hS, hrun⟩
          obtain ⟨⟨t1, k1⟩, hi2, a, tv, wv, rfl, ha, htv, hwv⟩ := paired_get (paired_rev hr3) hi
          have htv : NamedAt H3 tv t1 := htv
          obtain ⟨l, rfl, nlp, hl⟩ : LsN [p] H3 wv k1 := hwv
          have hlt : i < t.size := by
            have := (List.getElem?_eq_some_iff.mp hi).1
            rw [List.length_reverse] at this
            omega
          have hd : (t.lparts []).reverse.drop i = (t1, k1) :: (t.lparts []).reverse.drop (i + 1) := by
            rw [List.drop_eq_getElem_cons (List.getElem?_eq_some_iff.mp hi2).1, (List.getElem?_eq_some_iff.mp hi2).2]
          rw [hd] at hrun
          refine ⟨a, _, rfl, SqT.of ha, rfl, _, _, rfl, _, _, rfl, rfl, ?_⟩
          refine ⟨_, rfl, ?_⟩
          have hL3 : Lists [p] H3 := fun x hx => ⟨vs, by rw [List.mem_singleton.mp hx]; exact hp3.1⟩
          have hi1 : ((i : Int) + 1) = ((i + 1 : Nat) : Int) := by omega
          -- pile.append(made)
          have fin : ∀ {H7 : Hp} {vs7 : List V} {S7 : List NT} {u : V} {y : NT} {x7 x8 : Option V}, Keep [p] H3 H7 → H7 p = some (.lst vs7) → Paired (NamedAt H7) vs7 S7.reverse → NamedAt H7 u y → S7.length ≤ i → runM gSh ((t.lparts []).reverse.drop (i + 1)) ((y :: S7).map NT.shape) = some [t.num gSh []] →
              ∀ H8, Keep [p] H7 H8 → H8 p = some (.lst (vs7 ++ [u])) → InvRw2 H v (.str sg) (.int wy) (.int sp) t f d p fs (i + 1) [some v, some (.str sg), some (.int wy), some (.int sp), some (.ref f), some (.ref d), some tv, some (.ref l), some (.ref p), some (.int ((i : Int) + 1)), some u, x7, x8] H8 := by
            intro H7 vs7 S7 u y x7 x8 k7 hp7 q7 hu hS7 hrun7 H8 k8 hp8
            have k38 := k7.trans k8
            refine ⟨_, y :: S7, _, _, _, _, _, by rw [hi1], same_keep1 s3 k38 n_p, ⟨hp8, ?_⟩, k38.at hf3 npf.symm, paired_imp (fun _ _ z => ItmN.keep z k38 hL3) hr3, by rw [List.length_cons]; omega, hrun7⟩
            rw [List.reverse_cons]
            exact paired_snoc (hu.mono (keep1_tups k8 hp7)) (nameds_kp q7 k8 hp7)
          have hl20 : (0 : Int) < 20 := by decide
          refine ⟨_, rfl, _, _, rfl, rfl, _, rfl, ifD (fun hpos => ⟨_, rfl, _, rfl, _, rfl, _, _, rfl, Or.inl (SqL.of hf3), _, _, rfl, rfl, hfs0, rfl, ?oA⟩) (fun hn => ?oB)⟩
          case oA | oB =>
            first
              | (have hodd : decide (V.int (i : Int) = V.int (sp % (fs.length : Nat))) = true → 0 < wy := fun _ => hpos
                 generalize decide (V.int (i : Int) = V.int (sp % (fs.length : Nat))) = b at hodd ⊢)
              | (rw [show V.bl false = V.bl (decide ((0 : Nat) = 1)) from rfl]
                 have hodd : decide ((0 : Nat) = 1) = true → 0 < wy := fun z => absurd (of_decide_eq_true z) (by decide)
                 generalize decide ((0 : Nat) = 1) = b at hodd ⊢)
            refine ⟨_, rfl, _, _, rfl, rfl, ?_⟩
            cases htv with
            | @name a1 w1 h =>
              refine ⟨_, rfl, _, _, _, _, rfl, rfl, SqT.of h, at0, rfl, _, rfl, ifF n_nf ⟨_, rfl, _, _, _, _, rfl, rfl, SqT.of h, at0, rfl, _, rfl, ifF n_nc ⟨_, rfl, b, rfl, ifB (fun hb => ?_) (fun hb => ?_)⟩⟩⟩
              · have hpos := hodd hb
                obtain ⟨z, hz, hzz⟩ : ∃ z, atI [V.str "sat", V.str "w"] (wy - 1) = some z ∧ ∃ u, z = V.str u := by
                  have : wy = 1 ∨ wy = 2 := by omega
                  rcases this with rfl | rfl
                  · exact ⟨_, at0, _, rfl⟩
                  · exact ⟨_, at1, _, rfl⟩
                obtain ⟨u, rfl⟩ := hzz
                refine ⟨small' (by show 2 ≤ 1000000; decide), fun q4 H4 n4 s4 h4 => ⟨_, rfl, _, _, rfl, rfl, _, _, _, _, rfl, rfl, SqL.of h4, hz, small' (by show 2 ≤ 1000000; decide), fun b9 H9 n9 s9 h9 => ?_⟩⟩
                have S9 := s4.trans s9
                have hp9 := S9 _ _ hp3.1
                refine ⟨_, rfl, Or.inl ⟨rfl, _, SqL.of hp9⟩, _, rfl, _, _, _, rfl, rfl, hp9, small (by have := hp3.len; omega), fun H8 k8 hp8 => ?_⟩
                exact fin (Keep.of_same S9) hp9 (nameds_mono hp3.2 (.of_same S9)) (.name h9) hS hrun H8 k8 hp8
              · refine ⟨_, rfl, _, _, _, _, rfl, rfl, SqT.of h, at1, _, rfl, l, k1, w1, rfl, rfl, hl, _, rfl, ifD (fun hin => ?_) (fun hout => ?_)⟩
                · obtain ⟨c, hc⟩ := at_sign hsg ((((k1.map V.str).length : Nat) : Int) - 1 - (k1.idxOf w1 : Nat))
                  refine ⟨_, rfl, _, rfl, _, _, rfl, Or.inl (SqL.of hl), _, _, rfl, rfl, _, rfl, Or.inl ⟨rfl, _, SqL.of hl⟩, _, rfl, _, _, _, _, rfl, rfl, SqT.of h, at1, l, k1, w1, rfl, rfl, hl, hin, _, _, rfl, rfl, _, _, rfl, rfl, hl20, _, _, _, rfl, rfl, small' (by show sg.cps.size ≤ _; rw [← Array.length_toList, hsg]; decide), hc, small' (by show 2 ≤ 1000000; decide), fun b9 H9 n9 s9 h9 => ?_⟩
                  have hp9 := s9 _ _ hp3.1
                  refine ⟨_, rfl, Or.inl ⟨rfl, _, SqL.of hp9⟩, _, rfl, _, _, _, rfl, rfl, hp9, small (by have := hp3.len; omega), fun H8 k8 hp8 => ?_⟩
                  exact fin (Keep.of_same s9) hp9 (nameds_mono hp3.2 (.of_same s9)) (.name h9) hS hrun H8 k8 hp8
                · refine ⟨_, rfl, Or.inl ⟨rfl, _, SqL.of hp3.1⟩, _, rfl, _, _, _, rfl, rfl, hp3.1, small (by have := hp3.len; omega), fun H8 k8 hp8 => ?_⟩
                  exact fin (Keep.refl _ _) hp3.1 hp3.2 (.name h) hS hrun H8 k8 hp8
            | @form a1 fw bv b1 h hb1 =>
              obtain ⟨x, S', eS, hrun⟩ := runM_form hrun
              obtain ⟨x', S'', rfl, rfl, rfl⟩ := map_cons eS
              obtain ⟨vs', u, rfl, hu, hv'⟩ := hp3.pop
              obtain ⟨c, hc⟩ := at_sign hsg (((k1.map V.str).length : Nat) : Int)
              obtain ⟨z, hz, hzz⟩ := at_bool (x := .str ⟨#[c]⟩) (y := .str "sat") b
              obtain ⟨wd, rfl⟩ : ∃ wd, z = .str wd := by rcases hzz with e | e <;> exact ⟨_, e⟩
              refine ⟨_, rfl, _, _, _, _, rfl, rfl, SqT.of h, at0, rfl, _, rfl, ifT rfl ?_⟩
              refine ⟨_, rfl, _, rfl, _, _, rfl, Or.inl (SqL.of hl), _, _, rfl, rfl, hl20, _, _, _, rfl, rfl, small' (by show sg.cps.size ≤ _; rw [← Array.length_toList, hsg]; decide), hc, small' (by show 2 ≤ 1000000; decide), fun q4 H4 n4 s4 h4 => ⟨_, rfl, Or.inr ⟨b, rfl, _, _, _, _, rfl, rfl, SqL.of h4, hz, ?_⟩⟩⟩
              have hp4 := s4 _ _ hp3.1
              refine ⟨_, rfl, Or.inl ⟨rfl, _, SqL.of hp4⟩, p, vs', u, rfl, rfl, hp4, fun H6 k6 hp6 => ⟨small' (by show 3 ≤ 1000000; decide), fun b9 H9 n9 s9 h9 => ?_⟩⟩
              have hp9 := s9 _ _ hp6
              have k39 := ((Keep.of_same (L := [p]) s4).trans k6).trans (Keep.of_same s9)
              have ln := hp3.len
              rw [List.length_append, List.length_singleton, List.length_cons] at ln
              rw [List.length_cons] at hS
              refine ⟨_, rfl, Or.inl ⟨rfl, _, SqL.of hp9⟩, _, rfl, _, _, _, rfl, rfl, hp9, small (by omega), fun H8 k8 hp8 => ?_⟩
              exact fin k39 hp9 (nameds_kp hv' k39 hp3.1) (.form h9 (hu.mono (keep1_tups k39 hp3.1))) (by omega) hrun H8 k8 hp8
            | @call a1 xv yv x y h hx hy =>
              obtain ⟨y, x, S', eS, hrun⟩ := runM_call hrun
              obtain ⟨y', S1, rfl, rfl, eS1⟩ := map_cons eS
              obtain ⟨x', S'', rfl, rfl, rfl⟩ := map_cons eS1
              obtain ⟨vs1, u, rfl, hu, hv1⟩ := hp3.pop
              refine ⟨_, rfl, _, _, _, _, rfl, rfl, SqT.of h, at0, rfl, _, rfl, ifF n_cf ⟨_, rfl, _, _, _, _, rfl, rfl, SqT.of h, at0, rfl, _, rfl, ifT rfl ?_⟩⟩
              refine ⟨_, rfl, Or.inl ⟨rfl, _, SqL.of hp3.1⟩, p, vs1, u, rfl, rfl, hp3.1, fun H6 k6 hp6 => ?_⟩
              have P6 : NPileAt H6 p vs1 (x' :: S'') := ⟨hp6, nameds_kp hv1 k6 hp3.1⟩
              obtain ⟨vs', z, rfl, hz, hv'⟩ := P6.pop
              refine ⟨_, rfl, Or.inl ⟨rfl, _, SqL.of hp6⟩, p, vs', z, rfl, rfl, hp6, fun H7 k7 hp7 => ⟨_, rfl, small' (by show 3 ≤ 1000000; decide), fun b9 H9 n9 s9 h9 => ?_⟩⟩
              have hp9 := s9 _ _ hp7
              have k69 := k7.trans (Keep.of_same s9)
              have k39 := k6.trans k69
              have ln := hp3.len
              rw [List.length_append, List.length_append, List.length_singleton, List.length_singleton, List.length_cons, List.length_cons] at ln
              rw [List.length_cons, List.length_cons] at hS
              refine ⟨_, rfl, Or.inl ⟨rfl, _, SqL.of hp9⟩, _, rfl, _, _, _, rfl, rfl, hp9, small (by omega), fun H8 k8 hp8 => ?_⟩
              exact fin k39 hp9 (nameds_kp hv' k69 hp6) (.call h9 (hz.mono (keep1_tups k69 hp6)) (hu.mono (keep1_tups k39 hp3.1))) (by omega) hrun H8 k8 hp8
        · rintro σ H3 ⟨vs, S, x3, x4, x6, x7, x8, rfl, s3, hp3, hf3, hr3, hS, hrun⟩
          rw [List.drop_eq_nil_of_le (by rw [List.length_reverse, nlparts_len, hlen]; exact Nat.le_refl _)] at hrun
          obtain ⟨r, S', rfl, hrs, hS'⟩ := map_cons (Option.some.inj hrun)
          cases (List.map_eq_nil_iff.mp hS')
          obtain ⟨vs', u, rfl, hu, hv'⟩ := hp3.pop
          cases paired_nil hv'
          exact ⟨_, rfl, _, _, _, _, rfl, rfl, SqL.of hp3.1, at0, k u H3 r s3 hu (by rw [← shape_size, hrs, num_shape, shape_size])⟩
      · obtain ⟨its', ⟨t1, p1⟩, rfl⟩ := snoc_of hnil
        obtain ⟨xs', x, rfl, hit', a, tv, wv, rfl, ha, htv, hwv⟩ := paired_snoc_inv hit
        have htv : NamedAt H5' tv t1 := htv
        have hwv : LsN [f, d] H5' wv p1 := hwv
        rw [show (if true = true then !(xs' ++ [V.ref a]).isEmpty else (xs' ++ [V.ref a]).isEmpty) = true by simp]
        refine iteT ⟨fun σ' H' => ∃ m', m' < sizesQ (its' ++ [(t1, p1)]) ∧ InvRw1 H v (.str sg) (.int wy) (.int sp) t f d m' σ' H', fun _ _ h => h, ?_⟩
        refine ⟨_, rfl, Or.inl ⟨rfl, _, SqL.of hd5'⟩, d, xs', .ref a, rfl, rfl, hd5', fun H6 k6 hd6 => ?_⟩
        have hL := lists2 hf5' hd5'
        have K6 : Keep [f, d] H5' H6 := k6.sub (by simp)
        have tu6 := K6.tups hL
        have ha6 := tu6 _ _ ha
        have htv6 := htv.mono tu6
        obtain ⟨l, rfl, nl, hl6⟩ := hwv.keep K6
        have hf6 : H6 f = some (.lst fs) := k6.at hf5' nfd
        have s6 : Same H H6 := same_keep s5 K6 nL
        have it6 := paired_imp (fun a b h => ItmN.keep h K6 hL) hit'
        have ps6 := paired_imp (fun a b h => ItmN.keep h K6 hL) hps
        have hL6 := lists2 hf6 hd6
        rw [pendM_snoc] at heq
        rw [sizesQ_snoc] at hsum
        rw [sizesQ_snoc]
        have hall' : ∀ q ∈ its', q.2.length + q.1.size ≤ t.size := fun q hq => hall q (List.mem_append_left _ hq)
        have hq1 : p1.length + t1.size ≤ t.size := hall (t1, p1) (by simp)
        have hs1 : sizesQ its' + t1.size ≤ t.size := hsum
        have hxl : xs'.length ≤ t.size := by
          rw [Paired.length it6]
          have := len_sizesQ its'
          omega
        have hfl : fs.length ≤ t.size := by
          rw [Paired.length ps6]
          have h1 := congrArg List.length heq
          rw [List.length_append, nlparts_len] at h1
          omega
        refine ⟨a, _, rfl, SqT.of ha6, rfl, _, _, rfl, _, _, rfl, rfl, ?_⟩
        have heq : ps ++ (t1.lparts p1 ++ pendM its') = t.lparts [] := heq
        -- row.append((part, words))
        refine ⟨_, rfl, Or.inl ⟨rfl, _, SqL.of hf6⟩, _, rfl, _, rfl, small' (by show 2 ≤ 1000000; decide), fun r7 H6a n7 s7a h7 => ⟨_, _, _, rfl, rfl, s7a _ _ hf6, small (by omega), fun H7 k7 hf7 => ?_⟩⟩
        have K7 : Keep [f, d] H6 H7 := (Keep.of_same s7a).trans (k7.sub (by simp))
        have hd7 : H7 d = some (.lst xs') := k7.at (s7a _ _ hd6) nfd.symm
        have tu7 := K7.tups hL6
        have htv7 := htv6.mono tu7
        have hl7 := K7 _ _ nl hl6
        have s7 : Same H H7 := same_keep s6 K7 nL
        have it7 := paired_imp (fun a b h => ItmN.keep h K7 hL6) it6
        have ps7 := paired_snoc (x := V.ref r7) (y := (t1, p1)) ⟨r7, tv, .ref l, rfl, k7.tup1 (s7a _ _ hf6) _ _ h7, htv7, l, rfl, nl, hl7⟩ (paired_imp (fun a b h => ItmN.keep h K7 hL6) ps6)
        have hL7 := lists2 hf7 hd7
        clear htv6
        cases htv7 with
        | name h =>
          refine ⟨_, rfl, _, _, _, _, rfl, rfl, SqT.of h, at0, rfl, _, rfl, ifF n_nf ⟨_, rfl, _, _, _, _, rfl, rfl, SqT.of h, at0, rfl, _, rfl, ifF n_nc ?_⟩⟩
          refine ⟨_, by show sizesQ its' < sizesQ its' + 1; omega, its', xs', _, _, _, _, rfl, s7, hf7, hd7, it7, ps7, ?_, rfl, by omega, hall'⟩
          rw [List.append_assoc]; exact heq
        | @form a1 fw bv b h hb =>
          have hbs : NT.size (.form fw b) = b.size + 1 := rfl
          refine ⟨_, rfl, _, _, _, _, rfl, rfl, SqT.of h, at0, rfl, _, rfl, ifT rfl ?_⟩
          refine ⟨_, rfl, Or.inl ⟨rfl, _, SqL.of hd7⟩, _, rfl, _, _, _, _, rfl, rfl, SqT.of h, at2, _, rfl, _, _, _, _, rfl, rfl, SqT.of h, at1, small' (by show 1 ≤ 1000000; decide), fun b7 H8 n8 s8 h8 => ⟨_, rfl, _, _, _, _, rfl, rfl, h8, s8 _ _ hl7, small' (by rw [List.length_map]; show 1 + p1.length ≤ _; omega), fun b8 H8b n8b s8b h8b => ⟨small' (by show 2 ≤ 1000000; decide), fun b9 H9 n9 s9' h9 => ⟨_, _, _, rfl, rfl, s9' _ _ (s8b _ _ (s8 _ _ hd7)), small (by omega), fun H10 k10 hd10 => ?_⟩⟩⟩⟩
          have s9 := (s8.trans s8b).trans s9'
          have K10 : Keep [f, d] H7 H10 := (Keep.of_same s9).trans (k10.sub (by simp))
          have tu10 := K10.tups hL7
          have n8f : b8 ≠ f := (ne_of_none (s8 _ _ hf7) n8b).symm
          have n8d : b8 ≠ d := (ne_of_none (s8 _ _ hd7) n8b).symm
          refine ⟨_, rfl, _, _, _, _, rfl, rfl, SqT.of (tu10 _ _ h), at0, rfl, _, rfl, ifF n_fc ?_⟩
          refine ⟨_, ?_, its' ++ [(b, fw :: p1)], _, _, _, _, _, rfl, same_keep s7 K10 nL, k10.at (s9 _ _ hf7) nfd, hd10, paired_snoc ⟨b9, bv, .ref b8, rfl, k10.tup1 (s9 _ _ hd7) _ _ h9, hb.mono tu10, b8, rfl, by simp [n8f, n8d], k10.at (s9' _ _ h8b) n8d⟩ (paired_imp (fun a b h => ItmN.keep h K10 hL7) it7), paired_imp (fun a b h => ItmN.keep h K10 hL7) ps7, ?_, rfl, ?_, fun q hq => ?_⟩
          · rw [sizesQ_snoc]; show sizesQ its' + b.size < sizesQ its' + (b.size + 1); omega
          · rw [pendM_snoc, List.append_assoc]; exact heq
          · rw [sizesQ_snoc]; show sizesQ its' + b.size ≤ t.size; omega
          · rcases List.mem_append.mp hq with hq | hq
            · exact hall' q hq
            · rw [List.mem_singleton.mp hq]; show p1.length + 1 + b.size ≤ t.size; omega
        | @call a1 xv yv x y h hx hy =>
          have hcs : NT.size (.call x y) = x.size + y.size + 1 := rfl
          refine ⟨_, rfl, _, _, _, _, rfl, rfl, SqT.of h, at0, rfl, _, rfl, ifF n_cf ⟨_, rfl, _, _, _, _, rfl, rfl, SqT.of h, at0, rfl, _, rfl, ifT rfl ?_⟩⟩
          refine ⟨_, rfl, Or.inl ⟨rfl, _, SqL.of hd7⟩, _, rfl, _, _, _, _, rfl, rfl, SqT.of h, at1, _, rfl, small' (by show 2 ≤ 1000000; decide), fun b9 H9 n9 s9 h9 => ⟨_, _, _, rfl, rfl, s9 _ _ hd7, small (by omega), fun H10 k10 hd10 => ?_⟩⟩
          have K10 : Keep [f, d] H7 H10 := (Keep.of_same s9).trans (k10.sub (by simp))
          have tu10 := K10.tups hL7
          have hf10 := k10.at (s9 _ _ hf7) nfd
          have hL10 := lists2 hf10 hd10
          have hl10 := K10 _ _ nl hl7
          have it10 := paired_snoc (x := V.ref b9) (y := (x, p1)) ⟨b9, xv, .ref l, rfl, k10.tup1 (s9 _ _ hd7) _ _ h9, hx.mono tu10, l, rfl, nl, hl10⟩ (paired_imp (fun a b h => ItmN.keep h K10 hL7) it7)
          refine ⟨_, rfl, Or.inl ⟨rfl, _, SqL.of hd10⟩, _, rfl, _, _, _, _, rfl, rfl, SqT.of (tu10 _ _ h), at2, _, rfl, small' (by show 2 ≤ 1000000; decide), fun c9 H11 m9 s11 g9 => ⟨_, _, _, rfl, rfl, s11 _ _ hd10, small (by rw [List.length_append, List.length_singleton]; omega), fun H12 k12 hd12 => ?_⟩⟩
          have K12 : Keep [f, d] H10 H12 := (Keep.of_same s11).trans (k12.sub (by simp))
          have tu12 := K12.tups hL10
          refine ⟨_, ?_, (its' ++ [(x, p1)]) ++ [(y, p1)], _, _, _, _, _, rfl, same_keep s7 (K10.trans K12) nL, k12.at (s11 _ _ hf10) nfd, hd12, paired_snoc ⟨c9, yv, .ref l, rfl, k12.tup1 (s11 _ _ hd10) _ _ g9, (hy.mono tu10).mono tu12, l, rfl, nl, K12 _ _ nl hl10⟩ (paired_imp (fun a b h => ItmN.keep h K12 hL10) it10), paired_imp (fun a b h => ItmN.keep (ItmN.keep h K10 hL7) K12 hL10) ps7, ?_, rfl, ?_, fun q hq => ?_⟩
          · rw [sizesQ_snoc, sizesQ_snoc]; show sizesQ its' + x.size + y.size < sizesQ its' + (x.size + y.size + 1); omega
          · rw [pendM_snoc, pendM_snoc, List.append_assoc]
            show ps ++ ((.call x y, p1) :: (y.lparts p1 ++ (x.lparts p1 ++ pendM its'))) = _
            rw [← heq]
            show _ = ps ++ ((.call x y, p1) :: (y.lparts p1 ++ x.lparts p1) ++ pendM its')
            simp
          · rw [sizesQ_snoc, sizesQ_snoc]; show sizesQ its' + x.size + y.size ≤ _; omega
          · rcases List.mem_append.mp hq with hq | hq
            · rcases List.mem_append.mp hq with hq | hq
              · exact hall' q hq
              · rw [List.mem_singleton.mp hq]; show p1.length + x.size ≤ t.size; omega
            · rw [List.mem_singleton.mp hq]; show p1.length + y.size ≤ t.size; omega
end
end NC
/-! ### a law's named terms and their lines -/
namespace NC
open PySem PySem.Spec PyProof.Rows L2
section
variable {P : Program} {w : World} {K : PySem.W.Frag} {mg : Str → Option Value} {base : Heap}
seal L2.PE L2.PA L2.PT L2.PS L2.PSs L2.PW L2.PG L2.PGs L2.PI L2.PO L2.OpR L2.UnR L2.CallR L2.TruR L2.IxR L2.SlR
def sp_any_wordF : Sp := fun vs H Q _ => ∃ c, vs = [.int c] ∧ Q (.str (anyW c)) H
theorem letters_at {i : Nat} (h : i < 26) : (Str.ofString "abcdefghijklmnopqrstuvwxyz").cps.toList[i]? = some (97 + i) := by
  have : ∀ i : Fin 26, (Str.ofString "abcdefghijklmnopqrstuvwxyz").cps.toList[i.val]? = some (97 + i.val) := by decide +kernel
  exact this ⟨i, h⟩
theorem ok_any_wordF {f : Addr} {fd : FuncData} (F : Fun K "_law_any_word" "_law_any_word" s__law_any_word f fd) (N_ : NoNames mg) : FnOk P w K mg base CX0 1 f fd ["_law_cell"] sp_any_wordF := by
  refine F.ok sc__law_any_word (fun vs H Q E h => ?_) (fun cdv A outer s H vs Q E hr h => ?_)
  · obtain ⟨c, rfl, _⟩ := h
    rfl
  · obtain ⟨c, rfl, k⟩ := h
    refine ⟨_, (pss_cons (ps_set (i := 1) sc__law_any_word.nd rfl (Or.inl rfl) (pe_op op_mod (pCB call_abs (by rfl) N_.abs boot_abs (pa_c (pv 0) pa_nil)) (pe_op op_pow pe_int pe_int)))
      (pss_cons (ps_set (i := 2) sc__law_any_word.nd rfl (Or.inl rfl) pe_str)
      (pss_cons (ps_while PassesOwn.never (pt_cmpR op_ge (pv 1) pe_int (nomark _)) (pss_cons (ps_set (i := 2) sc__law_any_word.nd rfl (Or.inl rfl) (pe_op op_add_str (pe_ix ix_str pe_str (pe_op op_mod (pv 1) pe_int) (fun _ _ => rfl)) (pv 2)))
      (pss_one (ps_set (i := 1) sc__law_any_word.nd rfl (Or.inl rfl) (pe_op op_sub (pe_op op_fdiv (pv 1) pe_int) pe_int)))))
      (pss_one (ps_ret (pv 2)))))), ?_⟩
    show (let V1_ : TS := _; let V2_ : TS := _; let V3_ : TS := tSeq _ V2_; let V4_ : TS := tSeq (tWhile _ V3_) V1_; let V5_ : TS := tSeq _ V4_; tSeq _ V5_ _ _ _)
    intro V1_ V2_ V3_ V4_ V5_
    refine ⟨_, rfl, _, rfl, _, _, rfl, rfl, ⟨by decide, by decide, by decide⟩, _, _, rfl, rfl, (show (0 : Int) < 10 ^ (39 : Int).toNat by decide +kernel), ?_⟩
    obtain ⟨M, hM⟩ : ∃ M, ((if c < 0 then -c else c) % (10 : Int) ^ ((39 : Int).toNat)) = M := ⟨_, rfl⟩
    have hM0 : 0 ≤ M := by rw [← hM]; exact Int.emod_nonneg _ (by decide +kernel)
    have hM1 : M < 10 ^ 39 := by rw [← hM]; exact Int.emod_lt_of_pos _ (by decide +kernel)
    have hany : anyW c = goW (M.toNat + 1) (Str.ofString "") := by unfold anyW; rw [hM]
    refine ⟨fun m σ H' => ∃ (n : Nat) (w : Str), σ = [some (.int c), some (.int ((m : Int) - 1)), some (.str w)] ∧ H' = H ∧ w.length = n ∧ 26 ^ n * m ≤ 10 ^ 39 ∧ goW m w = anyW c ∧ (∀ z ∈ w.cps.toList, 97 ≤ z ∧ z ≤ 122) ∧ (1 ≤ n ∨ 1 ≤ m) ∧ n ≤ 100, ⟨M.toNat + 1, 0, "", ?_, rfl, rfl, ?_, hany.symm, ?_, .inr (by omega), by decide⟩, ?_⟩
    · have e : ((M.toNat + 1 : Nat) : Int) - 1 = M := by omega
      rw [e, ← hM]
      rfl
    · have : M.toNat + 1 ≤ 10 ^ 39 := by omega
      simpa using this
    · intro z hz
      have e : (Str.ofString "").cps.toList = [] := by decide +kernel
      rw [e] at hz
      cases hz
    · rintro m σ H' ⟨n, w, rfl, rfl, hn, hb, hg, hlet, hpos, hn1⟩
      refine ⟨_, rfl, _, _, rfl, rfl, _, rfl, ifD (fun hc => ?_) (fun hc => ⟨_, rfl, ?_⟩)⟩
      · have hm : 1 ≤ m := by omega
        have hn28 := word_bound hb hm
        refine ⟨fun σ' H'' => ∃ m', m' < m ∧ ∃ (n : Nat) (w : Str), σ' = [some (.int c), some (.int ((m' : Int) - 1)), some (.str w)] ∧ H'' = H' ∧ w.length = n ∧ 26 ^ n * m' ≤ 10 ^ 39 ∧ goW m' w = anyW c ∧ (∀ z ∈ w.cps.toList, 97 ≤ z ∧ z ≤ 122) ∧ (1 ≤ n ∨ 1 ≤ m') ∧ n ≤ 100, fun _ _ h => h, ?_⟩
        have hch : atI (Str.ofString "abcdefghijklmnopqrstuvwxyz").cps.toList (((m : Int) - 1) % 26) = some (97 + (m - 1) % 26) := by
          rw [show ((m : Int) - 1) % 26 = (((m - 1) % 26 : Nat) : Int) by omega]
          exact atI_nat (letters_at (by omega))
        refine ⟨_, rfl, _, _, rfl, rfl, (show (0 : Int) < 26 by decide), _, _, _, rfl, rfl, small' (by decide +kernel), hch, _, rfl, _, _, rfl, rfl, small' (by rw [hn]; show 1 + n ≤ _; omega), ?_⟩
        refine ⟨_, rfl, _, _, rfl, rfl, ⟨by decide, by decide⟩, _, _, rfl, rfl, ?_⟩
        refine ⟨(m - 1) / 26, by omega, n + 1, ⟨#[97 + (m - 1) % 26]⟩ ++ w, ?_, rfl, ?_, ?_, ?_, wd_any _ (by omega) (by omega) hlet, .inl (by omega), by omega⟩
        · have e : ((m : Int) - 1) / 26 - 1 = (((m - 1) / 26 : Nat) : Int) - 1 := by omega
          rw [← e]
          rfl
        · rw [Str.length_append, hn]
          show 1 + n = n + 1
          omega
        · have h1 : 26 ^ (n + 1) * ((m - 1) / 26) = 26 ^ n * (26 * ((m - 1) / 26)) := by rw [Nat.pow_succ, Nat.mul_assoc]
          rw [h1]
          refine Nat.le_trans (Nat.mul_le_mul_left _ ?_) hb
          omega
        · exact (goW_pos (by omega) w).symm.trans hg
      · have hm : m = 0 := by omega
        subst hm
        rw [goW_zero] at hg
        subst hg
        exact k
abbrev s__law_wordy : Stmt := top 11
theorem sc__law_wordy : FnScope ["_law_cells", "_law_pile", "_law_j", "_law_cell", "_law_way", "_law_letter", "_law_word", "_law_inner", "_law_other", "_law_one"] ["_law_cells"] (defScope s__law_wordy) := ⟨rfl, rfl, rfl, by decide +kernel, rfl, by decide +kernel, by decide +kernel⟩
def sp_wordy (K : PySem.W.Frag) : Sp := fun vs H Q _ => ∃ a, ∃ ns : List Int, vs = [.ref a] ∧ SqL K H a (ns.map V.int) ∧ ns.length ≤ 63 ∧ ∀ v H', Same H H' → NamedAt H' v (wordyT ns) → Q v H'
theorem at_map {ns : List Int} {j : Nat} (h : j < ns.length) : atI (ns.map V.int) (j : Int) = some (.int (ns.getD j 0)) := atI_nat (by
  rw [List.getElem?_map, List.getElem?_eq_getElem h, List.getD_eq_getElem?_getD, List.getElem?_eq_getElem h]
  rfl)
theorem at_letter (c : Int) : atI (Str.ofString "abcdefghijklmnopqrstuvwxyz").cps.toList (c % 26) = some (97 + (c % 26).toNat) := by
  have e : c % 26 = (((c % 26).toNat : Nat) : Int) := by omega
  conv => lhs; rw [e]
  exact atI_nat (letters_at (by omega))
theorem at_menu (l : Str) (k : Int) : atI [V.str "sab", V.str "tab", V.str "sat", V.str "sob", V.str l] (k % 5) = some (.str (menuS l k)) := by
  have e : k % 5 = (((k % 5).toNat : Nat) : Int) := by omega
  have hlt : (k % 5).toNat < 5 := by omega
  conv => lhs; rw [e]
  refine atI_nat ?_
  unfold menuS
  generalize (k % 5).toNat = j at hlt
  match j, hlt with
  | 0, _ => rfl
  | 1, _ => rfl
  | 2, _ => rfl
  | 3, _ => rfl
  | 4, _ => rfl
theorem word_then {ns : List Int} {j : Nat} (h : V.int (ns.getD j 0 % 11) = V.int 7) : anyW (ns.getD j 0 / 11) = wordAt ns j := by
  unfold wordAt
  rw [if_pos (V.int.inj h)]
theorem word_else {ns : List Int} {j : Nat} (h : ¬ V.int (ns.getD j 0 % 11) = V.int 7) : menuS (letterS (ns.getD ((j + 1) % ns.length) 0)) (ns.getD j 0 / 5) = wordAt ns j := by
  unfold wordAt
  rw [if_neg fun z => h (by rw [z])]
def InvM__law_wordy (H : Hp) (p : Addr) (ns : List Int) (H' : Hp) (n : Nat) : Prop := ∃ xs S, Same H H' ∧ H' p = some (.lst xs) ∧ Paired (NamedAt H') xs S.reverse ∧ closeN S = wordyT ns ∧ S ≠ [] ∧ (∀ t ∈ S, t.ok) ∧ sizesN S + S.length ≤ 200 ∧ n = S.length
theorem ok__law_wordy {f : Addr} {fd : FuncData} (F : Fun K "_law_wordy" "_law_wordy" s__law_wordy f fd) (N_ : NoNames mg) (G__law_any_word : GF P w K mg base CX0 1 "_law_any_word" ["_law_cell"] sp_any_wordF) :
    FnOk P w K mg base CX0 2 f fd ["_law_cells"] (sp_wordy K) := by
  refine F.ok sc__law_wordy (fun vs H Q E h => ?_) (fun cdv A outer s H vs Q E hr h => ?_)
  · obtain ⟨a, ns, rfl, _⟩ := h
    rfl
  · obtain ⟨a, ns, rfl, hS, hl, k⟩ := h
    have hu0 := hr.units0
    refine ⟨_, (pss_cons (ps_set (i := 1) sc__law_wordy.nd rfl (Or.inl rfl) (pLst pa_nil))
      (pss_cons (ps_for PassesOwn.never rfl (pi_range1 rfl N_.range (pa_c (pCB call_len_seq (by rfl) N_.len boot_len (pa_c (pv 0) pa_nil)) pa_nil)) (pg_name (i := 2) sc__law_wordy.nd rfl (Or.inl rfl)) (pss_cons (ps_set (i := 3) sc__law_wordy.nd rfl (Or.inl rfl) (pe_ix ix_list (pv 0) (pv 2) (fun _ _ => rfl)))
      (pss_cons (ps_set (i := 4) sc__law_wordy.nd rfl (Or.inl rfl) (pe_op op_mod (pv 3) pe_int))
      (pss_cons (ps_set (i := 5) sc__law_wordy.nd rfl (Or.inl rfl) (pe_ix ix_str pe_str (pe_op op_mod (pe_ix ix_list (pv 0) (pe_op op_mod (pe_op op_add (pv 2) pe_int) (pCB call_len_seq (by rfl) N_.len boot_len (pa_c (pv 0) pa_nil))) (fun _ _ => rfl)) pe_int) (fun _ _ => rfl)))
      (pss_cons (ps_set (i := 6) sc__law_wordy.nd rfl (Or.inl rfl) (pe_ix ix_list (pLst (pa_c pe_str (pa_c pe_str (pa_c pe_str (pa_c pe_str (pa_c (pv 5) pa_nil)))))) (pe_op op_mod (pe_op op_fdiv (pv 3) pe_int) pe_int) (fun _ _ => rfl)))
      (pss_cons (ps_if (pt_cmpR op_eq (pe_op op_mod (pv 3) pe_int) pe_int (nomark _)) (pss_one (ps_set (i := 6) sc__law_wordy.nd rfl (Or.inl rfl) (pe_gf G__law_any_word (hr.mono (by decide)) rfl pass0 (pa_c (pe_op op_fdiv (pv 3) pe_int) pa_nil)))) pss_nil)
      (pss_one (ps_if (PW.pt (pw_and (PW.pt (pw_or (pt_cmpR op_eq (pv 4) pe_int (nomark _)) (pw_or1 (pt_cmpR op_eq (pv 4) pe_int (nomark _))))) (pw_and1 (pt_cmpR (op_neNil hu0) (pv 1) (pLst pa_nil) (nomark _))))) (pss_cons (ps_set (i := 7) sc__law_wordy.nd rfl (Or.inl rfl) (pPop (pv 1)))
      (pss_one (ps_expr (pApp (pv 1) (pTup (pa_c pe_str (pa_c (pv 6) (pa_c (pv 7) pa_nil)))))))) (pss_one (ps_if (PW.pt (pw_and (pt_cmpR op_eq (pv 4) pe_int (nomark _)) (pw_and1 (pt_cmpR op_gt (pCB call_len_seq (by rfl) N_.len boot_len (pa_c (pv 1) pa_nil)) pe_int (nomark _))))) (pss_cons (ps_set (i := 8) sc__law_wordy.nd rfl (Or.inl rfl) (pPop (pv 1)))
      (pss_cons (ps_set (i := 9) sc__law_wordy.nd rfl (Or.inl rfl) (pPop (pv 1)))
      (pss_one (ps_expr (pApp (pv 1) (pTup (pa_c pe_str (pa_c (pv 9) (pa_c (pv 8) pa_nil))))))))) (pss_one (ps_expr (pApp (pv 1) (pTup (pa_c pe_str (pa_c (pv 6) pa_nil))))))))))))))))
      (pss_cons (ps_if (pt_cmpR (op_eqNil hu0) (pv 1) (pLst pa_nil) (nomark _)) (pss_one (ps_expr (pApp (pv 1) (pTup (pa_c pe_str (pa_c pe_str pa_nil)))))) pss_nil)
      (pss_cons (ps_while PassesOwn.never (pt_cmpR op_gt (pCB call_len_seq (by rfl) N_.len boot_len (pa_c (pv 1) pa_nil)) pe_int (nomark _)) (pss_cons (ps_set (i := 8) sc__law_wordy.nd rfl (Or.inl rfl) (pPop (pv 1)))
      (pss_cons (ps_set (i := 9) sc__law_wordy.nd rfl (Or.inl rfl) (pPop (pv 1)))
      (pss_one (ps_expr (pApp (pv 1) (pTup (pa_c pe_str (pa_c (pv 9) (pa_c (pv 8) pa_nil))))))))))
      (pss_one (ps_ret (pe_ix ix_list (pv 1) pe_int (fun _ _ => rfl)))))))), ?_⟩
    show (let V1_ : TS := _; let V2_ : TS := _; let V3_ : TS := tSeq _ V2_; let V4_ : TS := tSeq _ V3_; let V5_ : TS := tSeq (tWhile _ V4_) V1_; let V6_ : TS := _; let V7_ : TS := tSeq (tIfS _ V6_ _) V5_; let V8_ : TS := _; let V9_ : TS := tSeq _ V8_; let V10_ : TS := _; let V11_ : TS := tSeq _ V10_; let V12_ : TS := tSeq _ V11_; let V13_ : TS := _; let V14_ : TS := tIfS _ V12_ V13_; let V15_ : TS := tIfS _ V9_ V14_; let V16_ : TS := _; let V17_ : TS := tSeq (tIfS _ V16_ _) V15_; let V18_ : TS := tSeq _ V17_; let V19_ : TS := tSeq _ V18_; let V20_ : TS := tSeq _ V19_; let V21_ : TS := tSeq _ V20_; let V22_ : TS := tSeq (tFor _ _ V21_) V7_; tSeq _ V22_ _ _ _)
    intro V1_ V2_ V3_ V4_ V5_ V6_ V7_ V8_ V9_ V10_ V11_ V12_ V13_ V14_ V15_ V16_ V17_ V18_ V19_ V20_ V21_ V22_
    refine ⟨small' (by simp), fun p H1 np s1 hp1 => ?_⟩
    have hnl : (ns.map V.int).length = ns.length := List.length_map _
    refine ⟨_, rfl, _, _, rfl, Or.inl (s1.seq hS), _, rfl, ?_, ?_, ?_⟩
    · rw [hnl]; omega
    · rw [hnl]; omega
    rw [show (((ns.map V.int).length : Nat) : Int).toNat = ns.length by rw [hnl]; omega]
    refine for_range (fun i σ H' => i ≤ ns.length ∧ Same H H' ∧ (∃ xs, H' p = some (.lst xs) ∧ Paired (NamedAt H') xs (pileN ns i).reverse) ∧ ∃ x2 x3 x4 x5 x6 x7 x8 x9, σ = [some (.ref a), some (.ref p), x2, x3, x4, x5, x6, x7, x8, x9]) ⟨Nat.zero_le _, s1, ⟨[], hp1, .nil⟩, _, _, _, _, _, _, _, _, rfl⟩ ?_ ?_
    · rintro i σ H2 hi ⟨_, s2, ⟨xs, hp2, hxs⟩, x2, x3, x4, x5, x6, x7, x8, x9, rfl⟩
      have hS2 := s2.seq hS
      have hxl : xs.length ≤ 63 := by
        rw [Paired.length hxs, List.length_reverse]
        have h1 := len_sizesN (pileN ns i)
        have h2 := pile_size ns i
        omega
      have hln : 0 < ns.length := by omega
      have hmod : (i + 1) % ns.length < ns.length := Nat.mod_lt _ hln
      -- cell, way, letter, word
      refine ⟨_, rfl, _, rfl, _, _, _, _, rfl, rfl, hS2, (by rw [Int.zero_add]; exact at_map hi), ?_⟩
      refine ⟨_, rfl, _, _, rfl, rfl, (show (0 : Int) < 5 by decide), ?_⟩
      refine ⟨_, rfl, _, rfl, _, _, rfl, rfl, _, rfl, _, _, rfl, Or.inl hS2, _, _, rfl, rfl, (by rw [hnl]; omega), _, _, _, _, rfl, rfl, hS2, (by
        rw [hnl, Int.zero_add, show ((i : Int) + 1) % (ns.length : Int) = (((i + 1) % ns.length : Nat) : Int) by rw [Int.natCast_emod]; rfl]
        exact at_map hmod), _, _, rfl, rfl, (show (0 : Int) < 26 by decide), _, _, _, rfl, rfl, small' (by decide +kernel), at_letter _, ?_⟩
      refine ⟨_, rfl, small' (by show 5 ≤ 1000000; decide), fun q3 H3 n3 s3 h3 => ⟨_, rfl, _, _, rfl, rfl, ⟨by decide, by decide⟩, _, _, rfl, rfl, (show (0 : Int) < 5 by decide), _, _, _, _, rfl, rfl, SqL.of h3, at_menu (letterS (ns.getD ((i + 1) % ns.length) 0)) (ns.getD i 0 / 5), ?_⟩⟩
      have s3' := s2.trans s3
      have hp3 := s3 _ _ hp2
      have hxs3 : Paired (NamedAt H3) xs (pileN ns i).reverse := nameds_mono hxs (.of_same s3)
      have hpn : pileN ns (i + 1) = stepN (pileN ns i) (ns.getD i 0 % 5) (wordAt ns i) := rfl
      refine ⟨_, rfl, _, _, rfl, rfl, (show (0 : Int) < 11 by decide), rfl, _, rfl, ifD (fun e11 => ⟨_, rfl, _, _, rfl, rfl, ⟨by decide, by decide⟩, _, rfl, ?thn⟩) (fun e11 => ?els)⟩
      case thn | els =>
        first | rw [word_then e11] | rw [word_else e11]
        have hwd := wd_wordAt ns i
        generalize wordAt ns i = wd at hwd hpn
        generalize hgS : pileN ns i = S at hpn hxs3
        have hokS : ∀ t ∈ S, t.ok := by rw [← hgS]; exact pile_ok ns i
        have hszS : sizesN S ≤ 63 := by rw [← hgS]; have := pile_size ns i; omega
        refine ⟨_, rfl, rfl, _, rfl, ifD (fun h2 => iteT ?A) (fun h2 => ⟨_, rfl, rfl, _, rfl, ifD (fun h3 => ?B) (fun h3 => ?C)⟩)⟩
        case A | B =>
          have hway : ns.getD i 0 % 5 = 2 ∨ ns.getD i 0 % 5 = 3 := by first | exact .inr (V.int.inj h3) | exact .inl (V.int.inj h2)
          refine ⟨_, rfl, small' (by simp), fun e0 H4 n4 s4 h4 => ⟨_, _, _, rfl, rfl, SqL.of (s4 _ _ hp3), SqL.of h4, _, rfl, ifB (fun hE => ?form) (fun hE => ?emp)⟩⟩
          case form =>
            have hp4 := s4 _ _ hp3
            cases S with
            | nil =>
              cases paired_nil hxs3
              exact absurd hE (by simp)
            | cons t r =>
              rw [List.reverse_cons] at hxs3
              obtain ⟨xs', x, rfl, hxs', hx⟩ := paired_snoc_inv hxs3
              refine ⟨_, rfl, Or.inl ⟨rfl, _, SqL.of hp4⟩, _, _, _, rfl, rfl, hp4, fun H5 k5 hp5 => ?_⟩
              refine ⟨_, rfl, Or.inl ⟨rfl, _, SqL.of hp5⟩, _, rfl, _, rfl, small' (by show 3 ≤ 1000000; decide), fun q H6 n6 s6 h6 => ⟨_, _, _, rfl, rfl, s6 _ _ hp5, small (by simp at hxl; omega), fun H7 k7 hp7 => ?_⟩⟩
              have hp6 := s6 _ _ hp5
              have tu : Tups H3 H7 := (Tups.of_same s4).trans ((k5.tup1 hp4).trans ((Tups.of_same s6).trans (k7.tup1 hp6)))
              · exact ⟨hi, same_keep1 ((same_keep1 (s3'.trans s4) k5 np).trans s6) k7 np, ⟨_, hp7, by rw [hpn, stepN_form hway, List.reverse_cons]; exact paired_snoc (.form (k7.tup1 hp6 _ _ h6) (hx.mono tu)) (nameds_mono hxs' tu)⟩, _, _, _, _, _, _, _, _, rfl⟩
          case emp =>
            have hS0 : S = [] := by
              cases S with
              | nil => rfl
              | cons t r =>
                rw [List.reverse_cons] at hxs3
                obtain ⟨xs', x, rfl, hxs', hx⟩ := paired_snoc_inv hxs3
                exact absurd hE (by simp)
            have hp4 := s4 _ _ hp3
            have s4' := s3'.trans s4
            have hxs4 : Paired (NamedAt H4) xs S.reverse := nameds_mono hxs3 (.of_same s4)
            have hnm : stepN S (ns.getD i 0 % 5) wd = .name wd :: S := stepN_name (fun _ => hS0) fun _ => by rw [hS0]; exact Nat.zero_le _
            refine ⟨_, rfl, rfl, _, rfl, ifF (fun z => by have := V.int.inj z; omega) (iteF ?_)⟩
            refine ⟨_, rfl, Or.inl ⟨rfl, _, SqL.of hp4⟩, _, rfl, small' (by show 2 ≤ 1000000; decide), fun q H6 n6 s6 h6 => ⟨_, _, _, rfl, rfl, s6 _ _ hp4, small (by omega), fun H7 k7 hp7 => ?_⟩⟩
            have hp6 := s6 _ _ hp4
            exact ⟨hi, same_keep1 (s4'.trans s6) k7 np, ⟨_, hp7, by rw [hpn, hnm, List.reverse_cons]; exact paired_snoc (.name (k7.tup1 hp6 _ _ h6)) (nameds_mono hxs4 ((Tups.of_same s6).trans (k7.tup1 hp6)))⟩, _, _, _, _, _, _, _, _, rfl⟩
        case C =>
          have hp4 := hp3
          have s4' := s3'
          have hxs4 := hxs3
          refine iteF ⟨_, rfl, rfl, _, rfl, ifD (fun h4 => ⟨_, rfl, _, _, rfl, Or.inl (SqL.of hp3), _, _, rfl, rfl, _, rfl, ifD (fun hC => ?call) (fun hC => ?leaf2)⟩) (fun h4 => iteF ?leaf3)⟩
          case call =>
            have hC' : 1 < xs.length := by have : (1 : Int) < (xs.length : Int) := hC; omega
            have hlen := Paired.length hxs3
            rw [List.length_reverse] at hlen
            match S, hxs3, hlen, hpn, hokS, hszS with
            | [], _, hlen, _, _, _ => rw [hlen] at hC'; simp at hC'
            | [_], _, hlen, _, _, _ => rw [hlen] at hC'; simp at hC'
            | tb :: ta :: r, hxs3, hlen, hpn, hokS, hszS =>
              rw [List.reverse_cons, List.reverse_cons] at hxs3
              obtain ⟨xs1, x1, rfl, hxs1, hx1⟩ := paired_snoc_inv hxs3
              obtain ⟨xs2, x2', rfl, hxs2, hx2⟩ := paired_snoc_inv hxs1
              refine ⟨_, rfl, Or.inl ⟨rfl, _, SqL.of hp3⟩, _, _, _, rfl, rfl, hp3, fun H5 k5 hp5 => ⟨_, rfl, Or.inl ⟨rfl, _, SqL.of hp5⟩, _, _, _, rfl, rfl, hp5, fun H6 k6 hp6 => ?_⟩⟩
              refine ⟨_, rfl, Or.inl ⟨rfl, _, SqL.of hp6⟩, _, rfl, _, rfl, small' (by show 3 ≤ 1000000; decide), fun q H7 n7 s7 h7 => ⟨_, _, _, rfl, rfl, s7 _ _ hp6, small (by simp at hxl; omega), fun H8 k8 hp8 => ?_⟩⟩
              have hp7 := s7 _ _ hp6
              have tu : Tups H3 H8 := (k5.tup1 hp3).trans ((k6.tup1 hp5).trans ((Tups.of_same s7).trans (k8.tup1 hp7)))
              · exact ⟨hi, same_keep1 ((same_keep1 (same_keep1 s4' k5 np) k6 np).trans s7) k8 np, ⟨_, hp8, by rw [hpn, stepN_call (V.int.inj h4), List.reverse_cons]; exact paired_snoc (.call (k8.tup1 hp7 _ _ h7) (hx2.mono tu) (hx1.mono tu)) (nameds_mono hxs2 tu)⟩, _, _, _, _, _, _, _, _, rfl⟩
          case leaf2 =>
            have hnm : stepN S (ns.getD i 0 % 5) wd = .name wd :: S := stepN_name (fun z => by rcases z with z | z; exact absurd (congrArg V.int z) h2; exact absurd (congrArg V.int z) h3) fun _ => by
              have hC' : ¬ 1 < xs.length := fun z => hC (show (1 : Int) < (xs.length : Int) by omega)
              have hlen := Paired.length hxs3
              rw [List.length_reverse] at hlen
              omega
            refine ⟨_, rfl, Or.inl ⟨rfl, _, SqL.of hp4⟩, _, rfl, small' (by show 2 ≤ 1000000; decide), fun q H6 n6 s6 h6 => ⟨_, _, _, rfl, rfl, s6 _ _ hp4, small (by omega), fun H7 k7 hp7 => ?_⟩⟩
            have hp6 := s6 _ _ hp4
            exact ⟨hi, same_keep1 (s4'.trans s6) k7 np, ⟨_, hp7, by rw [hpn, hnm, List.reverse_cons]; exact paired_snoc (.name (k7.tup1 hp6 _ _ h6)) (nameds_mono hxs4 ((Tups.of_same s6).trans (k7.tup1 hp6)))⟩, _, _, _, _, _, _, _, _, rfl⟩
          case leaf3 =>
            have hnm : stepN S (ns.getD i 0 % 5) wd = .name wd :: S := stepN_name (fun z => by rcases z with z | z; exact absurd (congrArg V.int z) h2; exact absurd (congrArg V.int z) h3) fun z => absurd (congrArg V.int z) h4
            refine ⟨_, rfl, Or.inl ⟨rfl, _, SqL.of hp4⟩, _, rfl, small' (by show 2 ≤ 1000000; decide), fun q H6 n6 s6 h6 => ⟨_, _, _, rfl, rfl, s6 _ _ hp4, small (by omega), fun H7 k7 hp7 => ?_⟩⟩
            have hp6 := s6 _ _ hp4
            exact ⟨hi, same_keep1 (s4'.trans s6) k7 np, ⟨_, hp7, by rw [hpn, hnm, List.reverse_cons]; exact paired_snoc (.name (k7.tup1 hp6 _ _ h6)) (nameds_mono hxs4 ((Tups.of_same s6).trans (k7.tup1 hp6)))⟩, _, _, _, _, _, _, _, _, rfl⟩
    · rintro σ H2 ⟨_, s2, ⟨xs, hp2, hxs⟩, x2, x3, x4, x5, x6, x7, x8, x9, rfl⟩
      have hxl : xs.length ≤ 63 := by
        rw [Paired.length hxs, List.length_reverse]
        have h1 := len_sizesN (pileN ns ns.length)
        have h2 := pile_size ns ns.length
        omega
      have hsz := pile_size ns ns.length
      have hln := len_sizesN (pileN ns ns.length)
      refine ⟨_, rfl, small' (by simp), fun e0 H3 n3 s3 h3 => ⟨_, _, _, rfl, rfl, SqL.of (s3 _ _ hp2), SqL.of h3, _, rfl, ifB
        (fun hE => ⟨_, rfl, Or.inl ⟨rfl, _, SqL.of (s3 _ _ hp2)⟩, small' (by simp), fun q H4 n4 s4 h4 => ⟨_, _, _, rfl, rfl, s4 _ _ (s3 _ _ hp2), ?len, fun H5 k5 hp5 => have hI : ∃ n, InvM__law_wordy H p ns H5 n := ?hi1; ?w1⟩⟩) (fun hE => have hI : ∃ n, InvM__law_wordy H p ns H3 n := ?hi2; ?w2)⟩⟩
      case len =>
        have e : xs = [] := List.isEmpty_iff.mp (by simpa using hE)
        rw [e]
        exact small (by simp)
      case hi1 =>
        have e : xs = [] := List.isEmpty_iff.mp (by simpa using hE)
        subst e
        have e0 : pileN ns ns.length = [] := by
          have := Paired.length hxs
          rw [List.length_reverse] at this
          exact List.length_eq_zero_iff.mp this.symm
        refine ⟨1, _, [.name (Str.ofString "sab")], same_keep1 ((s2.trans s3).trans s4) k5 np, hp5, .cons (.name (k5.tup1 (s4 _ _ (s3 _ _ hp2)) _ _ h4)) .nil, by unfold wordyT; rw [e0]; rfl, by simp, fun t ht => ?_, (show 1 + 0 + 1 ≤ 200 by decide), rfl⟩
        rw [List.mem_singleton.mp ht]
        exact wd_sab
      case hi2 =>
        refine ⟨_, xs, pileN ns ns.length, s2.trans s3, s3 _ _ hp2, nameds_mono hxs (.of_same s3), rfl, fun z => ?_, pile_ok ns _, by omega, rfl⟩
        rw [z] at hxs
        cases paired_nil hxs
        exact absurd hE (by simp)
      case w1 | w2 =>
        refine ⟨fun m σ H' => InvM__law_wordy H p ns H' m ∧ ∃ x2 x3 x4 x5 x6 x7 x8 x9, σ = [some (.ref a), some (.ref p), x2, x3, x4, x5, x6, x7, x8, x9], ?_, ?_⟩
        · obtain ⟨n, hI⟩ := hI
          exact ⟨n, hI, _, _, _, _, _, _, _, _, rfl⟩
        · rintro m σ H6 ⟨⟨xs, S, s6, hp6, hxs6, hcl, hne, hok, hsum, rfl⟩, x2, x3, x4, x5, x6, x7, x8, x9, rfl⟩
          have hlen := Paired.length hxs6
          rw [List.length_reverse] at hlen
          refine ⟨_, rfl, _, _, rfl, Or.inl (SqL.of hp6), _, _, rfl, rfl, _, rfl, ifD (fun hC => ?_) (fun hC => ?_)⟩
          · have hC' : 1 < xs.length := by have : (1 : Int) < (xs.length : Int) := hC; omega
            match S, hxs6, hlen, hcl, hok, hsum with
            | [], _, hlen, _, _, _ => rw [hlen] at hC'; simp at hC'
            | [_], _, hlen, _, _, _ => rw [hlen] at hC'; simp at hC'
            | tb :: ta :: r, hxs3, hlen, hcl, hok, hsum =>
              refine ⟨fun σ' H' => ∃ m', m' < (tb :: ta :: r).length ∧ (InvM__law_wordy H p ns H' m' ∧ ∃ x2 x3 x4 x5 x6 x7 x8 x9, σ' = [some (.ref a), some (.ref p), x2, x3, x4, x5, x6, x7, x8, x9]), fun _ _ h => h, ?_⟩
              rw [List.reverse_cons, List.reverse_cons] at hxs3
              obtain ⟨xs1, x1, rfl, hxs1, hx1⟩ := paired_snoc_inv hxs3
              obtain ⟨xs2, x2', rfl, hxs2, hx2⟩ := paired_snoc_inv hxs1
              have hxl : xs2.length ≤ 200 := by simp at hlen; simp at hsum; omega
              have hokS := hok
              have hszS : sizesN (tb :: ta :: r) ≤ 200 := by omega
              refine ⟨_, rfl, Or.inl ⟨rfl, _, SqL.of hp6⟩, _, _, _, rfl, rfl, hp6, fun H7 k7 hp7 => ⟨_, rfl, Or.inl ⟨rfl, _, SqL.of hp7⟩, _, _, _, rfl, rfl, hp7, fun H8 k8 hp8 => ?_⟩⟩
              refine ⟨_, rfl, Or.inl ⟨rfl, _, SqL.of hp8⟩, _, rfl, _, rfl, small' (by simp), fun q9 H9 n9 s9 h9 => ⟨_, _, _, rfl, rfl, s9 _ _ hp8, small (by omega), fun H10 k10 hp10 => ?_⟩⟩
              have hp9 := s9 _ _ hp8
              have tu : Tups H6 H10 := ((k7.tup1 hp6).trans (k8.tup1 hp7)).trans ((Tups.of_same s9).trans (k10.tup1 hp9))
              · refine ⟨r.length + 1, by simp, ⟨_, .call ta tb :: r, same_keep1 ((same_keep1 (same_keep1 s6 k7 np) k8 np).trans s9) k10 np, hp10, by rw [List.reverse_cons]; exact paired_snoc (.call (k10.tup1 hp9 _ _ h9) (hx2.mono tu) (hx1.mono tu)) (nameds_mono hxs2 tu), by rw [← closeN_call]; exact hcl, by simp, fun t ht => ?_, ?_, rfl⟩, _, _, _, _, _, _, _, _, rfl⟩
                · rcases List.mem_cons.mp ht with rfl | ht
                  · exact ⟨hok ta (by simp), hok tb (by simp)⟩
                  · exact hok t (List.mem_cons_of_mem _ (List.mem_cons_of_mem _ ht))
                · simp only [sizesN, List.map_cons, List.sum_cons, NT.size, List.length_cons] at hsum ⊢
                  omega
          · have hC' : ¬ 1 < xs.length := fun z => hC (show (1 : Int) < (xs.length : Int) by omega)
            match S, hxs6, hlen, hcl, hne with
            | [t], .cons (a := x) (l₁ := r) hx hr, _, hcl, _ =>
              cases hr
              have hcl : t = wordyT ns := hcl
              subst hcl
              exact ⟨_, rfl, _, _, _, _, rfl, rfl, SqL.of hp6, at0, k _ H6 s6 hx⟩
            | _ :: _ :: _, _, hlen, _, _ => exact absurd hC' (by rw [hlen]; simp)
            | [], _, _, _, hne => exact absurd rfl hne
end
end NC
/-! ### the law k07 -/
namespace NC
open PySem PySem.Spec PyProof.Rows L2
theorem termD_tup : ∀ t : Tm, ∃ l, termD t = .tup l
  | .name _ => ⟨_, rfl⟩
  | .place _ => ⟨_, rfl⟩
  | .form _ => ⟨_, rfl⟩
  | .call _ _ => ⟨_, rfl⟩
theorem tup2 {a b c d : Dt} (h : Dt.tup [a, b] = Dt.tup [c, d]) : b = d := by
  injection h with h
  injection h with _ h
  injection h
theorem tup3 {a b c d e f : Dt} (h : Dt.tup [a, b, c] = Dt.tup [d, e, f]) : b = e ∧ c = f := by
  injection h with h
  injection h with _ h
  injection h with h1 h
  injection h with h2
  exact ⟨h1, h2⟩
theorem tup23 {a b c d e : Dt} (h : Dt.tup [a, b] = Dt.tup [c, d, e]) : False := by
  injection h with h
  injection h with _ h
  injection h with _ h
  cases h
theorem termD_inj : ∀ {a b : Tm}, termD a = termD b → a = b
  | .name w, .name u, h => by injection (tup2 h) with h; rw [h]
  | .name _, .place _, h => by cases (tup2 h)
  | .name _, .form b, h => by obtain ⟨l, e⟩ := termD_tup b; have := tup2 h; rw [e] at this; cases this
  | .name _, .call _ _, h => (tup23 h).elim
  | .place _, .name _, h => by cases (tup2 h)
  | .place n, .place m, h => by injection (tup2 h) with h; rw [Int.ofNat_inj.mp h]
  | .place _, .form b, h => by obtain ⟨l, e⟩ := termD_tup b; have := tup2 h; rw [e] at this; cases this
  | .place _, .call _ _, h => (tup23 h).elim
  | .form b, .name _, h => by obtain ⟨l, e⟩ := termD_tup b; have := tup2 h; rw [e] at this; cases this
  | .form b, .place _, h => by obtain ⟨l, e⟩ := termD_tup b; have := tup2 h; rw [e] at this; cases this
  | .form b, .form c, h => by rw [termD_inj (tup2 h)]
  | .form _, .call _ _, h => (tup23 h).elim
  | .call _ _, .name _, h => (tup23 h.symm).elim
  | .call _ _, .place _, h => (tup23 h.symm).elim
  | .call _ _, .form _, h => (tup23 h.symm).elim
  | .call a b, .call c d, h => by rw [termD_inj (tup3 h).1, termD_inj (tup3 h).2]
section
variable {P : Program} {w : World} {K : PySem.W.Frag} {mg : Str → Option Value} {base : Heap}
seal L2.PE L2.PA L2.PT L2.PS L2.PSs L2.PW L2.PG L2.PGs L2.PI L2.PO L2.OpR L2.UnR L2.CallR L2.TruR L2.IxR L2.SlR
abbrev s_law : Stmt := top 17
theorem sc_law : FnScope ["_law_script", "_law_one", "_law_way", "_law_other", "_law_due", "_law_term", "_law_found", "_law_told", "_law_back"] ["_law_script"] (defScope s_law) := ⟨rfl, rfl, rfl, by decide +kernel, rfl, by decide +kernel, by decide +kernel⟩
inductive Sp_lawI (T0 : Addr) (K : PySem.W.Frag) (vs : List V) (H : Hp) (Q : VK) : Prop where
  | mk (a : _) (ns : List Int) (c1 : vs = [.ref a]) (c2 : SqL K H a (ns.map V.int)) (c3 : ns.length ≤ 63) (c4 : NumTab T0 H) (c5 : ∀ H', Q (.bl true) H')
def sp_law (T0 : Addr) (K : PySem.W.Frag) : Sp := fun vs H Q u3_ => Sp_lawI T0 K vs H Q
inductive InvLaw7 (T0 : Addr) (a : Addr) (v1 v2 : V) (way : V) (due : Bool) (t r : NT) (q : Addr) (σ : L2.St) (H' : Hp) : Prop where
  | mk (x5 x6 : Option V) (c1 : σ = [some (.ref a), some v1, some way, some v2, some (.bl due), x5, x6, none, none]) (c2 : NumTab T0 H') (c3 : H' q = some (.lst [v1, v2])) (c4 : NamedAt H' v1 t) (c5 : NamedAt H' v2 r)
theorem kit_bb (K : PySem.W.Frag) : PySem.W.kitOne K (.type "bool") (.type "bool") = some true := by rfl
theorem signs20 : (Str.ofString "wvutsrqonmlkjihgfedc").cps.toList.length = 20 := by decide +kernel
theorem ok_law {f T0 : Addr} {fd : FuncData} (F : Fun K "law" "law" s_law f fd) (N_ : NoNames mg) (G__law_wordy : GF P w K mg base CX0 2 "_law_wordy" ["_law_cells"] (sp_wordy K)) (G__law_room : GF P w K mg base CX0 1 "_law_room" ["_law_script", "_law_most", "_law_bound"] (sp_room K))
    (G__law_at : GF P w K mg base CX0 1 "_law_at" ["_law_script", "_law_k"] (sp_lat K)) (G__law_reworded : GF P w K mg base CX0 1 "_law_reworded" ["_law_term", "_law_signs", "_law_way", "_law_spot"] sp_reworded) (G__law_counted : GF P w K mg base CX0 1 "_law_counted" ["_law_term"] sp_counted)
    (G__law_is_term : GF P w K mg base CX0 2 "_law_is_term" ["_law_found"] sp_lis_term) (G_numbered : GF P w K mg base CX0 3 "numbered" ["term"] (sp_numbered T0)) (G_alike : GF P w K mg base CX0 4 "alike" ["one", "other"] (sp_alike T0)) :
    FnOk P w K mg base CX0 5 f fd ["_law_script"] (sp_law T0 K) := by
  refine F.ok sc_law (fun vs H Q E h => ?_) (fun cdv A outer s H vs Q E hr h => ?_)
  · obtain ⟨a, ns, rfl, _⟩ := h
    rfl
  · obtain ⟨a, ns, rfl, hS, hl, tab, k⟩ := h
    have hu : A.units + 3 + 16 * 4 + 200 < cLine := hr.un
    refine ⟨_, (pss_cons (ps_set (i := 1) sc_law.nd rfl (Or.inl rfl) (pe_gf G__law_wordy (hr.mono (by decide)) rfl pass0 (pa_c (pe_slice sl_ls (pv 0) (po_some pe_int) (po_some (pe_op op_add pe_int (pe_gf G__law_room (hr.mono (by decide)) rfl pass0 (pa_c (pv 0) (pa_c pe_int (pa_c pe_int pa_nil))))))) pa_nil)))
      (pss_cons (ps_set (i := 2) sc_law.nd rfl (Or.inl rfl) (pe_op op_mod (pe_gf G__law_at (hr.mono (by decide)) rfl pass0 (pa_c (pv 0) (pa_c pe_int pa_nil))) pe_int))
      (pss_cons (ps_set (i := 3) sc_law.nd rfl (Or.inl rfl) (pe_gf G__law_reworded (hr.mono (by decide)) rfl pass0 (pa_c (pv 1) (pa_c pe_str (pa_c (pv 2) (pa_c (pe_gf G__law_at (hr.mono (by decide)) rfl pass0 (pa_c (pv 0) (pa_c pe_int pa_nil))) pa_nil))))))
      (pss_cons (ps_set (i := 4) sc_law.nd rfl (Or.inl rfl) (pe_cmpR op_eqD (pe_gf G__law_counted (hr.mono (by decide)) rfl pass0 (pa_c (pv 1) pa_nil)) (pe_gf G__law_counted (hr.mono (by decide)) rfl pass0 (pa_c (pv 3) pa_nil)) (nomark _)))
      (pss_cons (ps_for PassesOwn.never rfl (pi_list (pLst (pa_c (pv 1) (pa_c (pv 3) pa_nil)))) (pg_name (i := 5) sc_law.nd rfl (Or.inl rfl)) (pss_cons (ps_set (i := 6) sc_law.nd rfl (Or.inl rfl) (pe_gf G_numbered (hr.mono (by decide)) rfl pass0 (pa_c (pv 5) pa_nil)))
      (pss_one (ps_if (PW.pt (pw_or (pt_not (pt_val (pe_gf G__law_is_term (hr.mono (by decide)) rfl pass0 (pa_c (pv 6) pa_nil)))) (pw_or1 (pt_cmpR op_neD (pv 6) (pe_gf G__law_counted (hr.mono (by decide)) rfl pass0 (pa_c (pv 5) pa_nil)) (nomark _))))) (pss_one (ps_ret pe_bl)) pss_nil))))
      (pss_cons (ps_set (i := 7) sc_law.nd rfl (Or.inl rfl) (pe_gf G_alike (hr.mono (by decide)) rfl pass0 (pa_c (pv 1) (pa_c (pv 3) pa_nil))))
      (pss_cons (ps_set (i := 8) sc_law.nd rfl (Or.inl rfl) (pe_gf G_alike (hr.mono (by decide)) rfl pass0 (pa_c (pv 3) (pa_c (pv 1) pa_nil))))
      (pss_cons (ps_if (PW.pt (pw_or (pt_not (pt_val (pCB call_isi (by rfl) N_.isinstance boot_isinstance (pa_c (pv 7) (pa_c (pe_bltn (v := V.ty "bool") rfl N_.bool boot_bool rfl) pa_nil))))) (pw_or1 (pt_not (pt_val (pCB call_isi (by rfl) N_.isinstance boot_isinstance (pa_c (pv 8) (pa_c (pe_bltn (v := V.ty "bool") rfl N_.bool boot_bool rfl) pa_nil)))))))) (pss_one (ps_ret pe_bl)) pss_nil)
      (pss_one (ps_ret (pe_and (pe_cmpR op_eq (pv 7) (pv 4) (nomark _)) (pe_one (pe_cmpR op_eq (pv 8) (pv 4) (nomark _)))))))))))))), ?_⟩
    show (let V1_ : TS := _; let V2_ : TS := _; let V3_ : TS := tSeq (tIfS _ V2_ _) V1_; let V4_ : TS := tSeq _ V3_; let V5_ : TS := tSeq _ V4_; let V6_ : TS := _; let V7_ : TS := tIfS _ V6_ _; let V8_ : TS := tSeq _ V7_; let V9_ : TS := tSeq (tFor _ _ V8_) V5_; let V10_ : TS := tSeq _ V9_; let V11_ : TS := tSeq _ V10_; let V12_ : TS := tSeq _ V11_; tSeq _ V12_ _ _ _)
    intro V1_ V2_ V3_ V4_ V5_ V6_ V7_ V8_ V9_ V10_ V11_ V12_
    refine ⟨_, rfl, _, rfl, _, rfl, a, ns, _, _, rfl, hS, hl, _, _, rfl, rfl, _, rfl, a, _, rfl, hS, fun p1 H1 np1 s1 h1 => ?_⟩
    obtain ⟨ms, e, hms⟩ := cut_ints ns (some 2) (some (2 + 20))
    rw [e] at h1
    refine ⟨p1, ms, rfl, SqL.of h1, by omega, fun v1 H2 s2 hv1 => ?_⟩
    have hS2 := sql_same (sql_same hS s1) s2
    have hsz := wordyT_size ms
    generalize wordyT ms = t at hv1 hsz
    refine ⟨_, rfl, a, ns, 0, rfl, hS2, hl, fun i0 => ⟨_, _, rfl, rfl, (show (0 : Int) < 3 by decide), ?_⟩⟩
    refine ⟨_, rfl, _, rfl, _, rfl, a, ns, 1, rfl, hS2, hl, fun i1 => ?_⟩
    refine ⟨v1, t, _, _, _, rfl, hv1, by omega, signs20, by omega, by omega, fun v2 H3 r s3 hv2 hrs => ?_⟩
    have hv1 := hv1.same s3
    generalize i0 % 3 = way
    refine ⟨_, rfl, v1, t, rfl, hv1, by omega, fun u1 H4 s4 hu1 => ⟨_, rfl, v2, r, rfl, hv2.same s4, by omega, fun u2 H5 s5 hu2 => ?_⟩⟩
    have hv1 := (hv1.same s4).same s5
    have hv2 := (hv2.same s4).same s5
    have tab := tab.nl (.of_same ((s1.trans s2).trans (s3.trans (s4.trans s5))))
    obtain ⟨c1, rfl⟩ := hu1.ref
    obtain ⟨c2, rfl⟩ := hu2.ref
    have d1 : t.numbered.deep ≤ 127 := by
      have h1 := T.deep_le t.numbered
      have h2 : t.numbered.size = t.size := num_size t []
      omega
    have d2 : r.numbered.deep ≤ 127 := by
      have h1 := T.deep_le r.numbered
      have h2 : r.numbered.size = r.size := num_size r []
      omega
    refine ⟨127, termD t.numbered, termD r.numbered, c1, c2, rfl, rfl, term_lim _ _ (by omega), by show A.units + 3 + 127 + 1 < cLine; omega, term_dat (hu1.same s5), term_dat hu2, fun due hdue => ?_⟩
    have hdue : due = true ↔ t.numbered = r.numbered := hdue.trans ⟨termD_inj, fun z => by rw [z]⟩
    refine ⟨_, rfl, _, rfl, small' (by show 2 ≤ 1000000; decide), fun q H6 nq s6 hq6 => ⟨q, rfl, ⟨_, SqL.of hq6⟩, for_list (K := K) (a := q) (xs := [v1, v2]) (fun _ σ H' => InvLaw7 T0 a v1 v2 (.int way) due t r q σ H') ?_ ?_ ?_ ?_⟩⟩
    · exact ⟨none, none, rfl, tab.nl (.of_same s6), hq6, hv1.same s6, hv2.same s6⟩
    · rintro i σ H' _ ⟨_, _, _, _, h, _⟩
      exact SqL.of h
    · rintro i x σ H7 hi ⟨x5, x6, rfl, tab7, hq7, h17, h27⟩
      have hx : ∃ z : NT, NamedAt H7 x z ∧ z.size ≤ 127 := by
        match i, hi with
        | 0, hi => cases hi; exact ⟨t, h17, by omega⟩
        | 1, hi => cases hi; exact ⟨r, h27, by omega⟩
      obtain ⟨z, hz, hzs⟩ := hx
      have zs : z.numbered.size = z.size := num_size z []
      have dz : z.numbered.deep ≤ 127 := by
        have h1 := T.deep_le z.numbered
        omega
      refine ⟨_, rfl, x, z, rfl, hz, by omega, tab7, fun vf H8 sx8 tab8 hvf => ?_⟩
      obtain ⟨cf, rfl⟩ := hvf.ref
      refine ⟨_, rfl, _, _, rfl, hvf, by omega, fun H9 s9 => ⟨_, rfl, iteF ⟨_, rfl, _, rfl, x, z, rfl, (hz.mono sx8.tups).same s9, by omega, fun vc H10 s10 hvc => ?_⟩⟩⟩
      obtain ⟨cc, rfl⟩ := hvc.ref
      refine ⟨127, termD z.numbered, termD z.numbered, cf, cc, rfl, rfl, term_lim _ _ (by omega), by show A.units + 3 + 127 + 1 < cLine; omega, term_dat ((hvf.same s9).same s10), term_dat hvc, fun b hb => ?_⟩
      rw [hb.mpr rfl]
      have sx := sx8.trans (.of (s9.trans s10))
      exact ⟨_, rfl, iteF ⟨_, _, rfl, tab8.nl (.of_same (s9.trans s10)), sx.lst hq7, h17.mono sx.tups, h27.mono sx.tups⟩⟩
    · rintro σ H7 ⟨x5, x6, rfl, tab7, hq7, h17, h27⟩
      refine ⟨_, rfl, _, rfl, v1, v2, t, r, rfl, h17, h27, by omega, by omega, tab7, fun b1 H8 hb1 sx8 tab8 => ?_⟩
      refine ⟨_, rfl, _, rfl, v2, v1, r, t, rfl, h27.mono sx8.tups, h17.mono sx8.tups, by omega, by omega, tab8, fun b2 H9 hb2 sx9 tab9 => ?_⟩
      have e1 : b1 = due := by
        rw [Bool.eq_iff_iff, hb1, hdue]
      have e2 : b2 = due := by
        rw [Bool.eq_iff_iff, hb2, hdue]
        exact ⟨Eq.symm, Eq.symm⟩
      subst e1 e2
      refine ⟨_, rfl, _, _, _, _, rfl, .bl _, kit_bb K, _, rfl, iteF ⟨_, rfl, _, _, _, _, rfl, .bl _, kit_bb K, _, rfl, iteF ?_⟩⟩
      refine ⟨_, rfl, _, rfl, rfl, _, rfl, ifT rfl ⟨_, rfl, _, rfl, rfl, ?_⟩⟩
      rw [decide_eq_true rfl]
      exact k H9
end
end NC
namespace NC
open PySem PySem.Spec PyProof.Rows L2
theorem all_mk {l : PySem.W.OpenLaw} {w : World} {K : PySem.W.Frag} {h : Heap} {mg : Str → Option Value} {fa c0 f1 f2 f3 f4 f5 f6 f7 f8 f9 f10 f11 f12 f13 f14 f15 : Addr} (T0 : Addr) (X : K.In h) (G : h.Ns mainGlobals mg) (hfa : mg "law" = some (.ref fa))
    {od1 an1 od2 an2 od3 an3 od4 an4 od5 an5 od6 an6 od7 an7 od8 an8 od9 an9 od10 an10 od11 an11 od12 an12 od13 an13 od14 an14 od15 an15 : Option Addr} {sl1 sl2 sl3 sl4 sl5 sl6 sl7 sl8 sl9 sl10 sl11 sl12 sl13 sl14 sl15 : Array (Option Value)} {oc1 kV1 dc1 pm1 ct1 cd1 oc2 kV2 dc2 pm2 ct2 cd2 oc3 kV3 dc3 pm3 ct3 cd3 oc4 kV4 dc4 pm4 ct4 cd4 oc5 kV5 dc5 pm5 ct5 oc6 kV6 dc6 pm6 ct6 cd6 oc7 kV7 dc7 pm7 ct7 cd7 oc8 kV8 dc8 pm8 ct8 cd8 oc9 kV9 dc9 pm9 ct9 cd9 oc10 kV10 dc10 pm10 ct10 cd10 oc11 kV11 dc11 pm11 ct11 cd11 oc12 kV12 dc12 pm12 ct12 cd12 oc13 kV13 dc13 pm13 ct13 cd13 oc14 kV14 dc14 pm14 ct14 cd14 oc15 kV15 dc15 pm15 ct15 cd15 : Value}
    (a1 : PySem.W.nsIn K mainGlobals "walk" = some (some (.ref f1)))
    (a2 : PySem.W.nsIn K mainGlobals "built" = some (some (.ref f2)))
    (a3 : PySem.W.nsIn K mainGlobals "same" = some (some (.ref f3)))
    (a4 : PySem.W.nsIn K mainGlobals "told_by_number" = some (some (.ref f4)))
    (a5 : PySem.W.nsIn K mainGlobals "numbered" = some (some (.ref f5)))
    (a6 : PySem.W.nsIn K mainGlobals "alike" = some (some (.ref f6)))
    (a7 : PySem.W.nsIn K mainGlobals "_law_whole" = some (some (.ref f7)))
    (a8 : PySem.W.nsIn K mainGlobals "_law_at" = some (some (.ref f8)))
    (a9 : PySem.W.nsIn K mainGlobals "_law_wordy" = some (some (.ref f9)))
    (a10 : PySem.W.nsIn K mainGlobals "_law_counted" = some (some (.ref f10)))
    (a11 : PySem.W.nsIn K mainGlobals "_law_is_term" = some (some (.ref f11)))
    (a12 : PySem.W.nsIn K mainGlobals "_law_reworded" = some (some (.ref f12)))
    (a13 : PySem.W.nsIn K mainGlobals "_law_room" = some (some (.ref f13)))
    (a14 : PySem.W.nsIn K mainGlobals "_law_any_word" = some (some (.ref f14)))
    (a15 : PySem.W.nsIn K mainGlobals "law" = some (some (.ref f15)))
    (l1 : K.lookup f1 = some ⟨oc1, od1, .func (PySem.W.fnOf "walk" "walk" (defArgs s_walk) (defBody s_walk) (defScope s_walk) .none kV1 dc1 pm1 an1 cd1 ct1), sl1⟩) (c1' : PySem.W.codeIn K cd1 "walk" = true) (k1 : PySem.W.keepIn K (.ref f1) = true)
    (l2 : K.lookup f2 = some ⟨oc2, od2, .func (PySem.W.fnOf "built" "built" (defArgs s_built) (defBody s_built) (defScope s_built) .none kV2 dc2 pm2 an2 cd2 ct2), sl2⟩) (c2' : PySem.W.codeIn K cd2 "built" = true) (k2 : PySem.W.keepIn K (.ref f2) = true)
    (l3 : K.lookup f3 = some ⟨oc3, od3, .func (PySem.W.fnOf "same" "same" (defArgs s_same) (defBody s_same) (defScope s_same) .none kV3 dc3 pm3 an3 cd3 ct3), sl3⟩) (c3' : PySem.W.codeIn K cd3 "same" = true) (k3 : PySem.W.keepIn K (.ref f3) = true)
    (l4 : K.lookup f4 = some ⟨oc4, od4, .func (PySem.W.fnOf "told_by_number" "told_by_number" (defArgs s_told_by_number) (defBody s_told_by_number) (defScope s_told_by_number) .none kV4 dc4 pm4 an4 cd4 ct4), sl4⟩) (c4' : PySem.W.codeIn K cd4 "told_by_number" = true) (k4 : PySem.W.keepIn K (.ref f4) = true)
    (l5 : K.lookup f5 = some ⟨oc5, od5, .func (PySem.W.fnOf "numbered" "numbered" (defArgs s_numbered) (defBody s_numbered) (defScope s_numbered) .none kV5 dc5 pm5 an5 (.ref c0) ct5), sl5⟩) (c5' : PySem.W.codeIn K (.ref c0) "numbered" = true) (k5 : PySem.W.keepIn K (.ref f5) = true)
    (l6 : K.lookup f6 = some ⟨oc6, od6, .func (PySem.W.fnOf "alike" "alike" (defArgs s_alike) (defBody s_alike) (defScope s_alike) .none kV6 dc6 pm6 an6 cd6 ct6), sl6⟩) (c6' : PySem.W.codeIn K cd6 "alike" = true) (k6 : PySem.W.keepIn K (.ref f6) = true)
    (l7 : K.lookup f7 = some ⟨oc7, od7, .func (PySem.W.fnOf "_law_whole" "_law_whole" (defArgs s__law_whole) (defBody s__law_whole) (defScope s__law_whole) .none kV7 dc7 pm7 an7 cd7 ct7), sl7⟩) (c7' : PySem.W.codeIn K cd7 "_law_whole" = true) (k7 : PySem.W.keepIn K (.ref f7) = true)
    (l8 : K.lookup f8 = some ⟨oc8, od8, .func (PySem.W.fnOf "_law_at" "_law_at" (defArgs s__law_at) (defBody s__law_at) (defScope s__law_at) .none kV8 dc8 pm8 an8 cd8 ct8), sl8⟩) (c8' : PySem.W.codeIn K cd8 "_law_at" = true) (k8 : PySem.W.keepIn K (.ref f8) = true)
    (l9 : K.lookup f9 = some ⟨oc9, od9, .func (PySem.W.fnOf "_law_wordy" "_law_wordy" (defArgs s__law_wordy) (defBody s__law_wordy) (defScope s__law_wordy) .none kV9 dc9 pm9 an9 cd9 ct9), sl9⟩) (c9' : PySem.W.codeIn K cd9 "_law_wordy" = true) (k9 : PySem.W.keepIn K (.ref f9) = true)
    (l10 : K.lookup f10 = some ⟨oc10, od10, .func (PySem.W.fnOf "_law_counted" "_law_counted" (defArgs s__law_counted) (defBody s__law_counted) (defScope s__law_counted) .none kV10 dc10 pm10 an10 cd10 ct10), sl10⟩) (c10' : PySem.W.codeIn K cd10 "_law_counted" = true) (k10 : PySem.W.keepIn K (.ref f10) = true)
    (l11 : K.lookup f11 = some ⟨oc11, od11, .func (PySem.W.fnOf "_law_is_term" "_law_is_term" (defArgs s__law_is_term) (defBody s__law_is_term) (defScope s__law_is_term) .none kV11 dc11 pm11 an11 cd11 ct11), sl11⟩) (c11' : PySem.W.codeIn K cd11 "_law_is_term" = true) (k11 : PySem.W.keepIn K (.ref f11) = true)
    (l12 : K.lookup f12 = some ⟨oc12, od12, .func (PySem.W.fnOf "_law_reworded" "_law_reworded" (defArgs s__law_reworded) (defBody s__law_reworded) (defScope s__law_reworded) .none kV12 dc12 pm12 an12 cd12 ct12), sl12⟩) (c12' : PySem.W.codeIn K cd12 "_law_reworded" = true) (k12 : PySem.W.keepIn K (.ref f12) = true)
    (l13 : K.lookup f13 = some ⟨oc13, od13, .func (PySem.W.fnOf "_law_room" "_law_room" (defArgs s__law_room) (defBody s__law_room) (defScope s__law_room) .none kV13 dc13 pm13 an13 cd13 ct13), sl13⟩) (c13' : PySem.W.codeIn K cd13 "_law_room" = true) (k13 : PySem.W.keepIn K (.ref f13) = true)
    (l14 : K.lookup f14 = some ⟨oc14, od14, .func (PySem.W.fnOf "_law_any_word" "_law_any_word" (defArgs s__law_any_word) (defBody s__law_any_word) (defScope s__law_any_word) .none kV14 dc14 pm14 an14 cd14 ct14), sl14⟩) (c14' : PySem.W.codeIn K cd14 "_law_any_word" = true) (k14 : PySem.W.keepIn K (.ref f14) = true)
    (l15 : K.lookup f15 = some ⟨oc15, od15, .func (PySem.W.fnOf "law" "law" (defArgs s_law) (defBody s_law) (defScope s_law) .none kV15 dc15 pm15 an15 cd15 ct15), sl15⟩) (c15' : PySem.W.codeIn K cd15 "law" = true) (k15 : PySem.W.keepIn K (.ref f15) = true)
    (z0 : PySem.W.nsIn K mainGlobals "len" = some none) (z1 : PySem.W.nsIn K mainGlobals "abs" = some none) (z2 : PySem.W.nsIn K mainGlobals "isinstance" = some none) (z3 : PySem.W.nsIn K mainGlobals "list" = some none) (z4 : PySem.W.nsIn K mainGlobals "tuple" = some none) (z5 : PySem.W.nsIn K mainGlobals "str" = some none) (z6 : PySem.W.nsIn K mainGlobals "reversed" = some none) (z7 : PySem.W.nsIn K mainGlobals "int" = some none) (z8 : PySem.W.nsIn K mainGlobals "bool" = some none) (z9 : PySem.W.nsIn K mainGlobals "zip" = some none) (z10 : PySem.W.nsIn K mainGlobals "range" = some none)
    (hC0 : PySem.W.codeHdIn K c0 T0 = true) (hT : [T0].Nodup) :
    ∃ fd : FuncData, (∀ (s : Shared) (v : Value), BindsTo s fd ⟨[v], []⟩ [("_law_script", v)]) ∧ ∀ base : Heap, K.In base → base.Ns mainGlobals mg → BltAt base mg → FnOk l.prog w K mg base CX0 5 fa fd ["_law_script"] (sp_law T0 K) := by
  have e := hfa.symm.trans (PySem.W.mg_of X G a15)
  cases e
  have N_ : NoNames mg := ⟨PySem.W.mg_none_of X G z0, PySem.W.mg_none_of X G z1, PySem.W.mg_none_of X G z2, PySem.W.mg_none_of X G z3, PySem.W.mg_none_of X G z4, PySem.W.mg_none_of X G z5, PySem.W.mg_none_of X G z6, PySem.W.mg_none_of X G z7, PySem.W.mg_none_of X G z8, PySem.W.mg_none_of X G z9, PySem.W.mg_none_of X G z10⟩
  have F1 := fun_mk (st := s_walk) l1 c1' k1
  have b1 := F1.binds (ps := ["term", "around", "inward"]) fun _ _ _ _ _ _ us hl => by obtain ⟨_, _, _, rfl⟩ := len3 hl; rfl
  have m1 := PySem.W.mg_of X G a1
  have F2 := fun_mk (st := s_built) l2 c2' k2
  have b2 := F2.binds (ps := ["found", "leaf", "over"]) fun _ _ _ _ _ _ us hl => by obtain ⟨_, _, _, rfl⟩ := len3 hl; rfl
  have m2 := PySem.W.mg_of X G a2
  have F3 := fun_mk (st := s_same) l3 c3' k3
  have b3 := F3.binds (ps := ["one", "other"]) fun _ _ _ _ _ _ us hl => by obtain ⟨_, _, rfl⟩ := len2 hl; rfl
  have m3 := PySem.W.mg_of X G a3
  have F4 := fun_mk (st := s_told_by_number) l4 c4' k4
  have b4 := F4.binds (ps := ["part", "around"]) fun _ _ _ _ _ _ us hl => by obtain ⟨_, _, rfl⟩ := len2 hl; rfl
  have m4 := PySem.W.mg_of X G a4
  have F5 : FunC K "numbered" "numbered" s_numbered f5 _ c0 := ⟨⟨_, _, _, _, _, _, _, _, rfl, l5, c5'⟩⟩
  have b5 : Binds K (PySem.W.fnOf "numbered" "numbered" (defArgs s_numbered) (defBody s_numbered) (defScope s_numbered) .none kV5 dc5 pm5 an5 (.ref c0) ct5) ["term"] [] := .all fun us hl => by obtain ⟨_, rfl⟩ := len1 hl; rfl
  have m5 := PySem.W.mg_of X G a5
  have F6 := fun_mk (st := s_alike) l6 c6' k6
  have b6 := F6.binds (ps := ["one", "other"]) fun _ _ _ _ _ _ us hl => by obtain ⟨_, _, rfl⟩ := len2 hl; rfl
  have m6 := PySem.W.mg_of X G a6
  have F7 := fun_mk (st := s__law_whole) l7 c7' k7
  have b7 := F7.binds (ps := ["_law_found"]) fun _ _ _ _ _ _ us hl => by obtain ⟨_, rfl⟩ := len1 hl; rfl
  have m7 := PySem.W.mg_of X G a7
  have F8 := fun_mk (st := s__law_at) l8 c8' k8
  have b8 := F8.binds (ps := ["_law_script", "_law_k"]) fun _ _ _ _ _ _ us hl => by obtain ⟨_, _, rfl⟩ := len2 hl; rfl
  have m8 := PySem.W.mg_of X G a8
  have F9 := fun_mk (st := s__law_wordy) l9 c9' k9
  have b9 := F9.binds (ps := ["_law_cells"]) fun _ _ _ _ _ _ us hl => by obtain ⟨_, rfl⟩ := len1 hl; rfl
  have m9 := PySem.W.mg_of X G a9
  have F10 := fun_mk (st := s__law_counted) l10 c10' k10
  have b10 := F10.binds (ps := ["_law_term"]) fun _ _ _ _ _ _ us hl => by obtain ⟨_, rfl⟩ := len1 hl; rfl
  have m10 := PySem.W.mg_of X G a10
  have F11 := fun_mk (st := s__law_is_term) l11 c11' k11
  have b11 := F11.binds (ps := ["_law_found"]) fun _ _ _ _ _ _ us hl => by obtain ⟨_, rfl⟩ := len1 hl; rfl
  have m11 := PySem.W.mg_of X G a11
  have F12 := fun_mk (st := s__law_reworded) l12 c12' k12
  have b12 := F12.binds (ps := ["_law_term", "_law_signs", "_law_way", "_law_spot"]) fun _ _ _ _ _ _ us hl => by obtain ⟨_, _, _, _, rfl⟩ := len4 hl; rfl
  have m12 := PySem.W.mg_of X G a12
  have F13 := fun_mk (st := s__law_room) l13 c13' k13
  have b13 := F13.binds (ps := ["_law_script", "_law_most", "_law_bound"]) fun _ _ _ _ _ _ us hl => by obtain ⟨_, _, _, rfl⟩ := len3 hl; rfl
  have m13 := PySem.W.mg_of X G a13
  have F14 := fun_mk (st := s__law_any_word) l14 c14' k14
  have b14 := F14.binds (ps := ["_law_cell"]) fun _ _ _ _ _ _ us hl => by obtain ⟨_, rfl⟩ := len1 hl; rfl
  have m14 := PySem.W.mg_of X G a14
  have F15 := fun_mk (st := s_law) l15 c15' k15
  have b15 := F15.binds (ps := ["_law_script"]) fun _ _ _ _ _ _ us hl => by obtain ⟨_, rfl⟩ := len1 hl; rfl
  have m15 := PySem.W.mg_of X G a15
  refine ⟨PySem.W.fnOf "law" "law" (defArgs s_law) (defBody s_law) (defScope s_law) .none kV15 dc15 pm15 an15 cd15 ct15, fun s v => .of_eq rfl, fun base KB _ BB => ?_⟩
  have Gw : GB l.prog w K mg base CX0 2 "walk" ["term", "around", "inward"] (sp_walkN 1 l.prog w K mg) := fun base' _ => ⟨_, _, ok_walkN F1, m1, k1, b1⟩
  have Gb : GB l.prog w K mg base CX0 2 "built" ["found", "leaf", "over"] (sp_builtN 1 l.prog w K mg) := fun base' _ => ⟨_, _, ok_builtN F2 N_, m2, k2, b2⟩
  have Ft : FV l.prog w K mg base CX0 1 f4 ["part", "around"] (sp_leafN byNum) := ⟨_, _, _, _, ok_told F4, KB _ _ l4, b4⟩
  have G_numbered : GF l.prog w K mg base CX0 3 "numbered" ["term"] (sp_numbered T0) := ⟨_, _, ok_numbered F5 hC0 BB m4 (fun base' lg => Ft.larger lg) Gw Gb, m5, k5, b5⟩
  have G_same : GF l.prog w K mg base CX0 1 "same" ["one", "other"] sp_same := ⟨_, _, ok_same F3 N_, m3, k3, b3⟩
  have G_alike : GF l.prog w K mg base CX0 4 "alike" ["one", "other"] (sp_alike T0) := ⟨_, _, ok_alike F6 G_numbered G_same, m6, k6, b6⟩
  have G__law_whole : GF l.prog w K mg base CX0 1 "_law_whole" ["_law_found"] sp_whole := ⟨_, _, ok__law_whole F7 N_, m7, k7, b7⟩
  have G__law_any_word : GF l.prog w K mg base CX0 1 "_law_any_word" ["_law_cell"] sp_any_wordF := ⟨_, _, ok_any_wordF F14 N_, m14, k14, b14⟩
  have G__law_wordy : GF l.prog w K mg base CX0 2 "_law_wordy" ["_law_cells"] (sp_wordy K) := ⟨_, _, ok__law_wordy F9 N_ G__law_any_word, m9, k9, b9⟩
  have G__law_at : GF l.prog w K mg base CX0 1 "_law_at" ["_law_script", "_law_k"] (sp_lat K) := ⟨_, _, ok__law_at F8 N_, m8, k8, b8⟩
  have G__law_room : GF l.prog w K mg base CX0 1 "_law_room" ["_law_script", "_law_most", "_law_bound"] (sp_room K) := ⟨_, _, ok__law_room F13 N_, m13, k13, b13⟩
  have G__law_counted : GF l.prog w K mg base CX0 1 "_law_counted" ["_law_term"] sp_counted := ⟨_, _, ok__law_counted F10 N_, m10, k10, b10⟩
  have G__law_reworded : GF l.prog w K mg base CX0 1 "_law_reworded" ["_law_term", "_law_signs", "_law_way", "_law_spot"] sp_reworded := ⟨_, _, ok__law_reworded F12 N_, m12, k12, b12⟩
  have G__law_is_term : GF l.prog w K mg base CX0 2 "_law_is_term" ["_law_found"] sp_lis_term := ⟨_, _, ok__law_is_term F11 N_ G__law_whole, m11, k11, b11⟩
  exact ok_law F15 N_ G__law_wordy G__law_room G__law_at G__law_reworded G__law_counted G__law_is_term G_numbered G_alike
end NC
open PySem PySem.W PyProof.Rows
set_option maxRecDepth 100000 in
set_option maxHeartbeats 0 in
theorem PySem.Challenge.cw_namecall_k07_whole_words_make_no_differe_holds : PySem.Challenge.rw_namecall_k07_whole_words_make_no_differe.Holds := by
  w_on; o_law; k_head; (case hw => w_witness2)
  k_fill
  refine NC.walk_T (l := PySem.Challenge.rw_namecall_k07_whole_words_make_no_differe) (k := 5) (tabs := [(48, 44)]) (sp := NC.sp_law 44) (x := "_law_script") rfl rfl ⟨rfl, by decide, by decide⟩ (fun w h Y => PySem.W.km_in_of Y) ?Y ?T1 ?T2 ?F ?S
  case Y => exact fun w h Y => List.forall_mem_cons.mpr ⟨PySem.W.km_tabs_of Y 44 (by k_mem), fun _ h => nomatch h⟩
  case T1 => exact fun P => List.forall_mem_cons.mpr ⟨by kernel_rfl, fun _ h => nomatch h⟩
  case T2 => exact fun P => List.forall_mem_cons.mpr ⟨by kernel_rfl, fun _ h => nomatch h⟩
  case S => exact fun K H a ns hl hH hS => ⟨a, ns, rfl, hS, hl, .empty (hH _ (.head _)), fun _ => rfl⟩
  case F =>
    intro w mg fa h KX G hmg
    refine' NC.all_mk 44 KX G hmg ?a1 ?a2 ?a3 ?a4 ?a5 ?a6 ?a7 ?a8 ?a9 ?a10 ?a11 ?a12 ?a13 ?a14 ?a15 ?l1 ?c1' ?k1 ?l2 ?c2' ?k2 ?l3 ?c3' ?k3 ?l4 ?c4' ?k4 ?l5 ?c5' ?k5 ?l6 ?c6' ?k6 ?l7 ?c7' ?k7 ?l8 ?c8' ?k8 ?l9 ?c9' ?k9 ?l10 ?c10' ?k10 ?l11 ?c11' ?k11 ?l12 ?c12' ?k12 ?l13 ?c13' ?k13 ?l14 ?c14' ?k14 ?l15 ?c15' ?k15 ?z0 ?z1 ?z2 ?z3 ?z4 ?z5 ?z6 ?z7 ?z8 ?z9 ?z10 ?hC0 (by decide)
    (case a1 => k_is); (case a2 => k_is); (case a3 => k_is); (case a4 => k_is); (case a5 => k_is); (case a6 => k_is); (case a7 => k_is); (case a8 => k_is)
    (case a9 => k_is); (case a10 => k_is); (case a11 => k_is); (case a12 => k_is); (case a13 => k_is); (case a14 => k_is); (case a15 => k_is); (case l1 => k_is)
    (case c1' => k_is); (case k1 => k_is); (case l2 => k_is); (case c2' => k_is); (case k2 => k_is); (case l3 => k_is); (case c3' => k_is); (case k3 => k_is)
    (case l4 => k_is); (case c4' => k_is); (case k4 => k_is); (case l5 => k_is); (case c5' => k_is); (case k5 => k_is); (case l6 => k_is); (case c6' => k_is)
    (case k6 => k_is); (case l7 => k_is); (case c7' => k_is); (case k7 => k_is); (case l8 => k_is); (case c8' => k_is); (case k8 => k_is); (case l9 => k_is)
    (case c9' => k_is); (case k9 => k_is); (case l10 => k_is); (case c10' => k_is); (case k10 => k_is); (case l11 => k_is); (case c11' => k_is); (case k11 => k_is)
    (case l12 => k_is); (case c12' => k_is); (case k12 => k_is); (case l13 => k_is); (case c13' => k_is); (case k13 => k_is); (case l14 => k_is); (case c14' => k_is)
    (case k14 => k_is); (case l15 => k_is); (case c15' => k_is); (case k15 => k_is); (case z0 => k_is); (case z1 => k_is); (case z2 => k_is); (case z3 => k_is)
    (case z4 => k_is); (case z5 => k_is); (case z6 => k_is); (case z7 => k_is); (case z8 => k_is); (case z9 => k_is); (case z10 => k_is)
    (case hC0 => kernel_rfl)
