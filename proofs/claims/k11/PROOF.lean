import PyProof.Rows.All
import Wide.All
import OpenK.AllK
import Wide.FinOn
import Lean
import PyProof.EqAt
import PyProof.EqKinds
import PyProof.TupleCall
import PyProof.NeKinds
import PySem.Challenge.RW_namecall_k11_whole_at_once_by_single_ste
set_option Elab.async false
set_option linter.all false
set_option maxRecDepth 100000
/-! THE HAND LAYER, for ints, bools, texts, own classes, LISTS and tuples (index, slices, in, append, pop ..), calls, loops. Paste it whole ahead of your own text; what your proof does not reach may be deleted. -/
namespace L2
open PySem PySem.Spec PyProof.Rows

abbrev Key := Sum Int Str
def keyIs : Key -> Value -> Bool
  | .inl k, v => Value.isInt k v
  | .inr x, v => Value.isStrOf x v
def keyH (w : World) : Key -> Int
  | .inl k => hashInt k
  | .inr x => hashStr w x
theorem keyIs_shape : ∀ {k : Key} {v : Value}, keyIs k v = true -> (∃ i t, k = Sum.inl i /\ v = Value.int i t) ∨ (∃ x t, k = Sum.inr x /\ v = Value.str x t)
  | .inl i, v, h => by
    obtain ⟨t, e⟩ := Value.isInt_shape (k := i) (v := v) h
    exact .inl ⟨i, t, rfl, e⟩
  | .inr x, v, h => by
    obtain ⟨t, e⟩ := Value.isStrOf_shape (x := x) (v := v) h
    exact .inr ⟨x, t, rfl, e⟩
theorem keyIs_int (i : Int) (t : Tok) : keyIs (.inl i) (.int i t) = true := by simp [keyIs, Value.isInt]
theorem keyIs_str (x : Str) (t : Tok) : keyIs (.inr x) (.str x t) = true := by simp [keyIs, Value.isStrOf]
theorem key_ll (a b : Int) : decide ((Sum.inl a : Key) = Sum.inl b) = (a == b) := by
  by_cases e : a = b
  · subst e; simp
  · have h : ¬ (Sum.inl a : Key) = Sum.inl b := fun q => e (Sum.inl.inj q)
    rw [decide_eq_false h]
    exact (beq_eq_false_iff_ne.mpr e).symm
theorem key_rr (a b : Str) : decide ((Sum.inr a : Key) = Sum.inr b) = decide (a = b) := by
  by_cases e : a = b
  · subst e; simp
  · have h : ¬ (Sum.inr a : Key) = Sum.inr b := fun q => e (Sum.inr.inj q)
    rw [decide_eq_false h, decide_eq_false e]
theorem key_lr (a : Int) (b : Str) : decide ((Sum.inl a : Key) = Sum.inr b) = false := decide_eq_false (fun q => nomatch q)
theorem key_rl (a : Str) (b : Int) : decide ((Sum.inr a : Key) = Sum.inl b) = false := decide_eq_false (fun q => nomatch q)

def mixKind (prog : Program) (w : World) : PySem.KeyKind prog w Key where
  is := keyIs
  hash := keyH w
  inj := fun v a b ha hb => by
    rcases keyIs_shape ha with ⟨i, t, rfl, rfl⟩ | ⟨x, t, rfl, rfl⟩
    · rcases keyIs_shape hb with ⟨j, u, rfl, e⟩ | ⟨y, u, rfl, e⟩
      · injection e with e1 _; rw [e1]
      · exact nomatch e
    · rcases keyIs_shape hb with ⟨j, u, rfl, e⟩ | ⟨y, u, rfl, e⟩
      · exact nomatch e
      · injection e with e1 _; rw [e1]
  byValue := fun k v h => by
    rcases keyIs_shape h with ⟨i, t, rfl, rfl⟩ | ⟨x, t, rfl, rfl⟩ <;> rfl
  pyHash := fun hv h => by
    rcases keyIs_shape hv with ⟨i, t, rfl, rfl⟩ | ⟨x, t, rfl, rfl⟩
    · exact wpAny_pyHash_int h
    · exact wpAny_pyHash_str h
  eqBool := fun hu hv h => by
    rcases keyIs_shape hu with ⟨i, t, rfl, rfl⟩ | ⟨x, t, rfl, rfl⟩
    · rcases keyIs_shape hv with ⟨j, u, rfl, rfl⟩ | ⟨y, u, rfl, rfl⟩
      · rw [key_ll] at h; exact wpAny_eqBool_int h
      · rw [key_lr] at h; exact SeqAt.EqAt.int_str i t y u _ _ _ _ h
    · rcases keyIs_shape hv with ⟨j, u, rfl, rfl⟩ | ⟨y, u, rfl, rfl⟩
      · rw [key_rl] at h; exact SeqAt.EqAt.str_int x t j u _ _ _ _ h
      · rw [key_rr] at h; exact wpAny_eqBool_str h
  «strs» := fun k x t v h => by
    rcases keyIs_shape h with ⟨i, u, rfl, e⟩ | ⟨y, u, rfl, e⟩
    · exact nomatch e
    · injection e with e1 _
      subst e1
      cases v <;> rfl

theorem mixKind_int (prog : Program) (w : World) (i : Int) (t : Tok) : (mixKind prog w).is (.inl i) (.int i t) = true := keyIs_int i t
theorem mixKind_str (prog : Program) (w : World) (x : Str) (t : Tok) : (mixKind prog w).is (.inr x) (.str x t) = true := keyIs_str x t
end L2

namespace L2
open PySem PySem.Spec PyProof.Rows

inductive V where
  | non | bl (b : Bool) | int (i : Int) | str (x : Str) | byt (b : Array UInt8) | flt (b : UInt64) | ref (a : Addr) | ty (n : String)
  deriving DecidableEq

def RelV : V -> Value -> Prop
  | .non, u => u = Value.none
  | .bl b, u => u = Value.bool b
  | .int i, u => ∃ t, u = Value.int i t
  | .str x, u => ∃ t, u = Value.str x t
  | .byt b, u => ∃ t, u = Value.bytes b t
  | .flt b, u => ∃ t, u = Value.float b t
  | .ref a, u => u = Value.ref a
  | .ty n, u => u = Value.type n

abbrev Vals : List V -> List Value -> Prop := Paired RelV
theorem Vals.length {xs : List V} {us : List Value} (r : Vals xs us) : xs.length = us.length := Paired.length r
theorem Vals.get : ∀ {xs : List V} {us : List Value} {i : Nat} {x : V}, Vals xs us -> xs[i]? = some x -> ∃ u, us[i]? = some u /\ RelV x u
  | _, _, _, _, .nil, e => by simp at e
  | _, _, 0, _, .cons r _, e => by simp at e; subst e; exact ⟨_, rfl, r⟩
  | _, _, i + 1, x, .cons _ t, e => by
    obtain ⟨u, h1, h2⟩ := Vals.get (i := i) (x := x) t (by simpa using e)
    exact ⟨u, by simpa using h1, h2⟩
theorem Vals.set {x : V} {u : Value} (r : RelV x u) : ∀ {xs : List V} {us : List Value} (i : Nat), Vals xs us -> Vals (xs.set i x) (us.set i u)
  | _, _, _, .nil => .nil
  | _, _, 0, .cons _ t => .cons r t
  | _, _, i + 1, .cons q t => .cons q (Vals.set r i t)
theorem Vals.append : ∀ {xs ys : List V} {us ws : List Value}, Vals xs us -> Vals ys ws -> Vals (xs ++ ys) (us ++ ws)
  | _, _, _, _, .nil, s => s
  | _, _, _, _, .cons r t, s => .cons r (Vals.append t s)
theorem Vals.take : ∀ {xs : List V} {us : List Value} (n : Nat), Vals xs us -> Vals (xs.take n) (us.take n)
  | _, _, 0, _ => .nil
  | _, _, _ + 1, .nil => .nil
  | _, _, n + 1, .cons r t => .cons r (Vals.take n t)
theorem Vals.drop : ∀ {xs : List V} {us : List Value} (n : Nat), Vals xs us -> Vals (xs.drop n) (us.drop n)
  | _, _, 0, r => r
  | _, _, _ + 1, .nil => .nil
  | _, _, n + 1, .cons _ t => Vals.drop n t
theorem Vals.none_of : ∀ {xs : List V} {us : List Value} {i : Nat}, Vals xs us -> xs[i]? = none -> us[i]? = none := fun {xs us i} r e => by
  have h1 := r.length
  have h2 : xs.length <= i := List.getElem?_eq_none_iff.mp e
  exact List.getElem?_eq_none_iff.mpr (by omega)

def RelO : Option V -> Option Value -> Prop
  | some v, some u => RelV v u
  | none, none => True
  | _, _ => False
def KV {κ : Type} : List (κ × V) -> List (κ × Value) -> Prop := Paired fun (p : κ × V) (q : κ × Value) => p.1 = q.1 /\ RelV p.2 q.2

def kV : Key -> V
  | .inl i => .int i
  | .inr x => .str x

inductive HO where
  | lst (xs : List V)
  | tup (xs : List V)
  | dK (kvs : List (Key × V)) | dT (kvs : List (List Key × V))
  | set (S : Int -> Bool) (n : Nat)
  | ins (C dx : Addr) (fs : List (Str × V))
  | own (x : Addr)
  | xd (fs : List (Str × V))
  | met (f x : Addr)
  | rng (lo hi : Int)
  | frz (o : Obj) (u : HO)
  | tbl (ps : Array Value)
  | ext (φ : Heap -> Prop)

abbrev Hp := Addr -> Option HO
def upd (H : Hp) (a : Addr) (o : HO) : Hp := fun b => if b = a then some o else H b
theorem upd_same {H : Hp} {a : Addr} {o : HO} : upd H a o a = some o := by unfold upd; rw [if_pos rfl]
theorem upd_ne {H : Hp} {a b : Addr} {o : HO} (h : b ≠ a) : upd H a o b = H b := by unfold upd; rw [if_neg h]
theorem ne_of {H : Hp} {a b : Addr} {o u : HO} (h : H a = some o) (h' : H b = some u) (d : o ≠ u) : a ≠ b := by
  intro e; subst e; rw [h] at h'; exact d (Option.some.inj h')
theorem ne_of_none {H : Hp} {a b : Addr} {o : HO} (h : H a = some o) (h' : H b = none) : a ≠ b := by
  intro e; subst e; rw [h] at h'; cases h'

section
variable (P : Program) (w : World)
def ObjOk (H : Hp) (h : Heap) (a : Addr) : HO -> Prop
  | .lst xs => xs.length <= sizeLine /\ ∃ (its : List Value) (n : Nat), Vals xs its /\ h.get? a = some { cls := .type "list", data := .seq its.toArray n }
  | .tup xs => xs.length <= sizeLine /\ ∃ its : List Value, Vals xs its /\ IsTup h a its.toArray
  | .dK kvs => kvs.length <= sizeLine /\ (a == sysModules) = false /\ ∃ vs, KV kvs vs /\ h.DictOf (mixKind P w) a vs
  | .dT kvs => kvs.length <= sizeLine /\ (a == sysModules) = false /\ ∃ xs : List (List Key × Addr × Value),
      Paired (fun (p : List Key × V) (q : List Key × Addr × Value) => p.1 = q.1 /\ H q.2.1 = some (.tup (p.1.map kV)) /\ RelV p.2 q.2.2) kvs xs /\
      ∃ o es ep, h.get? a = some o /\ o.ExactDict /\ o.data = .dict es ep /\ es.toList = xs.map (entryOfKey (tupleKind (mixKind P w))) /\ (xs.map (·.1)).Nodup
  | .set S n => h.SetOf (intKind P w) a S n
  | .ins C dx fs => H dx = some (.own a) /\ fs.length <= 1000 /\ dx ≠ a /\ h.get? a = some (PySem.W.instObj C dx) /\
      ∃ mA, h.Ns1 dx mA /\ (∀ f, RelO (fs.lookup f) (mA f)) /\ PySem.Within mA (fs.map (·.1))
  | .own _ => ∃ o, h.get? a = some o
  | .xd fs => ∃ mA, h.Ns1 a mA /\ ∀ f, RelO (fs.lookup f) (mA f)
  | .rng lo hi => ∃ t u v, h.get? a = some { cls := .type "range", data := .fields #[.int lo t, .int hi u, .int 1 v] }
  | .frz o u => h.get? a = some o /\ ObjOk H h a u
  | .tbl ps => h.get? a = some { cls := .none, data := .fields ps }
  | .met f x => h.get? a = some (PySem.W.methodObj (.ref f) (.ref x))
  | .ext φ => φ h /\ (∃ o, h.get? a = some o) /\ ∀ h1 h2 : Heap, φ h1 -> (∀ o, h1.get? a = some o -> h2.get? a = some o) -> φ h2
def HOk (H : Hp) (h : Heap) : Prop := ∀ a o, H a = some o -> ObjOk P w H h a o
end

section
variable {P : Program} {w : World} {H H' : Hp} {h h' : Heap} {a : Addr} {o : HO}
theorem ObjOk.lt (x : ObjOk P w H h a o) : a < h.objs.size := by
  cases o with
  | lst xs => obtain ⟨_, _, _, _, e⟩ := x; exact Heap.lt_size e
  | tup xs => obtain ⟨_, _, _, p⟩ := x; exact p.lt
  | dK kvs => obtain ⟨_, _, _, _, o, _, _, e, _⟩ := x; exact Heap.lt_size e
  | dT kvs => obtain ⟨_, _, _, _, o, _, _, e, _⟩ := x; exact Heap.lt_size e
  | set S n => obtain ⟨o, _, _, _, e, _⟩ := x; exact Heap.lt_size e
  | ins C dx fs => obtain ⟨_, _, _, e, _⟩ := x; exact Heap.lt_size e
  | own y => obtain ⟨_, e⟩ := x; exact Heap.lt_size e
  | xd fs => obtain ⟨_, ⟨_, _, _, e, _⟩, _⟩ := x; exact Heap.lt_size e
  | rng lo hi => obtain ⟨_, _, _, e⟩ := x; exact Heap.lt_size e
  | frz ob u => obtain ⟨e, _⟩ := x; exact Heap.lt_size e
  | tbl ps => exact Heap.lt_size (show h.get? a = some _ from x)
  | met f y => exact Heap.lt_size (show h.get? a = some _ from x)
  | ext φ => obtain ⟨_, ⟨_, e⟩, _⟩ := x; exact Heap.lt_size e
theorem Paired.mapP {α β : Type} {F G : α -> β -> Prop} : ∀ {l₁ : List α} {l₂ : List β}, Paired F l₁ l₂ -> (∀ a b, F a b -> G a b) -> Paired G l₁ l₂
  | _, _, .nil, _ => .nil
  | _, _, .cons r t, f => .cons (f _ _ r) (Paired.mapP t f)
theorem Paired.imp' {α β : Type} {F G : α -> β -> Prop} (f : ∀ a b, F a b -> G a b) {l₁ : List α} {l₂ : List β} (r : Paired F l₁ l₂) : Paired G l₁ l₂ := Paired.mapP r f
theorem ObjOk.stay (x : ObjOk P w H h a o) (k : ∀ b u, (b = a ∨ H b = some (.own a)) -> h.get? b = some u -> h'.get? b = some u)
    (ho : ∀ b, H b = some (.own a) -> H' b = some (.own a)) (ht : ∀ b xs, H b = some (.tup xs) -> H' b = some (.tup xs)) : ObjOk P w H' h' a o := by
  induction o with
  | lst xs => obtain ⟨z, its, n, r, e⟩ := x; exact ⟨z, its, n, r, k _ _ (.inl rfl) e⟩
  | tup xs => obtain ⟨z, its, r, ob, e, c⟩ := x; exact ⟨z, its, r, ob, k _ _ (.inl rfl) e, c⟩
  | dK kvs => obtain ⟨z, y, vs, r, ob, es, ep, e, c⟩ := x; exact ⟨z, y, vs, r, ob, es, ep, k _ _ (.inl rfl) e, c⟩
  | dT kvs =>
    obtain ⟨z, y, xs, r, ob, es, ep, e, c⟩ := x
    exact ⟨z, y, xs, Paired.mapP r fun p q z => ⟨z.1, ht _ _ z.2.1, z.2.2⟩, ob, es, ep, k _ _ (.inl rfl) e, c⟩
  | set S n => obtain ⟨ob, es, ep, t, e, c⟩ := x; exact ⟨ob, es, ep, t, k _ _ (.inl rfl) e, c⟩
  | ins C dx fs =>
    obtain ⟨d, z, ne, e, mA, ⟨od, es, ep, e2, c⟩, r⟩ := x
    exact ⟨ho _ d, z, ne, k _ _ (.inl rfl) e, mA, ⟨od, es, ep, k _ _ (.inr d) e2, c⟩, r⟩
  | own y => obtain ⟨ob, e⟩ := x; exact ⟨ob, k _ _ (.inl rfl) e⟩
  | xd fs => obtain ⟨mA, ⟨od, es, ep, e, c⟩, r⟩ := x; exact ⟨mA, ⟨od, es, ep, k _ _ (.inl rfl) e, c⟩, r⟩
  | rng lo hi => obtain ⟨t, u, v, e⟩ := x; exact ⟨t, u, v, k _ _ (.inl rfl) e⟩
  | frz ob u ih => obtain ⟨e, q⟩ := x; exact ⟨k _ _ (.inl rfl) e, ih q⟩
  | tbl ps =>
    have e : h.get? a = some { cls := .none, data := .fields ps } := x
    show h'.get? a = some { cls := .none, data := .fields ps }
    exact k a _ (.inl rfl) e
  | met f y =>
    have e : h.get? a = some (PySem.W.methodObj (.ref f) (.ref y)) := x
    show h'.get? a = some (PySem.W.methodObj (.ref f) (.ref y))
    exact k a _ (.inl rfl) e
  | ext φ => obtain ⟨p, ⟨o, e⟩, st⟩ := x; exact ⟨st _ _ p fun o q => k _ _ (.inl rfl) q, ⟨o, k _ _ (.inl rfl) e⟩, st⟩
theorem HOk.lt (x : HOk P w H h) (e : H a = some o) : a < h.objs.size := (x a o e).lt
theorem HOk.fresh (x : HOk P w H h) (e : h.objs.size <= a) : H a = none := by
  cases q : H a with
  | none => rfl
  | some u => exact absurd (Nat.lt_of_lt_of_le (x.lt q) e) (Nat.lt_irrefl _)
theorem HOk.kept (x : HOk P w H h) (k : ∀ b u, h.get? b = some u -> h'.get? b = some u) : HOk P w H h' := fun a o e =>
  (x a o e).stay (fun b u _ q => k b u q) (fun _ q => q) fun _ _ q => q
theorem HOk.laid (x : HOk P w H h) (k : ∀ b u, h.get? b = some u -> h'.get? b = some u) (hp : h.objs.size <= a) (new : ObjOk P w (upd H a o) h' a o) : HOk P w (upd H a o) h' := fun b u e => by
  have hn := x.fresh hp
  by_cases hb : b = a
  · subst hb; rw [upd_same] at e; cases e; exact new
  · rw [upd_ne hb] at e
    exact (x b u e).stay (fun c v _ q => k c v q) (fun c q => by rw [upd_ne (ne_of_none q hn)]; exact q) fun c xs q => by rw [upd_ne (ne_of_none q hn)]; exact q
end

def Rd (H : Hp) (a : Addr) (u : HO) : Prop := H a = some u ∨ ∃ o, H a = some (.frz o u)
theorem Rd.of {H : Hp} {a : Addr} {u : HO} (h : H a = some u) : Rd H a u := .inl h
theorem Rd.ok {P : Program} {w : World} {H : Hp} {h : Heap} {a : Addr} {u : HO} (r : Rd H a u) (x : HOk P w H h) : ObjOk P w H h a u := by
  rcases r with r | ⟨o, r⟩
  · exact x a u r
  · obtain ⟨_, q⟩ := x a _ r
    exact q
def Mut : Option HO -> Prop
  | some (.lst _) => True
  | some (.dK _) => True
  | some (.dT _) => True
  | some (.set _ _) => True
  | some (.ins _ _ _) => True
  | some (.ext _) => True
  | _ => False
section
variable {P : Program} {w : World} {H : Hp} {h h' : Heap} {x e : Addr} {o' : HO}
theorem HOk.write (ok : HOk P w H h) (mu : Mut (H x)) (he : e = x ∨ H e = some (.own x)) (k : ∀ b u, b ≠ e -> h.get? b = some u -> h'.get? b = some u) (heo : ∃ u, h'.get? e = some u)
    (new : ObjOk P w (upd H x o') h' x o') : HOk P w (upd H x o') h' := fun b u q => by
  have nown : ∀ c y, H c = some (.own y) -> c ≠ x := fun c y r z => by subst z; rw [r] at mu; exact mu
  have ntup : ∀ c xs, H c = some (.tup xs) -> c ≠ x := fun c xs r z => by subst z; rw [r] at mu; exact mu
  by_cases hb : b = x
  · subst hb; rw [upd_same] at q; cases q; exact new
  · rw [upd_ne hb] at q
    by_cases hbe : b = e
    · have q' : H b = some (.own x) := by
        rcases he with z | z
        · exact absurd (hbe.trans z) hb
        · rw [hbe]; exact z
      rw [q] at q'; cases q'
      obtain ⟨v, hv⟩ := heo
      exact ⟨v, by rw [hbe]; exact hv⟩
    · refine (ok b u q).stay (fun c v hc r => k c v ?_ r) (fun c r => by rw [upd_ne (nown c b r)]; exact r) fun c xs r => by rw [upd_ne (ntup c xs r)]; exact r
      rcases hc with rfl | hc
      · exact hbe
      · rintro rfl
        rcases he with z | z
        · exact nown c b hc z
        · rw [hc] at z; cases z; exact hb rfl
end

structure Un (fs ex : List Addr) (H H' : Hp) (h h' : Heap) : Prop where
  keep : ∀ b o, h.get? b = some o -> H b = none -> b ∉ fs -> b ∉ ex -> h'.get? b = some o
  slot : ∀ b o, h.get? b = some o -> H b = none -> b ∈ fs -> b ∉ ex -> ∃ sl, h'.get? b = some { o with slots := sl }
  free : ∀ b o, h.get? b = some o -> H b = none -> b ∉ ex -> H' b = none
  there : ∀ b o, h.get? b = some o -> b ∉ ex -> ∃ o', h'.get? b = some o'
  tups : ∀ b xs, H b = some (.tup xs) -> H' b = some (.tup xs)
  frzs : ∀ b o u, H b = some (.frz o u) -> H' b = some (.frz o u)
  tbls : ∀ b ps, H b = some (.tbl ps) -> ∃ more, H' b = some (.tbl (ps ++ more))
section
variable {fs fs' ex ex' : List Addr} {H H1 H2 : Hp} {h h1 h2 h' : Heap} {a x e : Addr} {o : HO}
theorem Un.any (u : Un fs ex H H1 h h1) {b : Addr} {ob : Obj} (q : h.get? b = some ob) (n : H b = none) (hx : b ∉ ex) : ∃ sl, h1.get? b = some { ob with slots := sl } := by
  by_cases hb : b ∈ fs
  · exact u.slot b ob q n hb hx
  · exact ⟨ob.slots, u.keep b ob q n hb hx⟩
theorem Un.trans (a : Un fs ex H H1 h h1) (b : Un fs ex H1 H2 h1 h2) : Un fs ex H H2 h h2 where
  keep := fun c ob q n hc hx => b.keep c ob (a.keep c ob q n hc hx) (a.free c ob q n hx) hc hx
  slot := fun c ob q n hc hx => by
    obtain ⟨sl, e1⟩ := a.slot c ob q n hc hx
    obtain ⟨sl', e2⟩ := b.slot c _ e1 (a.free c ob q n hx) hc hx
    exact ⟨sl', e2⟩
  free := fun c ob q n hx => by
    obtain ⟨o', e1⟩ := a.there c ob q hx
    exact b.free c o' e1 (a.free c ob q n hx) hx
  there := fun c ob q hx => by
    obtain ⟨o', e1⟩ := a.there c ob q hx
    exact b.there c o' e1 hx
  tups := fun c xs q => b.tups c xs (a.tups c xs q)
  frzs := fun c ob xs q => b.frzs c ob xs (a.frzs c ob xs q)
  tbls := fun c ps q => by
    obtain ⟨m1, e1⟩ := a.tbls c ps q
    obtain ⟨m2, e2⟩ := b.tbls c _ e1
    exact ⟨m1 ++ m2, by rw [e2, Array.append_assoc]⟩
theorem Un.kept (k : ∀ b u, h.get? b = some u -> h'.get? b = some u) : Un fs ex H H h h' :=
  ⟨fun b ob q _ _ _ => k b ob q, fun b ob q _ _ _ => ⟨ob.slots, k b ob q⟩, fun _ _ _ n _ => n, fun b ob q _ => ⟨ob, k b ob q⟩, fun _ _ q => q, fun _ _ _ q => q, fun _ ps q => ⟨#[], by rw [q]; simp⟩⟩
theorem Un.refl : Un fs ex H H h h := Un.kept fun _ _ q => q
theorem Un.laid (k : ∀ b u, h.get? b = some u -> h'.get? b = some u) (hp : h.objs.size <= a) (hn : H a = none) : Un fs ex H (upd H a o) h h' where
  keep := fun b u q _ _ _ => k b u q
  slot := fun b u q _ _ _ => ⟨u.slots, k b u q⟩
  free := fun b u q n _ => by rw [upd_ne (Nat.ne_of_lt (Nat.lt_of_lt_of_le (Heap.lt_size q) hp))]; exact n
  there := fun b u q _ => ⟨u, k b u q⟩
  tups := fun b xs q => by rw [upd_ne (ne_of_none q hn)]; exact q
  frzs := fun b u xs q => by rw [upd_ne (ne_of_none q hn)]; exact q
  tbls := fun b ps q => ⟨#[], by rw [upd_ne (ne_of_none q hn), q]; simp⟩
theorem Un.write (mu : Mut (H x)) (he : e = x ∨ H e = some (.own x)) (k : ∀ b u, b ≠ e -> h.get? b = some u -> h'.get? b = some u) (heo : ∃ u, h'.get? e = some u) : Un fs ex H (upd H x o) h h' := by
  have hx : ∀ b, H b = none -> b ≠ x := fun b n z => by subst z; rw [n] at mu; exact mu
  have hb : ∀ b, H b = none -> b ≠ e := fun b n z => by
    subst z
    rcases he with r | r
    · exact hx b n r
    · rw [n] at r; cases r
  have hm : ∀ b u, H b = some u -> ¬ Mut (some u) -> b ≠ x := fun b u q nm z => by subst z; rw [q] at mu; exact nm mu
  refine ⟨fun b u q n _ _ => k b u (hb b n) q, fun b u q n _ _ => ⟨u.slots, k b u (hb b n) q⟩, fun b u q n _ => by rw [upd_ne (hx b n)]; exact n, fun b u q _ => ?_,
    fun b xs q => by rw [upd_ne (hm b _ q fun z => z)]; exact q, fun b u xs q => by rw [upd_ne (hm b _ q fun z => z)]; exact q, fun b ps q => ⟨#[], by rw [upd_ne (hm b _ q fun z => z), q]; simp⟩⟩
  by_cases hbe : b = e
  · subst hbe; exact heo
  · exact ⟨u, k b u hbe q⟩
theorem Un.mono (u : Un fs ex H H1 h h1) (hs : ∀ b ∈ fs, b ∈ fs') (hx : ∀ b ∈ ex, b ∈ ex') : Un fs' ex' H H1 h h1 :=
  ⟨fun b ob q n hb he => u.keep b ob q n (fun z => hb (hs b z)) fun z => he (hx b z), fun _ _ q n _ he => u.any q n fun z => he (hx _ z), fun b ob q n he => u.free b ob q n fun z => he (hx b z), fun b ob q he => u.there b ob q fun z => he (hx b z), u.tups, u.frzs, u.tbls⟩
end

def trk (h : Heap) (H : Hp) : List Addr := (List.range h.objs.size).filter fun a => (H a).isSome
def hidT (h : Heap) (H : Hp) : Heap := PySem.W.hideAll h (trk h H)
theorem hidT_size (h : Heap) (H : Hp) : (hidT h H).objs.size = h.objs.size := PySem.W.hideAll_size _ _
theorem hidT_get {h : Heap} {H : Hp} {b : Addr} {o : Obj} (e : h.get? b = some o) (n : H b = none) : (hidT h H).get? b = some o :=
  PySem.W.hideAll_get _ e fun hm => by
    have q : (H b).isSome = true := (List.mem_filter.mp hm).2
    rw [n] at q; simp at q
theorem of_hidT {h : Heap} {H : Hp} {b : Addr} {o : Obj} (e : (hidT h H).get? b = some o) : h.get? b = some o /\ H b = none := by
  have e' : h.get? b = some o := PySem.W.of_hideAll (trk h H) e
  refine ⟨e', ?_⟩
  cases q : H b with
  | none => rfl
  | some x =>
    have hm : b ∈ trk h H := List.mem_filter.mpr ⟨List.mem_range.mpr (Heap.lt_size e'), by simp [q]⟩
    have z : (hidT h H).get? b = none := PySem.W.hideAll_none (trk h H) hm
    rw [z] at e; cases e

def allNews (g h : Heap) (L : Addr) : List (Addr × Obj) := (List.range h.objs.size).filterMap fun a => if a = L ∨ (g.get? a).isSome = true then none else (h.get? a).map fun o => (a, o)
theorem mem_allNews {g h : Heap} {L a : Addr} {o : Obj} (h1 : a ≠ L) (h2 : g.get? a = none) (h3 : h.get? a = some o) : (a, o) ∈ allNews g h L :=
  List.mem_filterMap.mpr ⟨a, List.mem_range.mpr (Heap.lt_size h3), by simp [h1, h2, h3]⟩
theorem of_mem_allNews {g h : Heap} {L : Addr} {p : Addr × Obj} (hp : p ∈ allNews g h L) : p.1 ≠ L /\ g.get? p.1 = none /\ h.get? p.1 = some p.2 := by
  obtain ⟨b, _, e⟩ := List.mem_filterMap.mp hp
  split at e
  · cases e
  · rename_i hn
    cases q : h.get? b with
    | none => rw [q] at e; simp at e
    | some u =>
      rw [q] at e
      simp only [Option.map_some, Option.some.injEq] at e
      subst e
      refine ⟨fun z => hn (.inl z), ?_, q⟩
      show g.get? b = none
      cases r : g.get? b with
      | none => rfl
      | some v => exact (hn (.inr (by simp [r]))).elim
def rest (g h : Heap) (L d : Addr) : List (Addr × Obj) := (allNews g h L).filter fun p => decide (p.1 ≠ d)
theorem news_all {g h : Heap} {L : Addr} : News g L h (allNews g h L) := fun p hp => let ⟨a, b, c⟩ := of_mem_allNews hp; ⟨c, a, b⟩
end L2

namespace L2
open PySem PySem.Spec PyProof.Rows

structure Mod (K : PySem.W.Frag) (mg : Str -> Option Value) (base : Heap) : Prop where
  kin : K.In base
  glob : base.Ns mainGlobals mg
  blt : ∃ mb, base.Ns builtinsNs mb /\ ∀ x : Str, x ≠ "__name__" -> mb x = bootBuiltins x
  nolimit : base.NoLimit

/-- the context: a def's body (or a comprehension's block) running. base: fixed through the whole law; s₀, H₀: the entry; outer: the frames whose slots others may change (a def's callers); stack: all frames that run;
   ex: iterators that were made ahead of the entry and are walked here (a comprehension's); fn: the names whose cells were made at the entry (a def: all; a comprehension's block: its own); calm: not within an except suite; pn: pins that every state bears; xe: what is wanted of an exception that leaves the code -/
structure Cx where
  prog : Program
  w : World
  K : PySem.W.Frag
  mg : Str -> Option Value
  base : Heap
  A : Around
  N : List Str
  s₀ : Shared
  H₀ : Hp
  env : Env
  outer : List Env
  stack : List Env
  ex : List Addr
  fn : Str -> Bool
  calm : Bool
  pn : List (Addr × Obj)
  xe : Value -> Shared -> Prop
def frs (l : List Env) : List Addr := l.filterMap (·.frame)
abbrev Cx.fs (X : Cx) : List Addr := frs X.outer

def Vis (sc : Scope) (x : Str) : Prop := sc.names.lookup x = some .local ∨ sc.names.lookup x = some .cell ∨ sc.names.lookup x = some .free
def Loc (sc : Scope) (x : Str) : Prop := sc.names.lookup x = some .local ∨ sc.names.lookup x = some .cell
def Look (env : Env) (h : Heap) (m : Str -> Option Value) (x : Str) (u : Value) : Prop :=
  (env.kindOf x = some .local /\ m x = some u) ∨ ((env.kindOf x = some .cell ∨ env.kindOf x = some .free) /\ ∃ c, env.cells.lookup x = some c /\ h.IsCell c (some u))

structure Cx.Ok (X : Cx) : Prop where
  mod : Mod X.K X.mg X.base
  kind : X.env.scope.kind = .function
  glob : X.env.globals = mainGlobals
  blt : X.env.builtins = builtinsNs
  above : X.s₀.heap.objs.size <= X.env.locals
  inj : ∀ x y c, X.env.cells.lookup x = some c -> X.env.cells.lookup y = some c -> x = y
  has : ∀ x, (X.env.kindOf x = some .cell ∨ X.env.kindOf x = some .free) -> ∃ c, X.env.cells.lookup x = some c
  cab : ∀ x c, X.fn x = true -> X.env.cells.lookup x = some c -> X.s₀.heap.objs.size <= c
  hd : X.calm = true -> X.A.handled = none
  frames : X.A.frames = some X.stack
  stk : X.stack = X.outer ∨ (X.stack = X.env :: X.outer /\ X.env.frame = some X.env.locals)
  exf : ∀ b ∈ X.ex, b ≠ X.env.locals /\ ∀ x c, X.env.cells.lookup x = some c -> c ≠ b
  bs : ∀ b o, X.base.get? b = some o -> X.s₀.heap.get? b = some o /\ X.H₀ b = none
  bsz : X.base.objs.size <= X.s₀.heap.objs.size
  noex : ∀ b o, X.base.get? b = some o -> b ∉ X.ex
  exfs : ∀ b ∈ X.ex, b ∉ X.fs
  funs : X.s₀.heap.FunFrames X.base X.outer
  frf : ∀ b ∈ X.fs, X.H₀ b = none

structure Inv (X : Cx) (pins : List (Addr × Obj)) (σ : List (Option V)) (H : Hp) (s : Shared) : Prop where
  ok : X.Ok
  os : s.os = X.s₀.os
  bare : AllBare s.gens
  base : Un X.fs X.ex X.H₀ H X.s₀.heap s.heap
  loc : ∃ m, s.heap.Ns X.env.locals m /\ ∀ (i : Nat) (x : Str) (v : V), X.N[i]? = some x -> σ[i]? = some (some v) -> Vis X.env.scope x -> ∃ u, RelV v u /\ Look X.env s.heap m x u
  cell : ∀ x c, X.env.cells.lookup x = some c -> ∃ v, s.heap.IsCell c v
  free : H X.env.locals = none
  freeC : ∀ x c, X.env.cells.lookup x = some c -> H c = none
  pin : ∀ p ∈ X.pn ++ pins, s.heap.get? p.1 = some p.2 /\ H p.1 = none /\ p.1 ≠ X.env.locals /\ p.1 ∉ X.fs /\ ∀ v, p.2.data ≠ .cell v
  hok : HOk X.prog X.w H s.heap
  len : σ.length = X.N.length

section
variable {X : Cx} {pins : List (Addr × Obj)} {σ : List (Option V)} {H H' : Hp} {s : Shared} {h' : Heap}

theorem Cx.Ok.nofr (ok : X.Ok) {b : Addr} {o : Obj} (e : X.base.get? b = some o) : b ∉ X.fs := fun hb => by
  have := (ok.funs.mem hb).1
  rw [e] at this; cases this
theorem Inv.bs (I : Inv X pins σ H s) : ∀ b o, X.base.get? b = some o -> s.heap.get? b = some o /\ H b = none := fun b o e =>
  ⟨I.base.keep b o (I.ok.bs b o e).1 (I.ok.bs b o e).2 (I.ok.nofr e) (I.ok.noex b o e), I.base.free b o (I.ok.bs b o e).1 (I.ok.bs b o e).2 (I.ok.noex b o e)⟩
theorem Inv.bk (I : Inv X pins σ H s) : ∀ b o, X.base.get? b = some o -> s.heap.get? b = some o := fun b o e => (I.bs b o e).1
theorem Inv.mod (I : Inv X pins σ H s) : Mod X.K X.mg X.base := I.ok.mod
theorem Inv.kIn (I : Inv X pins σ H s) : X.K.In s.heap := I.ok.mod.kin.keeps I.bk
theorem Inv.nolimit (I : Inv X pins σ H s) : s.heap.NoLimit := I.ok.mod.nolimit.keeps I.bk
theorem Inv.fr (I : Inv X pins σ H s) : ∃ m, Fr X.base X.env.locals s.heap m :=
  let ⟨m, hn, _⟩ := I.loc
  ⟨m, hn, I.bk, Nat.le_trans I.ok.bsz I.ok.above⟩
theorem Inv.lt (I : Inv X pins σ H s) : X.env.locals < s.heap.objs.size := let ⟨_, hn, _⟩ := I.loc; hn.lt
theorem Inv.sz (I : Inv X pins σ H s) : X.s₀.heap.objs.size <= s.heap.objs.size := Nat.le_trans I.ok.above (Nat.le_of_lt I.lt)
theorem Inv.nofs (I : Inv X pins σ H s) {a : Addr} (h : s.heap.objs.size <= a) : a ∉ X.fs := fun hb => by
  obtain ⟨_, o, ho, _⟩ := I.ok.funs.mem hb
  exact absurd (Nat.lt_of_lt_of_le (Heap.lt_size ho) (Nat.le_trans I.sz h)) (Nat.lt_irrefl _)
theorem Inv.cne (I : Inv X pins σ H s) : ∀ x c, X.env.cells.lookup x = some c -> c ≠ X.env.locals := fun x c e z => by
  obtain ⟨v, o, ho, hd⟩ := I.cell x c e
  obtain ⟨m, ⟨o', es, ep, ho', hd', _⟩, _⟩ := I.loc
  rw [z, ho'] at ho; cases ho; rw [hd'] at hd; cases hd
theorem Inv.funs (I : Inv X pins σ H s) : s.heap.FunFrames X.base X.outer := by
  have all : ∀ (l : List Env), (∀ b ∈ frs l, b ∈ X.fs) -> X.s₀.heap.FunFrames X.base l -> s.heap.FunFrames X.base l := by
    intro l
    induction l with
    | nil => intro _ _; trivial
    | cons env r ih =>
      intro hs hl
      obtain ⟨hk, ⟨L, o, hf, hn, ho, hd⟩, hr⟩ := hl
      have hL : L ∈ X.fs := hs L (by unfold frs; rw [List.filterMap_cons, hf]; exact List.mem_cons_self)
      obtain ⟨sl, e⟩ := I.base.slot L o ho (I.ok.frf L hL) hL fun z => I.ok.exfs L z hL
      exact ⟨hk, ⟨L, _, hf, hn, e, hd⟩, ih (fun b hb => hs b (by unfold frs; rw [List.filterMap_cons, hf]; exact List.mem_cons_of_mem _ hb)) hr⟩
  exact all X.outer (fun _ hb => hb) I.ok.funs

theorem Inv.stack (I : Inv X pins σ H s) : s.heap.FunFrames X.base X.stack := by
  rcases I.ok.stk with e | ⟨e, hf⟩
  · rw [e]; exact I.funs
  · rw [e]
    obtain ⟨m, hn, _⟩ := I.loc
    refine .cons (by rw [I.ok.kind]; decide) hf hn ?_ I.funs
    exact Heap.get?_none_of_le (Nat.le_trans I.ok.bsz I.ok.above)
theorem Inv.stkSub (I : Inv X pins σ H s) : ∀ b ∈ frs X.stack, b ∈ X.env.locals :: X.fs := fun b hb => by
  rcases I.ok.stk with e | ⟨e, hf⟩
  · rw [e] at hb; exact List.mem_cons_of_mem _ hb
  · rw [e] at hb
    unfold frs at hb
    rw [List.filterMap_cons, hf] at hb
    exact hb
theorem Inv.stkFree (I : Inv X pins σ H s) : ∀ b ∈ frs X.stack, H b = none := fun b hb => by
  rcases List.mem_cons.mp (I.stkSub b hb) with e | hb
  · rw [e]; exact I.free
  · obtain ⟨_, o, ho, _⟩ := I.ok.funs.mem hb
    exact I.base.free b o ho (I.ok.frf b hb) fun z => I.ok.exfs b z hb

theorem Inv.step {g' : Array GenState} {t' : Nat} {d' : Drawn} {ch : List Addr} (I : Inv X pins σ H s)
    (hch : ∀ b ∈ ch, (b ∈ X.ex ∨ X.s₀.heap.objs.size <= b) /\ b ≠ X.env.locals /\ (∀ x c, X.env.cells.lookup x = some c -> c ≠ b) /\ ∀ p ∈ X.pn ++ pins, p.1 ≠ b)
    (keep : ∀ b o, b ≠ X.env.locals -> b ∉ X.fs -> b ∉ ch -> s.heap.get? b = some o -> H b = none -> h'.get? b = some o)
    (slot : ∀ b o, b ≠ X.env.locals -> b ∈ X.fs -> b ∉ ch -> s.heap.get? b = some o -> H b = none -> ∃ sl, h'.get? b = some { o with slots := sl }) (free : ∀ b o, b ∉ ch -> s.heap.get? b = some o -> H b = none -> H' b = none)
    (there : ∀ b o, b ∉ ch -> s.heap.get? b = some o -> ∃ o', h'.get? b = some o')
    (tups : ∀ b xs, H b = some (.tup xs) -> H' b = some (.tup xs)) (frzs : ∀ b o u, H b = some (.frz o u) -> H' b = some (.frz o u)) (tbls : ∀ b ps, H b = some (.tbl ps) -> ∃ more, H' b = some (.tbl (ps ++ more)))
    (ns : ∀ m, s.heap.Ns X.env.locals m -> h'.Ns X.env.locals m) (hok : HOk X.prog X.w H' h') (hg : AllBare g') :
    Inv X pins σ H' { s with heap := h', gens := g', drawn := d', toks := t' } := by
  have neL : ∀ b o, X.s₀.heap.get? b = some o -> b ≠ X.env.locals := fun b o e => Nat.ne_of_lt (Nat.lt_of_lt_of_le (Heap.lt_size e) I.ok.above)
  have neC : ∀ b o, X.s₀.heap.get? b = some o -> b ∉ X.ex -> b ∉ ch := fun b o e hx hb => by
    rcases (hch b hb).1 with z | z
    · exact hx z
    · exact absurd (Nat.lt_of_lt_of_le (Heap.lt_size e) z) (Nat.lt_irrefl _)
  have cellK : ∀ x c, X.env.cells.lookup x = some c -> ∀ v, s.heap.IsCell c v -> h'.IsCell c v := fun x c e v ⟨o, ho, hd⟩ => by
    have nch : c ∉ ch := fun z => (hch c z).2.2.1 x c e rfl
    by_cases hc : c ∈ X.fs
    · obtain ⟨sl, q⟩ := slot c o (I.cne x c e) hc nch ho (I.freeC x c e)
      exact ⟨_, q, hd⟩
    · exact ⟨o, keep c o (I.cne x c e) hc nch ho (I.freeC x c e), hd⟩
  refine ⟨I.ok, I.os, hg, ⟨fun b o e n hb hx => ?_, fun b o e n hb hx => ?_, fun b o e n hx => ?_, fun b o e hx => ?_, fun b xs e => tups b xs (I.base.tups b xs e), fun b o xs e => frzs b o xs (I.base.frzs b o xs e), fun b ps e => ?_⟩, ?_, fun x c e => ?_, ?_, fun x c e => ?_, fun p hp => ?_, hok, I.len⟩
  · exact keep b o (neL b o e) hb (neC b o e hx) (I.base.keep b o e n hb hx) (I.base.free b o e n hx)
  · obtain ⟨sl, e1⟩ := I.base.slot b o e n hb hx
    obtain ⟨sl', e2⟩ := slot b _ (neL b o e) hb (neC b o e hx) e1 (I.base.free b o e n hx)
    exact ⟨sl', e2⟩
  · obtain ⟨o', e1⟩ := I.base.there b o e hx
    exact free b o' (neC b o e hx) e1 (I.base.free b o e n hx)
  · obtain ⟨o', e1⟩ := I.base.there b o e hx
    exact there b o' (neC b o e hx) e1
  · obtain ⟨m1, e1⟩ := I.base.tbls b ps e
    obtain ⟨m2, e2⟩ := tbls b _ e1
    exact ⟨m1 ++ m2, by rw [e2, Array.append_assoc]⟩
  · obtain ⟨m, hn, hl⟩ := I.loc
    refine ⟨m, ns m hn, fun i x v e1 e2 e3 => ?_⟩
    obtain ⟨u, r, l⟩ := hl i x v e1 e2 e3
    refine ⟨u, r, ?_⟩
    rcases l with l | ⟨k, c, e, z⟩
    · exact .inl l
    · exact .inr ⟨k, c, e, cellK x c e _ z⟩
  · obtain ⟨v, z⟩ := I.cell x c e
    exact ⟨v, cellK x c e v z⟩
  · obtain ⟨m, ⟨o, _, _, ho, _⟩, _⟩ := I.loc
    exact free _ o (fun z => (hch _ z).2.1 rfl) ho I.free
  · obtain ⟨v, o, ho, hd⟩ := I.cell x c e
    exact free c o (fun z => (hch c z).2.2.1 x c e rfl) ho (I.freeC x c e)
  · obtain ⟨e, n, ne, nf, d⟩ := I.pin p hp
    have nch : p.1 ∉ ch := fun z => (hch p.1 z).2.2.2 p hp rfl
    exact ⟨keep p.1 p.2 ne nf nch e n, free p.1 p.2 nch e n, ne, nf, d⟩
theorem Inv.un {t' : Nat} (I : Inv X pins σ H s) (u : Un X.fs [] H H' s.heap h') (hok : HOk X.prog X.w H' h') : Inv X pins σ H' { s with heap := h', toks := t' } := by
  obtain ⟨m, ⟨o, es, ep, ho, r⟩, _⟩ := id I.loc
  obtain ⟨sl, hL⟩ := u.any ho I.free (by simp)
  exact I.step (g' := s.gens) (d' := s.drawn) (ch := []) (fun _ z => nomatch z) (fun b o _ hb _ e n => u.keep b o e n hb (by simp)) (fun b o _ hb _ e n => u.slot b o e n hb (by simp)) (fun b o _ e n => u.free b o e n (by simp)) (fun b o _ e => u.there b o e (by simp)) u.tups u.frzs u.tbls (fun m' hm => by
    obtain ⟨o', es', ep', ho', r'⟩ := hm
    rw [ho] at ho'; cases ho'
    exact ⟨_, es', ep', hL, r'⟩) hok I.bare
theorem Inv.call {g' : Array GenState} {t' : Nat} {d' : Drawn} {ch : List Addr} (I : Inv X pins σ H s) (u : Un (frs X.stack) ch H H' s.heap h') (hok : HOk X.prog X.w H' h') (hg : AllBare g')
    (hch : ∀ b ∈ ch, (b ∈ X.ex ∨ X.s₀.heap.objs.size <= b) /\ b ≠ X.env.locals /\ (∀ x c, X.env.cells.lookup x = some c -> c ≠ b) /\ ∀ p ∈ X.pn ++ pins, p.1 ≠ b) :
    Inv X pins σ H' { s with heap := h', gens := g', drawn := d', toks := t' } := by
  obtain ⟨m, ⟨o, es, ep, ho, r⟩, _⟩ := id I.loc
  obtain ⟨sl, hL⟩ := u.any ho I.free fun z => (hch _ z).2.1 rfl
  exact I.step (ch := ch) hch (fun b o hL hb hc e n => u.keep b o e n (fun z => (List.mem_cons.mp (I.stkSub b z)).elim hL hb) hc) (fun b o _ _ hc e n => u.any e n hc) (fun b o hc e n => u.free b o e n hc) (fun b o hc e => u.there b o e hc) u.tups u.frzs u.tbls (fun m' hm => by
    obtain ⟨o', es', ep', ho', r'⟩ := hm
    rw [ho] at ho'; cases ho'
    exact ⟨_, es', ep', hL, r'⟩) hok hg
theorem Inv.turned {t' : Nat} {it : Addr} (I : Inv X pins σ H s) (k : ∀ b o, b ≠ it -> s.heap.get? b = some o -> h'.get? b = some o) (hn : H it = none) (hL : it ≠ X.env.locals)
    (h1 : it ∈ X.ex ∨ X.s₀.heap.objs.size <= it) (h2 : ∀ x c, X.env.cells.lookup x = some c -> c ≠ it) (h3 : ∀ p ∈ X.pn ++ pins, p.1 ≠ it) : Inv X pins σ H { s with heap := h', toks := t' } := by
  have nit : ∀ b u, H b = some u -> b ≠ it := fun b u e z => by rw [z, hn] at e; cases e
  refine I.step (g' := s.gens) (d' := s.drawn) (ch := [it]) (fun b hb => ?_) (fun b o _ _ hc e _ => k b o (fun z => hc (by simp [z])) e) (fun b o _ _ hc e _ => ⟨o.slots, k b o (fun z => hc (by simp [z])) e⟩) (fun _ _ _ _ n => n)
    (fun b o hc e => ⟨o, k b o (fun z => hc (by simp [z])) e⟩) (fun _ _ e => e) (fun _ _ _ e => e) (fun b ps e => ⟨#[], by rw [e]; simp⟩) (fun m hm => ?_) (fun b u e => ?_) I.bare
  · have e : b = it := by simpa using hb
    subst e
    exact ⟨h1, hL, h2, h3⟩
  · obtain ⟨o, es, ep, ho, r⟩ := hm
    exact ⟨o, es, ep, k _ o (Ne.symm hL) ho, r⟩
  · refine (I.hok b u e).stay (fun c v hc q => k c v ?_ q) (fun _ q => q) fun _ _ q => q
    rcases hc with z | z
    · rw [z]; exact nit b u e
    · exact nit c _ z
theorem Inv.tok (I : Inv X pins σ H s) (t : Nat) : Inv X pins σ H { s with toks := t } := I.un (h' := s.heap) (t' := t) Un.refl I.hok
theorem Inv.kept {t' : Nat} (I : Inv X pins σ H s) (k : ∀ b u, s.heap.get? b = some u -> h'.get? b = some u) : Inv X pins σ H { s with heap := h', toks := t' } := I.un (Un.kept k) (I.hok.kept k)
theorem Inv.laid {a : Addr} {o : HO} {t' : Nat} (I : Inv X pins σ H s) (k : ∀ b u, s.heap.get? b = some u -> h'.get? b = some u) (hp : s.heap.objs.size <= a) (new : ObjOk X.prog X.w (upd H a o) h' a o) :
    Inv X pins σ (upd H a o) { s with heap := h', toks := t' } := I.un (Un.laid k hp (I.hok.fresh hp)) (I.hok.laid k hp new)
theorem Inv.write {x e : Addr} {o : HO} {t' : Nat} (I : Inv X pins σ H s) (mu : Mut (H x)) (he : e = x ∨ H e = some (.own x)) (k : ∀ b u, b ≠ e -> s.heap.get? b = some u -> h'.get? b = some u) (heo : ∃ u, h'.get? e = some u)
    (new : ObjOk X.prog X.w (upd H x o) h' x o) : Inv X pins σ (upd H x o) { s with heap := h', toks := t' } := I.un (Un.write mu he k heo) (I.hok.write mu he k heo new)
theorem Inv.pins_of {pins' : List (Addr × Obj)} (I : Inv X pins σ H s) (h : ∀ p ∈ pins', s.heap.get? p.1 = some p.2 /\ H p.1 = none /\ p.1 ≠ X.env.locals /\ p.1 ∉ X.fs /\ ∀ v, p.2.data ≠ .cell v) : Inv X pins' σ H s :=
  ⟨I.ok, I.os, I.bare, I.base, I.loc, I.cell, I.free, I.freeC, fun p hp => (List.mem_append.mp hp).elim (fun z => I.pin p (List.mem_append_left _ z)) (h p), I.hok, I.len⟩

theorem nodup_ix {N : List Str} (hN : N.Nodup) {i j : Nat} {x : Str} (a : N[i]? = some x) (b : N[j]? = some x) : i = j := by
  obtain ⟨h1, e1⟩ := List.getElem?_eq_some_iff.mp a
  obtain ⟨h2, e2⟩ := List.getElem?_eq_some_iff.mp b
  exact (List.getElem_inj hN).mp (e1.trans e2.symm)

theorem store_ok2 {M : Model} {A : Around} {E : Value -> Shared -> Prop} {i : Nat} {x : Str} {v : V} {u : Value} {Q : Unit -> Shared -> Prop} (I : Inv X pins σ H s) (hN : X.N.Nodup) (hi : X.N[i]? = some x) (hx : Loc X.env.scope x) (r : RelV v u)
    (h : ∀ s', Inv X pins (σ.set i (some v)) H s' -> (∃ a, Heap.SameBut a s.heap s'.heap /\ (a = X.env.locals ∨ X.env.cells.lookup x = some a)) -> Q () s') (hf : X.fn x = true ∨ X.env.scope.names.lookup x = some .local := by first | exact .inl rfl | exact .inr rfl | assumption) : wpAny M A (storeName X.env x u) Q E s := by
  obtain ⟨m, hn, hl⟩ := id I.loc
  have hcls : (X.env.scope.kind == .class || (X.env.scope.kind == .module && X.env.locals != X.env.globals)) = false := by rw [I.ok.kind]; rfl
  have hiσ : i < σ.length := by rw [I.len]; exact (List.getElem?_eq_some_iff.mp hi).1
  have cne := I.cne
  have tracked : ∀ {a : Addr} {h' : Heap}, (∃ o, s.heap.get? a = some o /\ H a = none) -> Heap.SameBut a s.heap h' -> HOk X.prog X.w H h' := fun {a h'} ha hs b ob e => by
    obtain ⟨_, _, hfree⟩ := ha
    refine (I.hok b ob e).stay (fun c w' hc q => (hs.2 c ?_).trans q) (fun _ q => q) fun _ _ q => q
    rintro rfl
    rcases hc with rfl | hc
    · rw [hfree] at e; cases e
    · rw [hfree] at hc; cases hc
  rcases hx with hk | hk
  · refine wpAny_storeName_local hk hn (fun h' hn' hs => ?_) hcls
    obtain ⟨oL, _, _, hoL, _⟩ := id hn
    refine h _ ⟨I.ok, I.os, I.bare, ⟨fun b o e n hb hx => ?_, fun b o e n hb hx => ?_, I.base.free, fun b o e hx => ?_, I.base.tups, I.base.frzs, I.base.tbls⟩, ⟨_, hn', fun j y v' e1 e2 e3 => ?_⟩, fun y c e => ?_, I.free, I.freeC, fun p hp => ?_, tracked ⟨oL, hoL, I.free⟩ hs, by simpa using I.len⟩ ⟨_, hs, .inl rfl⟩
    · exact (hs.2 b (Nat.ne_of_lt (Nat.lt_of_lt_of_le (Heap.lt_size e) I.ok.above))).trans (I.base.keep b o e n hb hx)
    · obtain ⟨sl, e1⟩ := I.base.slot b o e n hb hx
      exact ⟨sl, (hs.2 b (Nat.ne_of_lt (Nat.lt_of_lt_of_le (Heap.lt_size e) I.ok.above))).trans e1⟩
    · obtain ⟨o', e1⟩ := I.base.there b o e hx
      exact ⟨o', (hs.2 b (Nat.ne_of_lt (Nat.lt_of_lt_of_le (Heap.lt_size e) I.ok.above))).trans e1⟩
    · by_cases hj : j = i
      · subst hj
        rw [hi] at e1; cases e1
        rw [List.getElem?_set_self hiσ] at e2
        cases e2
        exact ⟨u, r, .inl ⟨hk, by simp⟩⟩
      · rw [List.getElem?_set_ne (Ne.symm hj)] at e2
        obtain ⟨u', r', q⟩ := hl j y v' e1 e2 e3
        refine ⟨u', r', ?_⟩
        rcases q with ⟨k, e⟩ | ⟨k, c, e, z⟩
        · refine .inl ⟨k, ?_⟩
          have : y ≠ x := fun e => hj (nodup_ix hN e1 (e ▸ hi))
          simp [this, e]
        · exact .inr ⟨k, c, e, z.sameBut hs (cne y c e)⟩
    · obtain ⟨w', z⟩ := I.cell y c e
      exact ⟨w', z.sameBut hs (cne y c e)⟩
    · obtain ⟨e, n, ne, nf, d⟩ := I.pin p hp
      exact ⟨(hs.2 p.1 ne).trans e, n, ne, nf, d⟩
  · have hfn : X.fn x = true := by
      rcases hf with z | z
      · exact z
      · rw [z] at hk; cases hk
    obtain ⟨c, hc⟩ := I.ok.has x (.inl hk)
    obtain ⟨w', z⟩ := I.cell x c hc
    refine wpAny_storeName_cell I.ok.kind hk hc z (fun h' hc' hs => ?_)
    obtain ⟨oc, hoc, hocd⟩ := id z
    refine h { s with heap := h' } ⟨I.ok, I.os, I.bare, ⟨fun b o e n hb hx => ?_, fun b o e n hb hx => ?_, I.base.free, fun b o e hx => ?_, I.base.tups, I.base.frzs, I.base.tbls⟩, ⟨m, hn.sameBut hs (Ne.symm (cne x c hc)), fun j y v' e1 e2 e3 => ?_⟩, fun y c' e => ?_, I.free, I.freeC, fun p hp => ?_, tracked ⟨oc, hoc, I.freeC x c hc⟩ hs, by simpa using I.len⟩ ⟨c, hs, .inr hc⟩
    · exact (hs.2 b (Nat.ne_of_lt (Nat.lt_of_lt_of_le (Heap.lt_size e) (I.ok.cab x c hfn hc)))).trans (I.base.keep b o e n hb hx)
    · obtain ⟨sl, e1⟩ := I.base.slot b o e n hb hx
      exact ⟨sl, (hs.2 b (Nat.ne_of_lt (Nat.lt_of_lt_of_le (Heap.lt_size e) (I.ok.cab x c hfn hc)))).trans e1⟩
    · obtain ⟨o', e1⟩ := I.base.there b o e hx
      exact ⟨o', (hs.2 b (Nat.ne_of_lt (Nat.lt_of_lt_of_le (Heap.lt_size e) (I.ok.cab x c hfn hc)))).trans e1⟩
    · by_cases hj : j = i
      · subst hj
        rw [hi] at e1; cases e1
        rw [List.getElem?_set_self hiσ] at e2
        cases e2
        exact ⟨u, r, .inr ⟨.inl hk, c, hc, hc'⟩⟩
      · rw [List.getElem?_set_ne (Ne.symm hj)] at e2
        obtain ⟨u', r', q⟩ := hl j y v' e1 e2 e3
        refine ⟨u', r', ?_⟩
        rcases q with q | ⟨k, c', e, z'⟩
        · exact .inl q
        · refine .inr ⟨k, c', e, z'.sameBut hs ?_⟩
          rintro rfl
          exact hj (nodup_ix hN e1 (I.ok.inj _ _ _ e hc ▸ hi))
    · by_cases hcc : c' = c
      · subst hcc; exact ⟨_, hc'⟩
      · obtain ⟨w2, z2⟩ := I.cell y c' e
        exact ⟨w2, z2.sameBut hs hcc⟩
    · obtain ⟨e, n, ne, nf, d⟩ := I.pin p hp
      refine ⟨(hs.2 p.1 ?_).trans e, n, ne, nf, d⟩
      intro q
      rw [q, hoc] at e
      have q' : oc = p.2 := Option.some.inj e
      exact d w' (by rw [<- q']; exact hocd)
theorem store_ok {M : Model} {A : Around} {E : Value -> Shared -> Prop} {i : Nat} {x : Str} {v : V} {u : Value} {Q : Unit -> Shared -> Prop} (I : Inv X pins σ H s) (hN : X.N.Nodup) (hi : X.N[i]? = some x) (hx : Loc X.env.scope x) (r : RelV v u)
    (h : ∀ s', Inv X pins (σ.set i (some v)) H s' -> Q () s') (hf : X.fn x = true ∨ X.env.scope.names.lookup x = some .local := by first | exact .inl rfl | exact .inr rfl | assumption) : wpAny M A (storeName X.env x u) Q E s :=
  store_ok2 I hN hi hx r (fun s' I' _ => h s' I') hf
theorem Inv.call' {s' : Shared} {ch : List Addr} (I : Inv X pins σ H s) (ho : s'.os = s.os) (u : Un (frs X.stack) ch H H' s.heap s'.heap) (hok : HOk X.prog X.w H' s'.heap) (hg : AllBare s'.gens)
    (hch : ∀ b ∈ ch, (b ∈ X.ex ∨ X.s₀.heap.objs.size <= b) /\ b ≠ X.env.locals /\ (∀ x c, X.env.cells.lookup x = some c -> c ≠ b) /\ ∀ p ∈ X.pn ++ pins, p.1 ≠ b) : Inv X pins σ H' s' := by
  obtain ⟨h', g', d', t', o'⟩ := s'
  have e : o' = s.os := ho
  subst e
  exact I.call (g' := g') (t' := t') (d' := d') u hok hg hch
end

abbrev XK := Value -> Option Addr -> Hp -> Prop
abbrev St := List (Option V)
abbrev VK := V -> Hp -> Prop
abbrev TE := St -> Hp -> VK -> Prop
abbrev TT := St -> Hp -> (Bool -> Hp -> Prop) -> Prop
abbrev TA := St -> Hp -> (List V -> Hp -> Prop) -> Prop
structure Ends where
  nx : St -> Hp -> Prop
  rt : VK
  bk : St -> Hp -> Prop := fun _ _ => False
  ct : St -> Hp -> Prop := fun _ _ => False
abbrev TS := Ends -> St -> Hp -> Prop

inductive EPI (X : Cx) (pins : List (Addr × Obj)) (σ : St) (Q : VK) (u : Value) (s' : Shared) : Prop where
  | mk (v : _) (H' : _) (c1 : Inv X pins σ H' s') (c2 : RelV v u) (c3 : Q v H')
def EP (X : Cx) (pins : List (Addr × Obj)) (σ : St) (Q : VK) (u : Value) (s' : Shared) : Prop := EPI X pins σ Q u s'
def TP (X : Cx) (pins : List (Addr × Obj)) (σ : St) (Q : Bool -> Hp -> Prop) (b : Bool) (s' : Shared) : Prop := ∃ H', Inv X pins σ H' s' /\ Q b H'
inductive API (X : Cx) (pins : List (Addr × Obj)) (σ : St) (Q : List V -> Hp -> Prop) (us : List Value) (s' : Shared) : Prop where
  | mk (vs : _) (H' : _) (c1 : Inv X pins σ H' s') (c2 : Vals vs us) (c3 : Q vs H')
def AP (X : Cx) (pins : List (Addr × Obj)) (σ : St) (Q : List V -> Hp -> Prop) (us : List Value) (s' : Shared) : Prop := API X pins σ Q us s'
def SP (X : Cx) (pins : List (Addr × Obj)) (D : Ends) (f : Flow) (s' : Shared) : Prop :=
  match f with
  | .next => ∃ σ' H', Inv X pins σ' H' s' /\ D.nx σ' H'
  | .brk => ∃ σ' H', Inv X pins σ' H' s' /\ D.bk σ' H'
  | .cont => ∃ σ' H', Inv X pins σ' H' s' /\ D.ct σ' H'
  | .ret u => ∃ v σ' H', Inv X pins σ' H' s' /\ RelV v u /\ D.rt v H'

def PE (X : Cx) (e : Expr) (t : TE) : Prop :=
  ∀ (pins : List (Addr × Obj)) (s : Shared) (σ : St) (H : Hp) (Q : VK), Inv X pins σ H s -> t σ H Q -> wpAny (model X.prog X.w) X.A (eval e X.env) (EP X pins σ Q) X.xe s
def PT (X : Cx) (e : Expr) (t : TT) : Prop :=
  ∀ (pins : List (Addr × Obj)) (s : Shared) (σ : St) (H : Hp) (Q : Bool -> Hp -> Prop), Inv X pins σ H s -> t σ H Q -> wpAny (model X.prog X.w) X.A (isTrue e X.env (eval e X.env)) (TP X pins σ Q) X.xe s
def PW (X : Cx) (e : Expr) (t : TT) : Prop :=
  ∀ (whole : Sem Value) (pins : List (Addr × Obj)) (s : Shared) (σ : St) (H : Hp) (Q : Bool -> Hp -> Prop), Inv X pins σ H s -> t σ H Q -> wpAny (model X.prog X.w) X.A (isTrue e X.env whole) (TP X pins σ Q) X.xe s
theorem PW.pt {X : Cx} {e : Expr} {t : TT} (h : PW X e t) : PT X e t := h _
def PA (X : Cx) (es : List Expr) (t : TA) : Prop :=
  ∀ (pos : Pos) (pins : List (Addr × Obj)) (s : Shared) (σ : St) (H : Hp) (Q : List V -> Hp -> Prop), Inv X pins σ H s -> t σ H Q -> wpAny (model X.prog X.w) X.A (spliced (backTo pos (starEach es X.env))) (AP X pins σ Q) X.xe s
def PS (X : Cx) (st : Stmt) (t : TS) : Prop :=
  ∀ (pins : List (Addr × Obj)) (s : Shared) (σ : St) (H : Hp) (D : Ends), Inv X pins σ H s -> t D σ H -> wpAny (model X.prog X.w) X.A (exec st X.env) (SP X pins D) X.xe s
def PSs (X : Cx) (st : List Stmt) (t : TS) : Prop :=
  ∀ (pins : List (Addr × Obj)) (s : Shared) (σ : St) (H : Hp) (D : Ends), Inv X pins σ H s -> t D σ H -> wpAny (model X.prog X.w) X.A (execs st X.env) (SP X pins D) X.xe s
theorem thn {α : Type} {t : Sem α} {Q Q' : α -> Shared -> Prop} {M : Model} {A : Around} {E : Value -> Shared -> Prop} {s : Shared} (h : wpAny M A t Q E s) (hQ : ∀ a s, Q a s -> Q' a s) : wpAny M A t Q' E s := wpAny_mono h hQ fun _ _ x => x
end L2

namespace L2
open PySem PySem.Spec PyProof.Rows
section
variable {X : Cx}

theorem bin {a b : Expr} {ta tb : TE} (ha : PE X a ta) (hb : PE X b tb) {pins : List (Addr × Obj)} {s : Shared} {σ : St} {H : Hp} {R : V -> V -> Hp -> Prop} (I : Inv X pins σ H s) (h : ta σ H fun x H1 => tb σ H1 fun y H2 => R x y H2)
    {α : Type} {Q : α -> Shared -> Prop} {f : Value -> Value -> Sem α}
    (hf : ∀ v u s2 x y H2, Inv X pins σ H2 s2 -> RelV x v -> RelV y u -> R x y H2 -> wpAny (model X.prog X.w) X.A (f v u) Q X.xe s2) :
    wpAny (model X.prog X.w) X.A (eval a X.env) (fun v s₁ => wpAny (model X.prog X.w) X.A (eval b X.env) (fun u s₂ => wpAny (model X.prog X.w) X.A (f v u) Q X.xe s₂) X.xe s₁) X.xe s := by
  refine thn (ha pins s σ H _ I h) fun v s1 ⟨x, H1, I1, r1, q1⟩ => ?_
  refine thn (hb pins s1 σ H1 _ I1 q1) fun u s2 ⟨y, H2, I2, r2, q2⟩ => ?_
  exact hf v u s2 x y H2 I2 r1 r2 q2

inductive TVarI (i : Nat) (σ : L2.St) (H : Hp) (Q : VK) : Prop where
  | mk (v : _) (c1 : σ[i]? = some (some v)) (c2 : Q v H)
def tVar (i : Nat) : TE := fun σ H Q => TVarI i σ H Q
def tC (v : V) : TE := fun _ H Q => Q v H
theorem pe_var {i : Nat} {x : Str} {pos : Pos} (hN : X.N[i]? = some x) (hv : Vis X.env.scope x) (hd : (x == ("__debug__" : Str)) = false := by decide) (hcd : (x == ("__classdict__" : Str)) = false := by decide) : PE X (.Name x pos) (tVar i) := by
  intro pins s σ H Q I h
  obtain ⟨v, e, h⟩ := h
  obtain ⟨m, hn, hl⟩ := I.loc
  obtain ⟨u, r, l⟩ := hl i x v hN e hv
  have fin : EP X pins σ Q u s := ⟨v, H, I, r, h⟩
  rcases l with ⟨hk, hm⟩ | ⟨hk, c, hc, hcell⟩
  · exact wpAny_Name (wpAny_loadName_local I.ok.kind hk hn hm fin) hd
  · rcases hk with hk | hk
    · exact wpAny_Name (wpAny_loadName_cell I.ok.kind hk hc hcell fin) hd
    · exact wpAny_Name (wpAny_loadName_free I.ok.kind hk hc hcell fin hcd) hd
theorem pe_int {i j pos} : PE X (.Constant (.int i) j pos) (tC (.int i)) := fun _ _ _ H _ I h => wpAny_Constant_int ⟨.int i, H, I.tok _, ⟨_, rfl⟩, h⟩
theorem pe_bl {b j pos} : PE X (.Constant (.bool b) j pos) (tC (.bl b)) := fun _ _ _ H _ I h => Constant_bool ⟨.bl b, H, I, rfl, h⟩
theorem pe_non {j pos} : PE X (.Constant .none j pos) (tC .non) := fun _ _ _ H _ I h => Constant_none ⟨.non, H, I, rfl, h⟩
theorem pe_str {x j pos} : PE X (.Constant (.str x) j pos) (tC (.str x)) := fun _ _ _ H _ I h => Calls.Constant_str ⟨.str x, H, I.tok _, ⟨_, rfl⟩, h⟩

def Gl (X : Cx) (x : Str) : Prop := X.env.kindOf x = some .globalImplicit
theorem ld_glob {E : Value -> Shared -> Prop} {pins : List (Addr × Obj)} {s : Shared} {σ : St} {H : Hp} {x : Str} {u : Value} {pos : Pos} {Q : Value -> Shared -> Prop} (I : Inv X pins σ H s) (hg : Gl X x) (hm : X.mg x = some u) (h : Q u s)
    (hd : (x == ("__debug__" : Str)) = false := by decide) : wpAny (model X.prog X.w) X.A (eval (.Name x pos) X.env) Q E s :=
  Calls.Name_function_global I.ok.kind hg (Calls.loadGlobal_global (by rw [I.ok.glob]; exact I.mod.glob.keeps I.bk) hm h) hd
theorem ld_blt {E : Value -> Shared -> Prop} {pins : List (Addr × Obj)} {s : Shared} {σ : St} {H : Hp} {x : Str} {u : Value} {pos : Pos} {Q : Value -> Shared -> Prop} (I : Inv X pins σ H s) (hg : Gl X x) (hm : X.mg x = none) (hv : bootBuiltins x = some u) (h : Q u s)
    (hn : x ≠ "__name__" := by decide) (hd : (x == ("__debug__" : Str)) = false := by decide) : wpAny (model X.prog X.w) X.A (eval (.Name x pos) X.env) Q E s := by
  obtain ⟨mb, h1, h2⟩ := I.mod.blt
  exact Calls.Name_function_global I.ok.kind hg (Calls.loadGlobal_builtin (by rw [I.ok.glob]; exact I.mod.glob.keeps I.bk) hm (by rw [I.ok.blt]; exact h1.keeps I.bk) ((h2 x hn).trans hv) h) hd
theorem pe_glob {x : Str} {v : V} {u : Value} {pos : Pos} (hg : Gl X x) (hm : X.mg x = some u) (r : RelV v u) (hd : (x == ("__debug__" : Str)) = false := by decide) : PE X (.Name x pos) (tC v) :=
  fun _ _ _ H _ I h => ld_glob I hg hm ⟨v, H, I, r, h⟩ hd
theorem pe_bltn {x : Str} {v : V} {u : Value} {pos : Pos} (hg : Gl X x) (hm : X.mg x = none) (hv : bootBuiltins x = some u) (r : RelV v u) (hn : x ≠ "__name__" := by decide) (hd : (x == ("__debug__" : Str)) = false := by decide) : PE X (.Name x pos) (tC v) :=
  fun _ _ _ H _ I h => ld_blt I hg hm hv ⟨v, H, I, r, h⟩ hn hd

variable {a b : Expr} {ta tb : TE} {pos : Pos}

def PC (X : Cx) (op : CmpOp) (a b : Expr) (t : TE) : Prop :=
  ∀ (pins : List (Addr × Obj)) (s : Shared) (σ : St) (H : Hp) (Q : VK), Inv X pins σ H s -> t σ H Q ->
    wpAny (model X.prog X.w) X.A (eval a X.env) (fun v s₁ => wpAny (model X.prog X.w) X.A (eval b X.env) (fun u s₂ => wpAny (model X.prog X.w) X.A (compareOp op v u) (EP X pins σ Q) X.xe s₂) X.xe s₁) X.xe s
theorem nobehind (b : Expr) {op : CmpOp} (h : op ≠ .In) (h2 : op ≠ .NotIn) : behindInMarks op b = false := by
  have e1 : (op == CmpOp.In) = false := by cases op <;> first | rfl | exact absurd rfl h
  have e2 : (op == CmpOp.NotIn) = false := by cases op <;> first | rfl | exact absurd rfl h2
  cases b <;> simp [behindInMarks, e1, e2]
inductive TBI (x : V) (H1 : Hp) (Q : Bool -> Hp -> Prop) : Prop where
  | mk (c : _) (c1 : x = .bl c) (c2 : Q c H1)
def tB (t : TE) : TT := fun σ H Q => t σ H fun x H1 => TBI x H1 Q
theorem pt_cmp {op : CmpOp} {t : TE} (h : PC X op a b t) (h1 : behindInMarks op b = false := by first | exact nobehind _ (by decide) (by decide) | rfl) : PT X (.Compare a [op] [b] pos) (tB t) := by
  intro pins s σ H Q I hw
  refine wpAny_isTrue_Compare1 (thn (h pins s σ H _ I hw) fun v s1 h1 => thn h1 fun u s2 h2 => thn h2 fun c s3 ⟨x, H1, I1, r1, q1⟩ => ?_) h1
  obtain ⟨d, rfl, q⟩ := q1
  cases r1
  exact wpAny_truthy_bool ⟨H1, I1, q⟩
theorem pt_val {e : Expr} {t : TE} (h : PE X e t) (he : ∀ whole, isTrue e X.env whole = (do let v <- whole; standAt e.pos; holding [v] (truthy v)) := by intro _; rfl) : PT X e (tB t) := by
  intro pins s σ H Q I hw
  refine isTrue_plain (thn (h pins s σ H _ I hw) fun v s1 ⟨x, H1, I1, r1, q1⟩ => ?_) (he _)
  obtain ⟨d, rfl, q⟩ := q1
  cases r1
  exact wpAny_truthy_bool ⟨H1, I1, q⟩

variable {tA tB' : TT} {rest : List Expr}
def tAnd (t u : TT) : TT := fun σ H Q => t σ H fun c H1 => if c = true then u σ H1 Q else Q false H1
def tOr (t u : TT) : TT := fun σ H Q => t σ H fun c H1 => if c = true then Q true H1 else u σ H1 Q
def tNot (t : TT) : TT := fun σ H Q => t σ H fun c H1 => Q (!c) H1
theorem pw_and1 (ha : PT X a tA) : PW X (.BoolOp .And [a] pos) tA := by
  intro wh pins s σ H Q I h
  refine isTrue_and (thn (ha pins s σ H Q I h) fun c s1 e => ?_)
  cases c with
  | true => exact isTrue_and_nil e
  | false => exact e
theorem pw_or1 (ha : PT X a tA) : PW X (.BoolOp .Or [a] pos) tA := by
  intro wh pins s σ H Q I h
  refine isTrue_or (thn (ha pins s σ H Q I h) fun c s1 e => ?_)
  cases c with
  | false => exact isTrue_or_nil e
  | true => exact e
theorem pw_and (ha : PT X a tA) (hb : PW X (.BoolOp .And (b :: rest) pos) tB') : PW X (.BoolOp .And (a :: b :: rest) pos) (tAnd tA tB') := by
  intro wh pins s σ H Q I h
  refine isTrue_and (thn (ha pins s σ H _ I h) fun c s1 ⟨H1, I1, q1⟩ => ?_)
  cases c with
  | true => exact hb wh pins s1 σ H1 Q I1 q1
  | false => exact ⟨H1, I1, q1⟩
theorem pw_or (ha : PT X a tA) (hb : PW X (.BoolOp .Or (b :: rest) pos) tB') : PW X (.BoolOp .Or (a :: b :: rest) pos) (tOr tA tB') := by
  intro wh pins s σ H Q I h
  refine isTrue_or (thn (ha pins s σ H _ I h) fun c s1 ⟨H1, I1, q1⟩ => ?_)
  cases c with
  | true => exact ⟨H1, I1, q1⟩
  | false => exact hb wh pins s1 σ H1 Q I1 q1
theorem pt_not (ha : PT X a tA) : PT X (.UnaryOp .Not a pos) (tNot tA) := by
  intro pins s σ H Q I h
  exact isTrue_not (ha pins s σ H (fun c H1 => Q (!c) H1) I h)
inductive TAndVI (tb : TE) (σ : L2.St) (x : V) (H1 : Hp) (Q : VK) : Prop where
  | mk (c : _) (c1 : x = .bl c) (c2 : if c = true then tb σ H1 Q else Q (.bl false) H1)
def tAndV (ta tb : TE) : TE := fun σ H Q => ta σ H fun x H1 => TAndVI tb σ x H1 Q
inductive TOrVI (tb : TE) (σ : L2.St) (x : V) (H1 : Hp) (Q : VK) : Prop where
  | mk (c : _) (c1 : x = .bl c) (c2 : if c = true then Q (.bl true) H1 else tb σ H1 Q)
def tOrV (ta tb : TE) : TE := fun σ H Q => ta σ H fun x H1 => TOrVI tb σ x H1 Q
inductive TNotVI (x : V) (H1 : Hp) (Q : VK) : Prop where
  | mk (c : _) (c1 : x = .bl c) (c2 : Q (.bl (!c)) H1)
def tNotV (ta : TE) : TE := fun σ H Q => ta σ H fun x H1 => TNotVI x H1 Q
theorem pe_one {op} {t : TE} (h : PE X a t) : PE X (.BoolOp op [a] pos) t := fun pins s σ H Q I hw => BoolOp_one (h pins s σ H Q I hw)
theorem pe_and (ha : PE X a ta) (hb : PE X (.BoolOp .And (b :: rest) pos) tb) : PE X (.BoolOp .And (a :: b :: rest) pos) (tAndV ta tb) := by
  intro pins s σ H Q I h
  refine BoolOp_and (thn (ha pins s σ H _ I h) fun v s1 ⟨x, H1, I1, r1, q1⟩ => ?_)
  obtain ⟨c, rfl, q1⟩ := q1
  cases r1
  refine wpAny_truthy_bool ?_
  cases c with
  | true => exact hb pins s1 σ H1 Q I1 q1
  | false => exact ⟨.bl false, H1, I1, rfl, q1⟩
theorem pe_or (ha : PE X a ta) (hb : PE X (.BoolOp .Or (b :: rest) pos) tb) : PE X (.BoolOp .Or (a :: b :: rest) pos) (tOrV ta tb) := by
  intro pins s σ H Q I h
  refine BoolOp_or (thn (ha pins s σ H _ I h) fun v s1 ⟨x, H1, I1, r1, q1⟩ => ?_)
  obtain ⟨c, rfl, q1⟩ := q1
  cases r1
  refine wpAny_truthy_bool ?_
  cases c with
  | false => exact hb pins s1 σ H1 Q I1 q1
  | true => exact ⟨.bl true, H1, I1, rfl, q1⟩
theorem pe_not (ha : PE X a ta) : PE X (.UnaryOp .Not a pos) (tNotV ta) := by
  intro pins s σ H Q I h
  refine UnaryOp_ (thn (ha pins s σ H _ I h) fun v s1 ⟨x, H1, I1, r1, q1⟩ => ?_)
  obtain ⟨c, rfl, q1⟩ := q1
  cases r1
  exact not_of (wpAny_truthy_bool ⟨.bl (!c), H1, I1, rfl, q1⟩)
end
end L2

namespace L2
open PySem PySem.Spec PyProof.Rows

def SqL (K : PySem.W.Frag) (H : Hp) (a : Addr) (xs : List V) : Prop :=
  Rd H a (.lst xs) ∨
    ∃ (o : Obj) (its : Array Value) (n : Nat), K.lookup a = some o /\ o.cls = .type "list" /\ o.dict = none /\ o.data = .seq its n /\ its.size <= sizeLine /\ Vals xs its.toList
def SqT (K : PySem.W.Frag) (H : Hp) (a : Addr) (xs : List V) : Prop :=
  Rd H a (.tup xs) ∨
    ∃ (o : Obj) (its : Array Value) (n : Nat), K.lookup a = some o /\ o.cls = .type "tuple" /\ o.data = .seq its n /\ its.size <= sizeLine /\ Vals xs its.toList
def absV : Value -> Option V
  | .none => some .non
  | .bool b => some (.bl b)
  | .int i _ => some (.int i)
  | .str x _ => some (.str x)
  | .bytes b _ => some (.byt b)
  | .float b _ => some (.flt b)
  | .ref a => some (.ref a)
  | .type n => some (.ty n)
  | _ => none
theorem RelV.abs {x : V} {u : Value} (r : RelV x u) : absV u = some x := by
  cases x with
  | non => cases r; rfl
  | bl _ => cases r; rfl
  | int _ => obtain ⟨t, rfl⟩ := r; rfl
  | str _ => obtain ⟨t, rfl⟩ := r; rfl
  | byt _ => obtain ⟨t, rfl⟩ := r; rfl
  | flt _ => obtain ⟨t, rfl⟩ := r; rfl
  | ref _ => cases r; rfl
  | ty _ => cases r; rfl
theorem RelV.inj {x y : V} {u : Value} (r : RelV x u) (q : RelV y u) : x = y := Option.some.inj (r.abs.symm.trans q.abs)
theorem Vals.inj : ∀ {xs ys : List V} {us : List Value}, Vals xs us -> Vals ys us -> xs = ys
  | _, _, _, .nil, .nil => rfl
  | _, _, _, .cons r t, .cons r' t' => by rw [r.inj r', Vals.inj t t']
section
variable {X : Cx} {pins : List (Addr × Obj)} {σ : St} {H : Hp} {s : Shared} {a : Addr} {xs ys : List V}
theorem SqL.of {K : PySem.W.Frag} (h : H a = some (.lst xs)) : SqL K H a xs := .inl (.inl h)
theorem SqT.of {K : PySem.W.Frag} (h : H a = some (.tup xs)) : SqT K H a xs := .inl (.inl h)
theorem Inv.list (I : Inv X pins σ H s) (h : SqL X.K H a xs) : ∃ its : List Value, Vals xs its /\ PlainL s.heap a its.toArray /\ xs.length <= sizeLine := by
  rcases h with h | ⟨o, its, n, hk, hc, hd, hs, hz, r⟩
  · obtain ⟨z, its, n, r, e⟩ := h.ok I.hok
    exact ⟨its, r, ⟨_, n, e, rfl, rfl, rfl⟩, z⟩
  · refine ⟨its.toList, r, ⟨o, n, I.kIn a o hk, hc, hd, by simpa using hs⟩, ?_⟩
    have e := r.length
    simp only [Array.length_toList] at e
    omega
theorem Inv.tuple (I : Inv X pins σ H s) (h : SqT X.K H a xs) : ∃ its : List Value, Vals xs its /\ IsTup s.heap a its.toArray /\ xs.length <= sizeLine := by
  rcases h with h | ⟨o, its, n, hk, hc, hs, hz, r⟩
  · obtain ⟨z, its, r, p⟩ := h.ok I.hok
    exact ⟨its, r, p, z⟩
  · refine ⟨its.toList, r, ⟨o, I.kIn a o hk, hc, n, by simpa using hs⟩, ?_⟩
    have e := r.length
    simp only [Array.length_toList] at e
    omega
theorem Inv.list_inj (I : Inv X pins σ H s) (h : SqL X.K H a xs) (h' : SqL X.K H a ys) : xs = ys := by
  obtain ⟨its, r, ⟨o, n, e, _, _, d⟩, _⟩ := I.list h
  obtain ⟨its', r', ⟨o', n', e', _, _, d'⟩, _⟩ := I.list h'
  rw [e] at e'; cases e'
  rw [d] at d'
  injection d' with d1 _
  have : its = its' := by simpa using congrArg Array.toList d1
  subst this
  exact r.inj r'
theorem Inv.tuple_inj (I : Inv X pins σ H s) (h : SqT X.K H a xs) (h' : SqT X.K H a ys) : xs = ys := by
  obtain ⟨its, r, ⟨o, e, _, n, d⟩, _⟩ := I.tuple h
  obtain ⟨its', r', ⟨o', e', _, n', d'⟩, _⟩ := I.tuple h'
  rw [e] at e'; cases e'
  rw [d] at d'
  injection d' with d1 _
  have : its = its' := by simpa using congrArg Array.toList d1
  subst this
  exact r.inj r'
end

abbrev Cx.wish (X : Cx) (E : Value -> Shared -> Prop) : Cx := { X with xe := E }
abbrev Cx.nox (X : Cx) : Cx := X.wish fun _ _ => False
theorem Cx.Ok.wish {X : Cx} (ok : X.Ok) (E : Value -> Shared -> Prop) : (X.wish E).Ok :=
  ⟨ok.mod, ok.kind, ok.glob, ok.blt, ok.above, ok.inj, ok.has, ok.cab, ok.hd, ok.frames, ok.stk, ok.exf, ok.bs, ok.bsz, ok.noex, ok.exfs, ok.funs, ok.frf⟩
theorem Cx.Ok.unwish {X : Cx} {E : Value -> Shared -> Prop} (ok : (X.wish E).Ok) : X.Ok :=
  ⟨ok.mod, ok.kind, ok.glob, ok.blt, ok.above, ok.inj, ok.has, ok.cab, ok.hd, ok.frames, ok.stk, ok.exf, ok.bs, ok.bsz, ok.noex, ok.exfs, ok.funs, ok.frf⟩
section
variable {X : Cx} {pins : List (Addr × Obj)} {σ : St} {H : Hp} {s : Shared} {E : Value -> Shared -> Prop}
theorem Inv.wish (I : Inv X pins σ H s) (E : Value -> Shared -> Prop) : Inv (X.wish E) pins σ H s := ⟨I.ok.wish E, I.os, I.bare, I.base, I.loc, I.cell, I.free, I.freeC, I.pin, I.hok, I.len⟩
theorem Inv.unwish (I : Inv (X.wish E) pins σ H s) : Inv X pins σ H s := ⟨I.ok.unwish, I.os, I.bare, I.base, I.loc, I.cell, I.free, I.freeC, I.pin, I.hok, I.len⟩
theorem SP.unwish {D : Ends} {f : Flow} {s' : Shared} (h : SP (X.wish E) pins D f s') : SP X pins D f s' := by
  cases f with
  | next => obtain ⟨σ', H', I, q⟩ := h; exact ⟨σ', H', I.unwish, q⟩
  | brk => obtain ⟨σ', H', I, q⟩ := h; exact ⟨σ', H', I.unwish, q⟩
  | cont => obtain ⟨σ', H', I, q⟩ := h; exact ⟨σ', H', I.unwish, q⟩
  | ret u => obtain ⟨v, σ', H', I, r, q⟩ := h; exact ⟨v, σ', H', I.unwish, r, q⟩
theorem PE.nox {e : Expr} {t : TE} (h : PE X.nox e t) : PE X e t := fun pins s σ H Q I hw =>
  wpAny_mono (h pins s σ H Q (I.wish _) hw) (fun _ _ ⟨v, H', I', r, q⟩ => ⟨v, H', I'.unwish, r, q⟩) fun _ _ z => False.elim z
theorem PT.nox {e : Expr} {t : TT} (h : PT X.nox e t) : PT X e t := fun pins s σ H Q I hw =>
  wpAny_mono (h pins s σ H Q (I.wish _) hw) (fun _ _ ⟨H', I', q⟩ => ⟨H', I'.unwish, q⟩) fun _ _ z => False.elim z
theorem PSs.nox {st : List Stmt} {t : TS} (h : PSs X.nox st t) : PSs X st t := fun pins s σ H D I hw =>
  wpAny_mono (h pins s σ H D (I.wish _) hw) (fun _ _ q => q.unwish) fun _ _ z => False.elim z
end

section
variable {X : Cx} {st : Stmt} {rest : List Stmt} {t u : TS} {e : Expr} {te : TE} {pos : Pos}
def tNext : TS := fun D σ H => D.nx σ H
def tSeq (t u : TS) : TS := fun D σ H => t { D with nx := u D } σ H
theorem pss_nil : PSs X [] tNext := fun _ _ σ H _ I h => wpAny_execs_nil ⟨σ, H, I, h⟩
theorem pss_cons (h1 : PS X st t) (h2 : PSs X rest u) : PSs X (st :: rest) (tSeq t u) := by
  intro pins s σ H D I h
  refine wpAny_execs_cons (thn (h1 pins s σ H { D with nx := u D } I h) fun f s1 q => ?_)
  cases f with
  | next =>
    obtain ⟨σ', H', I', q⟩ := q
    exact h2 pins s1 σ' H' D I' q
  | ret v => exact q
  | brk => exact q
  | cont => exact q
theorem pss_one (h1 : PS X st t) : PSs X [st] t := by
  intro pins s σ H D I h
  refine wpAny_execs_cons (thn (h1 pins s σ H D I h) fun f s1 q => ?_)
  cases f with
  | next => exact wpAny_execs_nil q
  | ret v => exact q
  | brk => exact q
  | cont => exact q
theorem Inv.quiet {pins : List (Addr × Obj)} {σ : St} {H : Hp} {s : Shared} (I : Inv X pins σ H s) : interactive X.env = false := by simp [interactive, I.ok.kind]
def tDrop (te : TE) : TS := fun D σ H => te σ H fun _ H1 => D.nx σ H1
theorem ps_expr (he : PE X e te) (hs : swapsWith e none pos.line X.env = pure false := by rfl) : PS X (.Expr e pos) (tDrop te) := by
  intro pins s σ H D I h
  exact wpAny_Expr_any (thn (he pins s σ H _ I h) fun v s1 ⟨x, H1, I1, r1, q1⟩ => ⟨σ, H1, I1, q1⟩) I.quiet hs
def tRet (te : TE) : TS := fun D σ H => te σ H D.rt
theorem ps_ret (he : PE X e te) : PS X (.Return (some e) pos) (tRet te) := by
  intro pins s σ H D I h
  exact wpAny_Return_some (thn (he pins s σ H _ I h) fun v s1 ⟨x, H1, I1, r1, q1⟩ => ⟨x, σ, H1, I1, r1, q1⟩)
def tIfS (c : TT) (t u : TS) : TS := fun D σ H => c σ H fun b H1 => if b = true then t D σ H1 else u D σ H1
theorem ps_if {c : Expr} {a b : List Stmt} {tc : TT} (hc : PT X c tc) (ha : PSs X a t) (hb : PSs X b u) : PS X (.If c a b pos) (tIfS tc t u) := by
  intro pins s σ H D I h
  refine wpAny_If (thn (hc pins s σ H _ I h) fun d s1 ⟨H1, I1, q1⟩ => ?_)
  cases d with
  | true => exact ha pins s1 σ H1 D I1 q1
  | false => exact hb pins s1 σ H1 D I1 q1
def tNever : TS := fun _ _ _ => False
theorem ps_never : PS X st tNever := fun _ _ _ _ _ _ h => h.elim
end

abbrev TG := V -> St -> Hp -> (St -> Hp -> Prop) -> Prop
abbrev TGs := List V -> St -> Hp -> (St -> Hp -> Prop) -> Prop
def PG (X : Cx) (target : Expr) (t : TG) : Prop :=
  ∀ (pins : List (Addr × Obj)) (s : Shared) (σ : St) (H : Hp) (v : V) (u : Value) (Q : St -> Hp -> Prop), Inv X pins σ H s -> RelV v u -> t v σ H Q ->
    wpAny (model X.prog X.w) X.A (assign target X.env u) (fun _ s' => ∃ σ' H', Inv X pins σ' H' s' /\ Q σ' H') X.xe s
def PGs (X : Cx) (ts : List Expr) (t : TGs) : Prop :=
  ∀ (pins : List (Addr × Obj)) (s : Shared) (σ : St) (H : Hp) (vs : List V) (us : List Value) (Q : St -> Hp -> Prop), Inv X pins σ H s -> Vals vs us -> t vs σ H Q ->
    wpAny (model X.prog X.w) X.A (assignInOrder ((assignEach ts X.env).map (·.2)) us) (fun _ s' => ∃ σ' H', Inv X pins σ' H' s' /\ Q σ' H') X.xe s
section
variable {X : Cx} {pos : Pos}
def gName (i : Nat) : TG := fun v σ H Q => Q (σ.set i (some v)) H
theorem pg_name {i : Nat} {x : Str} (hN : X.N.Nodup) (hi : X.N[i]? = some x) (hx : Loc X.env.scope x) (hf : X.fn x = true ∨ X.env.scope.names.lookup x = some .local := by first | exact .inl rfl | exact .inr rfl | assumption) : PG X (.Name x pos) (gName i) := by
  intro pins s σ H v u Q I r h
  exact wpAny_assign_Name (store_ok I hN hi hx r (fun s' I' => ⟨_, H, I', h⟩) hf)
def gNil : TGs := fun vs σ H Q => vs = [] /\ Q σ H
def gCons (t : TG) (u : TGs) : TGs := fun vs σ H Q => ∃ v r, vs = v :: r /\ t v σ H fun σ' H' => u r σ' H' Q
theorem pgs_nil : PGs X [] gNil := by
  intro pins s σ H vs us Q I r h
  obtain ⟨e, h⟩ := h
  subst e
  cases r
  exact assignInOrder_nil ⟨σ, H, I, h⟩
theorem pgs_cons {e : Expr} {es : List Expr} {t : TG} {u : TGs} (h1 : PG X e t) (h2 : PGs X es u)
    (hs : (assignEach (e :: es) X.env).map (·.2) = assign e X.env :: (assignEach es X.env).map (·.2) := by rfl) : PGs X (e :: es) (gCons t u) := by
  intro pins s σ H vs us Q I r h
  obtain ⟨v, vr, e1, h⟩ := h
  subst e1
  cases r with
  | cons r rr =>
    rw [hs]
    refine assignInOrder_cons (thn (h1 pins s σ H _ _ _ I r h) fun _ s1 ⟨σ1, H1, I1, q1⟩ => ?_)
    exact h2 pins s1 σ1 H1 _ _ Q I1 rr q1
def gTup (K : PySem.W.Frag) (n : Nat) (t : TGs) : TG := fun v σ H Q => ∃ a xs, v = .ref a /\ SqT K H a xs /\ xs.length = n /\ t xs σ H Q
theorem pg_tup {es : List Expr} {k : Nat} {t : TGs} {n : Nat} (hc : X.calm = true) (h : PGs X es t)
    (hn : (assignEach es X.env).length = n := by rfl) (hst : (assignEach es X.env).findIdx? (·.1) = none := by rfl) : PG X (.Tuple es k pos) (gTup X.K n t) := by
  intro pins s σ H v u Q I r hw
  obtain ⟨a, xs, e1, hq, hl, hw⟩ := hw
  subst e1
  cases r
  obtain ⟨its, rv, ht, hz⟩ := I.tuple hq
  refine assign_Tuple_tuple (I.ok.hd hc) ht (by simp [hn, <- hl, rv.length]) hst fun h' hx => ?_
  have I1 : Inv X pins σ H { s with heap := h' } := I.kept (t' := s.toks) fun b o e => hx b o (Nat.ne_of_lt (Heap.lt_size e)) e
  exact h pins _ σ H xs _ Q I1 (by simpa using rv) hw
def tAsg (te : TE) (g : TG) : TS := fun D σ H => te σ H fun x H1 => g x σ H1 D.nx
theorem ps_asg {tg e : Expr} {te : TE} {g : TG} (he : PE X e te) (hg : PG X tg g) (hs : swapsWithSole [tg] e pos.line X.env = pure false := by rfl) (hw : swappedStores [tg] e X.env = pure none := by rfl)
    (h1 : (assignEach [tg] X.env).map (·.2) = [assign tg X.env] := by rfl) : PS X (.Assign [tg] e pos) (tAsg te g) := by
  intro pins s σ H D I h
  refine wpAny_Assign_stores (thn (he pins s σ H _ I h) fun v s1 ⟨x, H1, I1, r1, q1⟩ => ?_) hs hw
  rw [h1]
  exact thn (hg pins s1 σ H1 x v _ I1 r1 q1) fun _ s2 q => q
theorem ps_set {i : Nat} {x : Str} {e : Expr} {te : TE} {pos' : Pos} (hN : X.N.Nodup) (hi : X.N[i]? = some x) (hx : Loc X.env.scope x) (he : PE X e te) (hs : swapsWith e (some (.Name x pos')) pos.line X.env = pure false := by rfl) (hf : X.fn x = true ∨ X.env.scope.names.lookup x = some .local := by first | exact .inl rfl | exact .inr rfl | assumption) :
    PS X (.Assign [.Name x pos'] e pos) (tAsg te (gName i)) := by
  intro pins s σ H D I h
  refine wpAny_Assign_Name (thn (he pins s σ H _ I h) fun v s1 ⟨y, H1, I1, r1, q1⟩ => ?_) hs
  exact store_ok I1 hN hi hx r1 (fun s2 I2 => ⟨_, H1, I2, q1⟩) hf
end

section
variable {X : Cx} {pos : Pos}
inductive GoI (tb : TS) (D : Ends) (W : Nat -> St -> Hp -> Prop) (m : Nat) (σ : St) (H : Hp) : Prop where
  | mk (N : St -> Hp -> Prop) (c1 : ∀ σ' H', N σ' H' -> ∃ m', m' < m /\ W m' σ' H') (c2 : tb { D with nx := N, ct := N, bk := D.nx } σ H)
inductive TWhileI (c : TT) (tb : TS) (D : Ends) (σ : L2.St) (H : Hp) : Prop where
  | mk (W : Nat -> St -> Hp -> Prop) (c1 : (∃ m, W m σ H)) (c2 : ∀ m σ H, W m σ H ->
  c σ H fun b H1 => if b = true then GoI tb D W m σ H1 else D.nx σ H1)
def tWhile (c : TT) (tb : TS) : TS := fun D σ H => TWhileI c tb D σ H
theorem ps_while {c : Expr} {body : List Stmt} {tc : TT} {tb : TS} (hp : PassesOwn (model X.prog X.w) X.A X.env X.xe) (hc : PT X c tc) (hb : PSs X body tb) : PS X (.While c body [] pos) (tWhile tc tb) := by
  intro pins s σ H D I h
  obtain ⟨W, ⟨m0, w0⟩, turn⟩ := h
  refine wpAny_While (codeAny_whileLoop (fun n s' => ∃ σ' H', Inv X pins σ' H' s' /\ W n σ' H') ?_ m0 ⟨σ, H, I, w0⟩)
  rintro n s1 ⟨σ1, H1, I1, w1⟩
  refine wpAny_passesOwn hp (thn (hc pins s1 σ1 H1 _ I1 (turn n σ1 H1 w1)) fun b s2 ⟨H2, I2, q2⟩ => ?_)
  cases b with
  | true =>
    obtain ⟨N, hN, q2⟩ := q2
    rw [if_pos rfl]
    refine wpAny_passesOwn hp (thn (hb pins s2 σ1 H2 _ I2 q2) fun f s3 q3 => ?_)
    cases f with
    | next =>
      obtain ⟨σ3, H3, I3, n3⟩ := q3
      obtain ⟨m', hm, w3⟩ := hN σ3 H3 n3
      exact ⟨m', hm, σ3, H3, I3, w3⟩
    | cont =>
      obtain ⟨σ3, H3, I3, n3⟩ := q3
      obtain ⟨m', hm, w3⟩ := hN σ3 H3 n3
      exact ⟨m', hm, σ3, H3, I3, w3⟩
    | brk => exact q3
    | ret v => exact q3
  | false =>
    rw [if_neg Bool.false_ne_true]
    exact wpAny_execs_nil ⟨σ1, H2, I2, q2⟩
end

structure It where
  go : Nat -> Hp -> Prop
  yld : Nat -> Hp -> V -> Hp -> Prop
  stop : Nat -> Hp -> Prop
def FpOk (X : Cx) (pins : List (Addr × Obj)) (H : Hp) (b : Addr) : Prop :=
  H b = none /\ b ≠ X.env.locals /\ b ∉ X.fs /\ (b ∈ X.ex ∨ X.s₀.heap.objs.size <= b) /\ (∀ x c, X.env.cells.lookup x = some c -> c ≠ b) /\ ∀ p ∈ X.pn ++ pins, p.1 ≠ b
theorem Inv.fpOk {X : Cx} {pins : List (Addr × Obj)} {σ : St} {H H' : Hp} {s : Shared} {b : Addr} (I : Inv X pins σ H s) (hb : s.heap.objs.size <= b) (hn : H' b = none) : FpOk X pins H' b := by
  refine ⟨hn, Nat.ne_of_gt (Nat.lt_of_lt_of_le I.lt hb), I.nofs hb, .inr (Nat.le_trans I.sz hb), fun x c e z => ?_, fun p hp z => ?_⟩
  · obtain ⟨v, q⟩ := I.cell x c e
    exact absurd (Nat.lt_of_lt_of_le q.lt (by rw [z]; exact hb)) (Nat.lt_irrefl _)
  · exact absurd (Nat.lt_of_lt_of_le (Heap.lt_size (I.pin p hp).1) (by rw [z]; exact hb)) (Nat.lt_irrefl _)
structure Turn (P : Program) (w : World) (K : PySem.W.Frag) (tg : Expr) (J : It) (fp : List Addr) (it : Addr) (tn : Nat -> Heap -> Prop) : Prop where
  mem : it ∈ fp
  obj : ∀ i h, tn i h -> ∀ b ∈ fp, ∃ o, h.get? b = some o /\ ∀ v, o.data ≠ .cell v
  keep : ∀ i h h', tn i h -> (∀ b ∈ fp, ∀ o, h.get? b = some o -> h'.get? b = some o) -> tn i h'
  item : ∀ (X : Cx), X.prog = P -> X.w = w -> X.K = K -> X.calm = true -> ∀ (i : Nat) (pins : List (Addr × Obj)) (s : Shared) (σ : St) (H : Hp) (E : Value -> Shared -> Prop), Inv X pins σ H s -> (∀ b ∈ fp, FpOk X pins H b) -> tn i s.heap -> J.go i H ->
    wpAny (model P w) X.A (pyNext (.ref it)) (fun r s1 => ∃ u, r = some u /\
      wpAny (model P w) X.A (letOwnedTupleGo tg (.ref it) u) (fun _ s2 => ∃ x H', Inv X pins σ H' s2 /\ RelV x u /\ J.yld i H x H' /\ tn (i + 1) s2.heap /\ ∀ b ∈ fp, H' b = none) E s1) E s
  done : ∀ (X : Cx), X.prog = P -> X.w = w -> X.K = K -> X.calm = true -> ∀ (i : Nat) (pins : List (Addr × Obj)) (s : Shared) (σ : St) (H : Hp) (E : Value -> Shared -> Prop), Inv X pins σ H s -> (∀ b ∈ fp, FpOk X pins H b) -> tn i s.heap -> J.stop i H ->
    wpAny (model P w) X.A (pyNext (.ref it)) (fun r s1 => r = none /\ Inv X pins σ H s1) E s
  self : ∀ (A : Around) (i : Nat) (s : Shared) (Q : Value -> Shared -> Prop) (E : Value -> Shared -> Prop), tn i s.heap -> Q (.ref it) s -> wpAny (model P w) A (pyIter (.ref it)) Q E s
abbrev TI := St -> Hp -> (It -> Hp -> Prop) -> Prop
def PIE (X : Cx) (pins : List (Addr × Obj)) (σ : St) (tg : Expr) (R : It -> Hp -> Prop) (itv : Value) (s2 : Shared) : Prop :=
  ∃ (it : Addr) (fp : List Addr) (tn : Nat -> Heap -> Prop) (J : It) (H' : Hp), itv = .ref it /\ Inv X pins σ H' s2 /\ Turn X.prog X.w X.K tg J fp it tn /\ tn 0 s2.heap /\ (∀ b ∈ fp, FpOk X pins H' b) /\ R J H'
def PI (X : Cx) (tg iter : Expr) (wi : TI) : Prop :=
  ∀ (pins : List (Addr × Obj)) (s : Shared) (σ : St) (H : Hp) (R : It -> Hp -> Prop), Inv X pins σ H s -> wi σ H R ->
    wpAny (model X.prog X.w) X.A (eval iter X.env) (fun v s1 => wpAny (model X.prog X.w) X.A (pyIter v) (PIE X pins σ tg R) X.xe s1) X.xe s

theorem go_of {M : Model} {A : Around} {E : Value -> Shared -> Prop} {s : Shared} {tg : Expr} {it : Addr} {u : Value} {o : Obj} {n : String} {vs : Array Value} {Q : Unit -> Shared -> Prop} (ho : s.heap.get? it = some o) (hc : o.cls = .type n) (hd : o.data = .fields vs)
    (hn : ["enumerate", "zip", "dict_itemiterator", "dict_reverseitemiterator", "odict_iterator", "itertools.zip_longest", "itertools.pairwise"].contains n = false) (hQ : Q () s) : wpAny M A (letOwnedTupleGo tg (.ref it) u) Q E s := by
  unfold letOwnedTupleGo
  cases tg <;> first
    | exact wpAny_pure hQ
    | (cases u <;> first
        | exact wpAny_pure hQ
        | (refine wpAny_bind (wpAny_load ho ?_)
           rw [hc, hd]
           show wpAny M A (if (["enumerate", "zip", "dict_itemiterator", "dict_reverseitemiterator", "odict_iterator", "itertools.zip_longest", "itertools.pairwise"].contains n && vs[0]? == some (rawInt _)) = true then _ else _) Q E s
           rw [if_neg (by intro h; rw [hn, Bool.false_and] at h; cases h)]
           exact wpAny_pure hQ))

def Itl (K : PySem.W.Frag) (a : Addr) : It :=
  ⟨fun i H => ∃ xs x, SqL K H a xs /\ xs[i]? = some x, fun i H x H' => H' = H /\ ∀ xs, SqL K H a xs -> xs[i]? = some x, fun i H => ∃ xs, SqL K H a xs /\ xs.length <= i⟩
def Itr (lo : Int) (n : Nat) : It := ⟨fun i _ => i < n, fun i H x H' => H' = H /\ x = .int (lo + i), fun i _ => n <= i⟩
theorem turn_list {P : Program} {w : World} {K : PySem.W.Frag} {tg : Expr} (a it : Addr) : Turn P w K tg (Itl K a) [it] it (fun i h => h.IsListIter it a i) where
  mem := by simp
  obj := fun i h st b hb => by
    have e : b = it := by simpa using hb
    subst e
    obtain ⟨o, e, c, d⟩ := st
    exact ⟨o, e, fun v z => by rw [d] at z; cases z⟩
  keep := fun i h h' st k => st.at fun o e => k it (by simp) o e
  item := by
    intro X hP hw hK hc i pins s σ H E I hf st hg
    subst hP hw hK
    obtain ⟨xs, x, hq, hx⟩ := hg
    obtain ⟨its, rv, p, hz⟩ := I.list hq
    obtain ⟨u, hu, ru⟩ := rv.get hx
    obtain ⟨f0, f1, f2, f3, f4, f5⟩ := hf it (by simp)
    refine wpAny_pyNext_list_item st p.isList (x := u) (by simpa using hu) fun h' st' sb => ?_
    have I1 : Inv X pins σ H { s with heap := h' } := I.turned (t' := s.toks) (fun b o hb e => (sb.2 b hb).trans e) f0 f1 f3 f4 f5
    obtain ⟨o, e, c, d⟩ := id st'
    exact ⟨u, rfl, go_of (s := { s with heap := h' }) e c d (by decide) ⟨x, H, I1, ru, ⟨rfl, fun ys hy => by rw [I.list_inj hy hq]; exact hx⟩, st', fun b hb => (hf b hb).1⟩⟩
  done := by
    intro X hP hw hK hc i pins s σ H E I hf st hg
    subst hP hw hK
    obtain ⟨xs, hq, hx⟩ := hg
    obtain ⟨its, rv, p, hz⟩ := I.list hq
    obtain ⟨f0, f1, f2, f3, f4, f5⟩ := hf it (by simp)
    have hl := rv.length
    exact wpAny_pyNext_list_end (I.ok.hd hc) st p.isList (by simp; omega) fun h' eb => ⟨rfl, I.turned (t' := s.toks) (fun b o hb e => eb b o hb e) f0 f1 f3 f4 f5⟩
  self := fun _ _ _ _ _ st h => wpAny_pyIter_listiter st h
theorem turn_range {P : Program} {w : World} {K : PySem.W.Frag} {tg : Expr} (it : Addr) (lo : Int) (n : Nat) : Turn P w K tg (Itr lo n) [it] it (fun i h => IsRangeIter h it (lo + (i : Nat) * 1) ((n : Int) - (i : Nat)) 1) where
  mem := by simp
  obj := fun i h st b hb => by
    have e : b = it := by simpa using hb
    subst e
    exact ⟨_, st, fun v z => by
      have z' : Data.fields _ = Data.cell v := z
      cases z'⟩
  keep := fun i h h' st k => k it (by simp) _ st
  item := by
    intro X hP hw hK hc i pins s σ H E I hf st hg
    subst hP hw hK
    obtain ⟨f0, f1, f2, f3, f4, f5⟩ := hf it (by simp)
    have W := Walks.range (prog := X.prog) (w := X.w) (I.ok.hd hc) it lo 1 n
    refine W.item i s _ _ hg st fun v h' tk hv st' kk => ?_
    obtain ⟨t, rfl⟩ := hv
    have I1 : Inv X pins σ H { s with heap := h', toks := tk } := I.turned (fun b o hb e => kk b o (by simpa using hb) e) f0 f1 f3 f4 f5
    refine ⟨_, rfl, go_of (s := { s with heap := h', toks := tk }) (n := "range_iterator") st' rfl rfl (by decide) ⟨.int (lo + i), H, I1, ⟨t, ?_⟩, ⟨rfl, rfl⟩, st', fun b hb => (hf b hb).1⟩⟩
    rw [Int.mul_one]
  done := by
    intro X hP hw hK hc i pins s σ H E I hf st hg
    subst hP hw hK
    obtain ⟨f0, f1, f2, f3, f4, f5⟩ := hf it (by simp)
    exact wpAny_pyNext_range_end (I.ok.hd hc) st (by have : n <= i := hg; omega) fun h' eb => ⟨rfl, I.turned (t' := s.toks) (fun b o hb e => eb b o hb e) f0 f1 f3 f4 f5⟩
  self := fun _ _ _ _ _ st h => wpAny_pyIter_rangeiter st h
end L2

namespace L2
open PySem PySem.Spec PyProof.Rows
section
variable {X : Cx} {tg : Expr}
inductive IListI (K : PySem.W.Frag) (R : It -> Hp -> Prop) (x : V) (H1 : Hp) : Prop where
  | mk (a : _) (c1 : x = .ref a) (c2 : (∃ xs, SqL K H1 a xs)) (c3 : R (Itl K a) H1)
def iList (K : PySem.W.Frag) (tl : TE) : TI := fun σ H R => tl σ H fun x H1 => IListI K R x H1
theorem pi_list {l : Expr} {tl : TE} (hl : PE X l tl) : PI X tg l (iList X.K tl) := by
  intro pins s σ H R I h
  refine thn (hl pins s σ H _ I h) fun v s1 ⟨x, H1, I1, r1, q1⟩ => ?_
  obtain ⟨a, e, ⟨xs, hq⟩, q⟩ := q1
  subst e
  cases r1
  obtain ⟨its, rv, p, hz⟩ := I1.list hq
  refine wpAny_pyIter_list p.isList ?_
  refine ⟨s1.heap.objs.size, [s1.heap.objs.size], _, _, H1, rfl, I1.kept (t' := s1.toks) fun b o e => Heap.get?_push_of_some _ e, turn_list a _, ⟨_, Heap.get?_push_size _ rfl, rfl, rfl⟩, fun b hb => ?_, q⟩
  have e : b = s1.heap.objs.size := by simpa using hb
  subst e
  exact I1.fpOk (Nat.le_refl _) (I1.hok.fresh (Nat.le_refl _))
theorem range_it {pins : List (Addr × Obj)} {σ : St} {H : Hp} {s : Shared} {R : It -> Hp -> Prop} {E : Value -> Shared -> Prop} {lo hi : Int} {t u v : Tok} {tk : Nat} (I : Inv X pins σ H s) (h1 : -(2 ^ 62) <= lo) (h2 : lo < 2 ^ 62) (h3 : -(2 ^ 62) <= hi) (h4 : hi < 2 ^ 62)
    (q : R (Itr lo (hi - lo).toNat) H) : wpAny (model X.prog X.w) X.A (pyIter (.ref s.heap.objs.size)) (PIE X pins σ tg R) E { s with heap := s.heap.push { cls := .type "range", data := .fields #[.int lo t, .int hi u, .int 1 v] }, toks := tk } := by
  refine wpAny_pyIter_range (IsRange.new ..) (small_one h1 h2 h3 h4) ?_
  have I1 : Inv X pins σ H { s with heap := s.heap.push { cls := .type "range", data := .fields #[.int lo t, .int hi u, .int 1 v] }, toks := tk } := I.kept fun b o e => Heap.get?_push_of_some _ e
  refine ⟨(s.heap.push { cls := .type "range", data := .fields #[.int lo t, .int hi u, .int 1 v] }).objs.size, [(s.heap.push { cls := .type "range", data := .fields #[.int lo t, .int hi u, .int 1 v] }).objs.size], _, _, H, rfl,
    I1.kept (t' := tk) fun b o e => Heap.get?_push_of_some _ e, turn_range _ lo (hi - lo).toNat, ?_, fun b hb => ?_, q⟩
  · have e1 : lo + ((0 : Nat) : Int) * 1 = lo := by simp
    have e2 : (((hi - lo).toNat : Nat) : Int) - ((0 : Nat) : Int) = Builtin.Range.rangeSize lo hi 1 := by rw [rangeSize_one]; split <;> omega
    show IsRangeIter _ _ (lo + ((0 : Nat) : Int) * 1) ((((hi - lo).toNat : Nat) : Int) - ((0 : Nat) : Int)) 1
    rw [e1, e2]
    exact Heap.get?_push_size _ rfl
  · have e : b = (s.heap.push { cls := .type "range", data := .fields #[.int lo t, .int hi u, .int 1 v] }).objs.size := by simpa using hb
    subst e
    exact I1.fpOk (Nat.le_refl _) (I1.hok.fresh (Nat.le_refl _))
inductive IRng1I (R : It -> Hp -> Prop) (vs : List V) (H1 : Hp) : Prop where
  | mk (j : Int) (c1 : vs = [.int j]) (c2 : -(2 ^ 62) <= j) (c3 : j < 2 ^ 62) (c4 : R (Itr 0 j.toNat) H1)
def iRng1 (ta : TA) : TI := fun σ H R => ta σ H fun vs H1 => IRng1I R vs H1
theorem pi_range1 {a : Expr} {ta : TA} {p pos : Pos} (hg : Gl X "range") (hm : X.mg "range" = none) (ha : PA X [a] ta) (hs : starEach [a] X.env = [(false, eval a X.env)] := by rfl) : PI X tg (.Call (.Name "range" p) [a] [] pos) (iRng1 ta) := by
  intro pins s σ H R I h
  refine Call_ (ld_blt I hg hm boot_range (PyProof.Rows.callWith_type1 (thn (ha pos pins s σ H _ I h) fun us s1 ⟨vs, H1, I1, r1, q1⟩ => ?_) hs rfl))
  obtain ⟨j, e, q1, q2, q⟩ := q1
  subst e
  cases r1 with
  | cons r rr =>
    cases rr
    obtain ⟨t, rfl⟩ := r
    exact call_range_1 (range_it I1 (by omega) (by omega) q1 q2 (by simpa using q))

def tFor (wi : TI) (g : TG) (tb : TS) : TS := fun D σ H => wi σ H fun J H1 => ∃ W : Nat -> Nat -> St -> Hp -> Prop, (∃ m, W 0 m σ H1) /\ ∀ i m σ H, W i m σ H ->
  (J.stop i H /\ D.nx σ H) ∨ (J.go i H /\ ∃ N : St -> Hp -> Prop, (∀ σ' H', N σ' H' -> ∃ m', m' < m /\ W (i + 1) m' σ' H') /\ ∀ x H', J.yld i H x H' -> g x σ H' fun σ2 H2 => tb { D with nx := N, ct := N, bk := D.nx } σ2 H2)
def pinsAt (fp : List Addr) (h : Heap) : List (Addr × Obj) := fp.filterMap fun b => (h.get? b).map fun o => (b, o)
theorem mem_pinsAt {fp : List Addr} {h : Heap} {b : Addr} {o : Obj} (hb : b ∈ fp) (e : h.get? b = some o) : (b, o) ∈ pinsAt fp h := List.mem_filterMap.mpr ⟨b, hb, by rw [e]; rfl⟩
theorem of_pinsAt {fp : List Addr} {h : Heap} {p : Addr × Obj} (hp : p ∈ pinsAt fp h) : p.1 ∈ fp /\ h.get? p.1 = some p.2 := by
  obtain ⟨b, hb, e⟩ := List.mem_filterMap.mp hp
  cases q : h.get? b with
  | none => rw [q] at e; cases e
  | some o =>
    rw [q] at e
    have e' : (b, o) = p := Option.some.inj e
    subst e'
    exact ⟨hb, q⟩
theorem Inv.pinned {pins : List (Addr × Obj)} {σ : St} {H : Hp} {s : Shared} {fp : List Addr} (I : Inv X pins σ H s) (hf : ∀ b ∈ fp, FpOk X pins H b) (ho : ∀ b ∈ fp, ∃ o, s.heap.get? b = some o /\ ∀ v, o.data ≠ .cell v) : Inv X (pins ++ pinsAt fp s.heap) σ H s :=
  I.pins_of fun p hp => (List.mem_append.mp hp).elim (fun z => I.pin p (List.mem_append_right _ z)) fun z => by
    obtain ⟨hb, e⟩ := of_pinsAt z
    obtain ⟨f0, f1, f2, _⟩ := hf p.1 hb
    obtain ⟨o, e', d⟩ := ho p.1 hb
    rw [e] at e'; cases e'
    exact ⟨e, f0, f1, f2, d⟩
theorem Inv.unpinned {pins pl : List (Addr × Obj)} {σ : St} {H : Hp} {s : Shared} (I : Inv X (pins ++ pl) σ H s) : Inv X pins σ H s := I.pins_of fun p hp => I.pin p (List.mem_append_right _ (List.mem_append_left _ hp))
theorem ps_for {iter : Expr} {body : List Stmt} {wi : TI} {g : TG} {tb : TS} {pos : Pos} (hp : PassesOwn (model X.prog X.w) X.A X.env X.xe) (hc : X.calm = true) (hi : PI X tg iter wi) (hg : PG X tg g) (hb : PSs X body tb)
    (hs : ∀ x, foldedSetIterable iter X.env x = pure x := by intro _; rfl) : PS X (.For tg iter body [] pos) (tFor wi g tb) := by
  intro pins s σ H D I h
  refine wpAny_For (thn (hi pins s σ H _ I h) fun v s1 h1 => thn h1 fun itv s2 h2 => ?_) hs
  obtain ⟨it, fp, tn, J, H2, e, I2, T, st2, f2, W, ⟨m0, w0⟩, turn⟩ := h2
  subst e
  -- what stays true of the iterator's objects through the loop
  have stat : ∀ {H' : Hp}, (∀ b ∈ fp, H' b = none) -> ∀ b ∈ fp, FpOk X pins H' b := fun hn b hb => ⟨hn b hb, (f2 b hb).2⟩
  refine codeAny_forLoop_any (fun n s' => ∃ i σ' H', Inv X pins σ' H' s' /\ tn i s'.heap /\ (∀ b ∈ fp, H' b = none) /\ W i n σ' H') ?_ m0 ⟨0, σ, H2, I2, st2, fun b hb => (f2 b hb).1, w0⟩
  rintro n s3 ⟨i, σ3, H3, I3, st3, fr3, w3⟩
  rcases turn i n σ3 H3 w3 with ⟨stop, qn⟩ | ⟨go, N, hN, step⟩
  · refine wpAny_passesOwn hp (thn (T.done X rfl rfl rfl hc i pins s3 σ3 H3 X.xe I3 (stat fr3) st3 stop) fun r s4 ⟨hr, I4⟩ => ?_)
    subst hr
    exact wpAny_execs_nil ⟨σ3, H3, I4, qn⟩
  · refine wpAny_passesOwn hp (thn (T.item X rfl rfl rfl hc i pins s3 σ3 H3 X.xe I3 (stat fr3) st3 go) fun r s4 ⟨u, hr, h4⟩ => ?_)
    subst hr
    refine wpAny_passesOwn hp (thn h4 fun _ s5 ⟨x, H5, I5, r5, y5, st5, fr5⟩ => ?_)
    have I5' := I5.pinned (stat fr5) (T.obj _ _ st5)
    refine wpAny_passesOwn hp (thn (hg _ s5 σ3 H5 x u _ I5' r5 (step x H5 y5)) fun _ s6 ⟨σ6, H6, I6, q6⟩ => ?_)
    refine wpAny_passesOwn hp (thn (hb _ s6 σ6 H6 _ I6 q6) fun f s7 q7 => ?_)
    have again : ∀ {σ7 : St} {H7 : Hp}, Inv X (pins ++ pinsAt fp s5.heap) σ7 H7 s7 -> N σ7 H7 -> ∃ m, m < n /\ ∃ i σ' H', Inv X pins σ' H' s7 /\ tn i s7.heap /\ (∀ b ∈ fp, H' b = none) /\ W i m σ' H' := fun {σ7 H7} I7 n7 => by
      obtain ⟨m', hm, w7⟩ := hN σ7 H7 n7
      refine ⟨m', hm, i + 1, σ7, H7, I7.unpinned, T.keep _ _ _ st5 fun b hb o e => (I7.pin (b, o) (List.mem_append_right _ (List.mem_append_right _ (mem_pinsAt hb e)))).1, fun b hb => ?_, w7⟩
      obtain ⟨o, e, d⟩ := T.obj _ _ st5 b hb
      exact (I7.pin (b, o) (List.mem_append_right _ (List.mem_append_right _ (mem_pinsAt hb e)))).2.1
    cases f with
    | next => obtain ⟨σ7, H7, I7, n7⟩ := q7; exact again I7 n7
    | cont => obtain ⟨σ7, H7, I7, n7⟩ := q7; exact again I7 n7
    | brk => obtain ⟨σ7, H7, I7, q7⟩ := q7; exact ⟨σ7, H7, I7.unpinned, q7⟩
    | ret v => obtain ⟨x7, σ7, H7, I7, r7, q7⟩ := q7; exact ⟨x7, σ7, H7, I7.unpinned, r7, q7⟩
end

theorem for_list {K : PySem.W.Frag} {a : Addr} {xs : List V} {g : TG} {tb : TS} {D : Ends} {σ : St} {H : Hp} (Pv : Nat -> St -> Hp -> Prop) (h0 : Pv 0 σ H) (hl : ∀ i σ H, i <= xs.length -> Pv i σ H -> SqL K H a xs)
    (hs : ∀ i x σ H, xs[i]? = some x -> Pv i σ H -> g x σ H fun σ2 H2 => tb { D with nx := Pv (i + 1), ct := Pv (i + 1), bk := D.nx } σ2 H2) (hd : ∀ σ H, Pv xs.length σ H -> D.nx σ H) :
    ∃ W : Nat -> Nat -> St -> Hp -> Prop, (∃ m, W 0 m σ H) /\ ∀ i m σ H, W i m σ H ->
      ((Itl K a).stop i H /\ D.nx σ H) ∨ ((Itl K a).go i H /\ ∃ N : St -> Hp -> Prop, (∀ σ' H', N σ' H' -> ∃ m', m' < m /\ W (i + 1) m' σ' H') /\ ∀ x H', (Itl K a).yld i H x H' -> g x σ H' fun σ2 H2 => tb { D with nx := N, ct := N, bk := D.nx } σ2 H2) := by
  refine ⟨fun i m σ H => m = xs.length - i /\ i <= xs.length /\ Pv i σ H, ⟨xs.length, by simp, Nat.zero_le _, h0⟩, ?_⟩
  rintro i m σ H ⟨rfl, hi, p⟩
  have q := hl i σ H hi p
  by_cases hlt : i < xs.length
  · refine .inr ⟨⟨xs, xs[i], q, by simp [hlt]⟩, Pv (i + 1), fun σ' H' p' => ⟨xs.length - (i + 1), by omega, rfl, hlt, p'⟩, fun x H' y => ?_⟩
    obtain ⟨e, y⟩ := y
    subst e
    exact hs i x σ _ (y xs q) p
  · have e : i = xs.length := by omega
    subst e
    exact .inl ⟨⟨xs, q, Nat.le_refl _⟩, hd σ H p⟩
theorem for_range {lo : Int} {n : Nat} {g : TG} {tb : TS} {D : Ends} {σ : St} {H : Hp} (Pv : Nat -> St -> Hp -> Prop) (h0 : Pv 0 σ H)
    (hs : ∀ i σ H, i < n -> Pv i σ H -> g (.int (lo + i)) σ H fun σ2 H2 => tb { D with nx := Pv (i + 1), ct := Pv (i + 1), bk := D.nx } σ2 H2) (hd : ∀ σ H, Pv n σ H -> D.nx σ H) :
    ∃ W : Nat -> Nat -> St -> Hp -> Prop, (∃ m, W 0 m σ H) /\ ∀ i m σ H, W i m σ H ->
      ((Itr lo n).stop i H /\ D.nx σ H) ∨ ((Itr lo n).go i H /\ ∃ N : St -> Hp -> Prop, (∀ σ' H', N σ' H' -> ∃ m', m' < m /\ W (i + 1) m' σ' H') /\ ∀ x H', (Itr lo n).yld i H x H' -> g x σ H' fun σ2 H2 => tb { D with nx := N, ct := N, bk := D.nx } σ2 H2) := by
  refine ⟨fun i m σ H => m = n - i /\ i <= n /\ Pv i σ H, ⟨n, by simp, Nat.zero_le _, h0⟩, ?_⟩
  rintro i m σ H ⟨rfl, hi, p⟩
  by_cases hlt : i < n
  · refine .inr ⟨hlt, Pv (i + 1), fun σ' H' p' => ⟨n - (i + 1), by omega, rfl, hlt, p'⟩, fun x H' y => ?_⟩
    obtain ⟨e, y⟩ := y
    subst e y
    exact hs i σ _ hlt p
  · have e : i = n := by omega
    subst e
    exact .inl ⟨Nat.le_refl _, hd σ H p⟩
end L2

namespace L2
open PySem PySem.Spec PyProof.Rows

abbrev R2 := V -> V -> Hp -> VK -> Prop
def OpR (X : Cx) (f : Value -> Value -> Sem Value) (r : R2) : Prop :=
  ∀ (pins : List (Addr × Obj)) (s : Shared) (σ : St) (H : Hp) (x y : V) (v u : Value) (Q : VK), Inv X pins σ H s -> RelV x v -> RelV y u -> r x y H Q ->
    wpAny (model X.prog X.w) X.A (f v u) (EP X pins σ Q) X.xe s
def UnR (X : Cx) (f : Value -> Sem Value) (r : V -> Hp -> VK -> Prop) : Prop :=
  ∀ (pins : List (Addr × Obj)) (s : Shared) (σ : St) (H : Hp) (x : V) (v : Value) (Q : VK), Inv X pins σ H s -> RelV x v -> r x H Q ->
    wpAny (model X.prog X.w) X.A (f v) (EP X pins σ Q) X.xe s
def CallR (X : Cx) (f : Value) (r : List V -> Hp -> VK -> Prop) : Prop :=
  ∀ (pins : List (Addr × Obj)) (s : Shared) (σ : St) (H : Hp) (xs : List V) (us : List Value) (Q : VK), Inv X pins σ H s -> Vals xs us -> r xs H Q ->
    wpAny (model X.prog X.w) X.A (call f us) (EP X pins σ Q) X.xe s
def TruR (X : Cx) (r : V -> Hp -> (Bool -> Hp -> Prop) -> Prop) : Prop :=
  ∀ (pins : List (Addr × Obj)) (s : Shared) (σ : St) (H : Hp) (x : V) (v : Value) (Q : Bool -> Hp -> Prop), Inv X pins σ H s -> RelV x v -> r x H Q ->
    wpAny (model X.prog X.w) X.A (truthy v) (TP X pins σ Q) X.xe s

def tOp (r : R2) (ta tb : TE) : TE := fun σ H Q => ta σ H fun x H1 => tb σ H1 fun y H2 => r x y H2 Q
def tUn (r : V -> Hp -> VK -> Prop) (ta : TE) : TE := fun σ H Q => ta σ H fun x H1 => r x H1 Q
inductive RII (C : Int -> Int -> Prop) (g : Int -> Int -> V) (x : V) (y : V) (H : Hp) (Q : VK) : Prop where
  | mk (i : _) (j : _) (c1 : x = .int i) (c2 : y = .int j) (c3 : C i j) (c4 : Q (g i j) H)
def rI (C : Int -> Int -> Prop) (g : Int -> Int -> V) : R2 := fun x y H Q => RII C g x y H Q
inductive RI0I (g : Int -> Int -> V) (x : V) (y : V) (H : Hp) (Q : VK) : Prop where
  | mk (i : _) (j : _) (c1 : x = .int i) (c2 : y = .int j) (c3 : Q (g i j) H)
def rI0 (g : Int -> Int -> V) : R2 := fun x y H Q => RI0I g x y H Q
inductive RUI (g : Int -> V) (x : V) (H : Hp) (Q : VK) : Prop where
  | mk (i : _) (c1 : x = .int i) (c2 : Q (g i) H)
def rU (g : Int -> V) : V -> Hp -> VK -> Prop := fun x H Q => RUI g x H Q

section
variable {X : Cx} {a b c : Expr} {ta tb tc : TE} {pos : Pos}

theorem binT (ha : PE X a ta) (hb : PE X b tb) {pins : List (Addr × Obj)} {s : Shared} {σ : St} {H : Hp} {R : V -> V -> Hp -> Prop} (I : Inv X pins σ H s)
    (h : ta σ H fun x H1 => tb σ H1 fun y H2 => R x y H2) {Q : Value -> Shared -> Prop} {f : Value -> Value -> Sem Value}
    (hf : ∀ v u s2 x y H2, Inv X pins σ H2 s2 -> RelV x v -> RelV y u -> R x y H2 -> wpAny (model X.prog X.w) X.A (f v u) Q X.xe s2) :
    wpAny (model X.prog X.w) X.A (eval a X.env) (fun v s₁ => wpAny (model X.prog X.w) X.A (eval b X.env) (fun u s₂ => wpAny (model X.prog X.w) X.A (f v u) Q X.xe s₂) X.xe s₁) X.xe s := by
  refine thn (ha pins s σ H _ I h) fun v s1 ⟨x, H1, I1, r1, q1⟩ => ?_
  refine thn (hb pins s1 σ H1 _ I1 q1) fun u s2 ⟨y, H2, I2, r2, q2⟩ => ?_
  exact hf v u s2 x y H2 I2 r1 r2 q2

theorem pe_op {op : Operator} {r : R2} (ho : OpR X (binaryOp op) r) (ha : PE X a ta) (hb : PE X b tb) : PE X (.BinOp a op b pos) (tOp r ta tb) := by
  intro pins s σ H Q I h
  exact wpAny_BinOp (binT ha hb I h fun v u s2 x y H2 I2 rx ry q => ho pins s2 σ H2 x y v u Q I2 rx ry q)
theorem pe_un {op : UnaryOp} {r : V -> Hp -> VK -> Prop} (ho : UnR X (unaryOp op) r) (ha : PE X a ta) : PE X (.UnaryOp op a pos) (tUn r ta) := by
  intro pins s σ H Q I h
  exact UnaryOp_ (thn (ha pins s σ H _ I h) fun v s1 ⟨x, H1, I1, r1, q1⟩ => ho pins s1 σ H1 x v Q I1 r1 q1)

theorem opI {f : Value -> Value -> Sem Value} {C : Int -> Int -> Prop} {g : Int -> Int -> Int}
    (rule : ∀ (i j : Int) (t u : Tok) (s : Shared) (Q : Value -> Shared -> Prop) (E : Value -> Shared -> Prop), C i j -> Q (.int (g i j) s.toks) { s with toks := s.toks + 1 } -> wpAny (model X.prog X.w) X.A (f (.int i t) (.int j u)) Q E s) :
    OpR X f (rI C fun i j => .int (g i j)) := by
  intro pins s σ H x y v u Q I rx ry h
  obtain ⟨i, j, rfl, rfl, hc, q⟩ := h
  obtain ⟨t, rfl⟩ := rx
  obtain ⟨t', rfl⟩ := ry
  exact rule i j t t' s _ _ hc ⟨.int (g i j), H, I.tok _, ⟨_, rfl⟩, q⟩
theorem opI0 {f : Value -> Value -> Sem Value} {g : Int -> Int -> Int}
    (rule : ∀ (i j : Int) (t u : Tok) (s : Shared) (Q : Value -> Shared -> Prop) (E : Value -> Shared -> Prop), Q (.int (g i j) s.toks) { s with toks := s.toks + 1 } -> wpAny (model X.prog X.w) X.A (f (.int i t) (.int j u)) Q E s) :
    OpR X f (rI0 fun i j => .int (g i j)) := by
  intro pins s σ H x y v u Q I rx ry h
  obtain ⟨i, j, rfl, rfl, q⟩ := h
  obtain ⟨t, rfl⟩ := rx
  obtain ⟨t', rfl⟩ := ry
  exact rule i j t t' s _ _ ⟨.int (g i j), H, I.tok _, ⟨_, rfl⟩, q⟩
theorem opB0 {f : Value -> Value -> Sem Value} {g : Int -> Int -> Bool}
    (rule : ∀ (i j : Int) (t u : Tok) (s : Shared) (Q : Value -> Shared -> Prop) (E : Value -> Shared -> Prop), Q (.bool (g i j)) s -> wpAny (model X.prog X.w) X.A (f (.int i t) (.int j u)) Q E s) :
    OpR X f (rI0 fun i j => .bl (g i j)) := by
  intro pins s σ H x y v u Q I rx ry h
  obtain ⟨i, j, rfl, rfl, q⟩ := h
  obtain ⟨t, rfl⟩ := rx
  obtain ⟨t', rfl⟩ := ry
  exact rule i j t t' s _ _ ⟨.bl (g i j), H, I, rfl, q⟩

def CDiv (i j : Int) : Prop := 0 < j /\ j < 1073741824
def CPow (i j : Int) : Prop := 0 <= j /\ j <= 1000000 /\ i.natAbs < 2 ^ 64
def CMul (i j : Int) : Prop := (-(2 ^ 64) < i /\ i < 2 ^ 64) ∨ (-(2 ^ 64) < j /\ j < 2 ^ 64)
theorem CMul.ok {i j : Int} (h : CMul i j) : IntMulOk i j := by
  rcases h with ⟨h1, h2⟩ | ⟨h1, h2⟩
  · exact .of_left (intBits_le_64 h1 h2)
  · exact .of_right (intBits_le_64 h1 h2)

theorem op_add : OpR X (binaryOp .Add) (rI0 fun i j => .int (i + j)) := opI0 fun _ _ _ _ _ _ _ q => add_int q
theorem op_sub : OpR X (binaryOp .Sub) (rI0 fun i j => .int (i - j)) := opI0 fun _ _ _ _ _ _ _ q => sub_int q
theorem op_mul : OpR X (binaryOp .Mult) (rI CMul fun i j => .int (i * j)) := opI fun _ _ _ _ _ _ _ hc q => mul_int q hc.ok
theorem op_fdiv : OpR X (binaryOp .FloorDiv) (rI CDiv fun i j => .int (i / j)) := opI fun i j _ _ _ _ _ hc q => by
  have h1 : (0 : Int) < j := hc.1
  have h2 : j < 1073741824 := hc.2
  exact floordiv_int (by omega) (by rw [Int.fdiv_eq_ediv_of_nonneg i (by omega)]; exact q) (.inl (PyProof.noPylong_small (by omega)))
theorem op_mod : OpR X (binaryOp .Mod) (rI (fun _ j => 0 < j) fun i j => .int (i % j)) := opI fun i j _ _ _ _ _ hc q => by
  have h1 : (0 : Int) < j := hc
  exact mod_int' (by omega) (by rw [Int.fmod_eq_emod_of_nonneg i (by omega)]; exact q)
theorem op_pow : OpR X (binaryOp .Pow) (rI CPow fun i j => .int (i ^ j.toNat)) := opI fun _ _ _ _ _ _ _ hc q => pow_int_small hc.1 hc.2.1 hc.2.2 q


theorem unI {f : Value -> Sem Value} {g : Int -> Int}
    (rule : ∀ (i : Int) (t : Tok) (s : Shared) (Q : Value -> Shared -> Prop) (E : Value -> Shared -> Prop), Q (.int (g i) s.toks) { s with toks := s.toks + 1 } -> wpAny (model X.prog X.w) X.A (f (.int i t)) Q E s) :
    UnR X f (rU fun i => .int (g i)) := by
  intro pins s σ H x v Q I rx h
  obtain ⟨i, rfl, q⟩ := h
  obtain ⟨t, rfl⟩ := rx
  exact rule i t s _ _ ⟨.int (g i), H, I.tok _, ⟨_, rfl⟩, q⟩
theorem un_neg : UnR X (unaryOp .USub) (rU fun i => .int (-i)) := unI fun _ _ _ _ _ q => neg_int q

end

def scal : V -> V -> Bool
  | .non, .non => true | .non, .int _ => true | .int _, .non => true | .non, .bl _ => true | .bl _, .non => true | .non, .str _ => true | .str _, .non => true
  | .int _, .int _ => true | .bl _, .bl _ => true | .str _, .str _ => true | .byt _, .byt _ => true
  | .int _, .str _ => true | .str _, .int _ => true | .bl _, .str _ => true | .str _, .bl _ => true
  | _, _ => false
inductive REqI (x : V) (y : V) (H : Hp) (Q : VK) : Prop where
  | mk (c1 : scal x y = true) (c2 : Q (.bl (decide (x = y))) H)
def rEq : R2 := fun x y H Q => REqI x y H Q
inductive RNeI (x : V) (y : V) (H : Hp) (Q : VK) : Prop where
  | mk (c1 : scal x y = true) (c2 : Q (.bl (!decide (x = y))) H)
def rNe : R2 := fun x y H Q => RNeI x y H Q

theorem dec_int {i j : Int} : decide (V.int i = V.int j) = (i == j) := by
  rw [Bool.eq_iff_iff]
  simp
theorem dec_bl {i j : Bool} : decide (V.bl i = V.bl j) = (i == j) := by
  rw [Bool.eq_iff_iff]
  simp
theorem dec_str {i j : Str} : decide (V.str i = V.str j) = (i == j) := by
  rw [Bool.eq_iff_iff]
  simp
theorem dec_byt {i j : Array UInt8} : decide (V.byt i = V.byt j) = (i.toList == j.toList) := by
  rw [Bool.eq_iff_iff]
  cases i
  cases j
  simp

section
variable {X : Cx} {a b c : Expr} {ta tb tc : TE} {pos : Pos}
theorem fin_bl {pins : List (Addr × Obj)} {σ : St} {H : Hp} {s : Shared} {Q : VK} {k k' : Bool} (I : Inv X pins σ H s) (q : Q (.bl k) H) (e : k = k') : EP X pins σ Q (.bool k') s := by
  subst e
  exact ⟨.bl k, H, I, rfl, q⟩
theorem op_eq : OpR X (compareOp .Eq) rEq := by
  intro pins s σ H x y v u Q I rx ry h
  obtain ⟨hs, q⟩ := h
  cases x with
  | non =>
    cases rx
    cases y with
    | non => cases ry; exact PySem.EqNone.eq_none_none (fin_bl I q (by simp))
    | bl j => cases ry; exact PySem.EqNone.eq_none_bool (fin_bl I q (by simp))
    | int j => obtain ⟨t', rfl⟩ := ry; exact PySem.EqNone.eq_none_int (fin_bl I q (by simp))
    | str j => obtain ⟨t', rfl⟩ := ry; exact PySem.EqNone.eq_none_str (fin_bl I q (by simp))
    | _ => exact absurd (show false = true from hs) Bool.false_ne_true
  | bl i =>
    cases rx
    cases y with
    | non => cases ry; exact PySem.EqNone.eq_bool_none (fin_bl I q (by simp))
    | bl j => cases ry; exact eq_bool (fin_bl I q dec_bl)
    | str j => obtain ⟨t', rfl⟩ := ry; exact PySem.EqMixed.eq_bool_str (fin_bl I q (by simp))
    | _ => exact absurd (show false = true from hs) Bool.false_ne_true
  | int i =>
    obtain ⟨t, rfl⟩ := rx
    cases y with
    | non => cases ry; exact PySem.EqNone.eq_int_none (fin_bl I q (by simp))
    | int j => obtain ⟨t', rfl⟩ := ry; exact eq_int (fin_bl I q dec_int)
    | str j => obtain ⟨t', rfl⟩ := ry; exact PySem.EqMixed.eq_int_str (fin_bl I q (by simp))
    | _ => exact absurd (show false = true from hs) Bool.false_ne_true
  | str i =>
    obtain ⟨t, rfl⟩ := rx
    cases y with
    | non => cases ry; exact PySem.EqNone.eq_str_none (fin_bl I q (by simp))
    | bl j => cases ry; exact PySem.EqMixed.eq_str_bool (fin_bl I q (by simp))
    | int j => obtain ⟨t', rfl⟩ := ry; exact PySem.EqMixed.eq_str_int (fin_bl I q (by simp))
    | str j => obtain ⟨t', rfl⟩ := ry; exact eq_str (fin_bl I q dec_str)
    | _ => exact absurd (show false = true from hs) Bool.false_ne_true
  | byt i =>
    obtain ⟨t, rfl⟩ := rx
    cases y with
    | byt j => obtain ⟨t', rfl⟩ := ry; exact PySem.W.eq_bytes (fin_bl I q dec_byt)
    | _ => exact absurd (show false = true from hs) Bool.false_ne_true
  | _ => cases y <;> exact absurd (show false = true from hs) Bool.false_ne_true
theorem op_ne : OpR X (compareOp .NotEq) rNe := by
  intro pins s σ H x y v u Q I rx ry h
  obtain ⟨hs, q⟩ := h
  cases x with
  | non =>
    cases rx
    cases y with
    | non => cases ry; exact PySem.EqNone.ne_none_none (fin_bl I q (by simp))
    | bl j => cases ry; exact PySem.EqNone.ne_none_bool (fin_bl I q (by simp))
    | int j => obtain ⟨t', rfl⟩ := ry; exact PySem.EqNone.ne_none_int (fin_bl I q (by simp))
    | str j => obtain ⟨t', rfl⟩ := ry; exact PySem.EqNone.ne_none_str (fin_bl I q (by simp))
    | _ => exact absurd (show false = true from hs) Bool.false_ne_true
  | bl i =>
    cases rx
    cases y with
    | non => cases ry; exact PySem.EqNone.ne_bool_none (fin_bl I q (by simp))
    | bl j => cases ry; exact ne_bool (fin_bl I q (congrArg not dec_bl))
    | str j => obtain ⟨t', rfl⟩ := ry; exact PySem.EqMixed.ne_bool_str (fin_bl I q (by simp))
    | _ => exact absurd (show false = true from hs) Bool.false_ne_true
  | int i =>
    obtain ⟨t, rfl⟩ := rx
    cases y with
    | non => cases ry; exact PySem.EqNone.ne_int_none (fin_bl I q (by simp))
    | int j => obtain ⟨t', rfl⟩ := ry; exact ne_int (fin_bl I q (congrArg not dec_int))
    | str j => obtain ⟨t', rfl⟩ := ry; exact PySem.EqMixed.ne_int_str (fin_bl I q (by simp))
    | _ => exact absurd (show false = true from hs) Bool.false_ne_true
  | str i =>
    obtain ⟨t, rfl⟩ := rx
    cases y with
    | non => cases ry; exact PySem.EqNone.ne_str_none (fin_bl I q (by simp))
    | bl j => cases ry; exact PySem.EqMixed.ne_str_bool (fin_bl I q (by simp))
    | int j => obtain ⟨t', rfl⟩ := ry; exact PySem.EqMixed.ne_str_int (fin_bl I q (by simp))
    | str j => obtain ⟨t', rfl⟩ := ry; exact ne_str (fin_bl I q (congrArg not dec_str))
    | _ => exact absurd (show false = true from hs) Bool.false_ne_true
  | byt i =>
    obtain ⟨t, rfl⟩ := rx
    cases y with
    | byt j => obtain ⟨t', rfl⟩ := ry; exact PySem.W.ne_bytes (fin_bl I q (congrArg not dec_byt))
    | _ => exact absurd (show false = true from hs) Bool.false_ne_true
  | _ => cases y <;> exact absurd (show false = true from hs) Bool.false_ne_true

theorem op_lt : OpR X (compareOp .Lt) (rI0 fun i j => .bl (decide (i < j))) := opB0 fun _ _ _ _ _ _ _ q => lt_int q
theorem op_gt : OpR X (compareOp .Gt) (rI0 fun i j => .bl (decide (j < i))) := opB0 fun _ _ _ _ _ _ _ q => gt_int q
theorem op_ge : OpR X (compareOp .GtE) (rI0 fun i j => .bl (decide (j <= i))) := opB0 fun _ _ _ _ _ _ _ q => ge_int q

theorem op_isN : OpR X (compareOp .Is) (fun x y H Q => y = .non /\ Q (.bl (decide (x = .non))) H) := by
  intro pins s σ H x y v u Q I rx ry h
  obtain ⟨rfl, q⟩ := h
  cases ry
  refine is_none_gen (fin_bl I q ?_)
  cases x <;> first
    | (cases rx; rfl)
    | (obtain ⟨t, rfl⟩ := rx; rfl)
theorem op_notN : OpR X (compareOp .IsNot) (fun x y H Q => y = .non /\ Q (.bl (!decide (x = .non))) H) := by
  intro pins s σ H x y v u Q I rx ry h
  obtain ⟨rfl, q⟩ := h
  cases ry
  refine isnot_none_gen (fin_bl I q ?_)
  cases x <;> first
    | (cases rx; rfl)
    | (obtain ⟨t, rfl⟩ := rx; rfl)


theorem OpR.or {f : Value -> Value -> Sem Value} {r r' : R2} (h : OpR X f r) (h' : OpR X f r') : OpR X f (fun x y H Q => r x y H Q ∨ r' x y H Q) := by
  intro pins s σ H x y v u Q I rx ry q
  rcases q with q | q
  · exact h pins s σ H x y v u Q I rx ry q
  · exact h' pins s σ H x y v u Q I rx ry q

theorem nomark (b : Expr) {op : CmpOp} (h : op ≠ .In := by decide) (h2 : op ≠ .NotIn := by decide) : behindInMarks op b = false := by
  have e1 : (op == CmpOp.In) = false := by cases op <;> first | rfl | exact absurd rfl h
  have e2 : (op == CmpOp.NotIn) = false := by cases op <;> first | rfl | exact absurd rfl h2
  cases b <;> simp [behindInMarks, e1, e2]
theorem pe_cmpR {op : CmpOp} {r : R2} (ho : OpR X (compareOp op) r) (ha : PE X a ta) (hb : PE X b tb) (hm : behindInMarks op b = false) : PE X (.Compare a [op] [b] pos) (tOp r ta tb) := by
  intro pins s σ H Q I h
  exact wpAny_Compare1 (binT ha hb I h fun v u s2 x y H2 I2 rx ry q => ho pins s2 σ H2 x y v u Q I2 rx ry q) hm
inductive TTestI (x : V) (H' : Hp) (Q : Bool -> Hp -> Prop) : Prop where
  | mk (k : _) (c1 : x = .bl k) (c2 : Q k H')
def tTest (t : TE) : TT := fun σ H Q => t σ H fun x H' => TTestI x H' Q
theorem pt_cmpR {op : CmpOp} {r : R2} (ho : OpR X (compareOp op) r) (ha : PE X a ta) (hb : PE X b tb) (hm : behindInMarks op b = false) : PT X (.Compare a [op] [b] pos) (tTest (tOp r ta tb)) := by
  intro pins s σ H Q I h
  refine wpAny_isTrue_Compare1 (thn (ha pins s σ H _ I h) fun v s1 ⟨x, H1, I1, r1, q1⟩ => thn (hb pins s1 σ H1 _ I1 q1) fun u s2 ⟨y, H2, I2, r2, q2⟩ =>
    thn (ho pins s2 σ H2 x y v u _ I2 r1 r2 q2) fun c s3 ⟨z, H3, I3, r3, k, e, q3⟩ => ?_) hm
  subst e
  cases r3
  exact wpAny_truthy_bool ⟨H3, I3, q3⟩

def TruV (K : PySem.W.Frag) (x : V) (H : Hp) (k : Bool) : Prop :=
  match x with
  | .non => k = false
  | .bl b => k = b
  | .int i => k = (i != 0)
  | .str y => y.length <= sizeLine /\ k = ((y.length : Int) != 0)
  | .byt y => y.size <= sizeLine /\ k = ((y.size : Int) != 0)
  | .ref p => (∃ xs, SqL K H p xs /\ k = !xs.isEmpty) ∨ (∃ xs, SqT K H p xs /\ k = !xs.isEmpty) ∨ ∃ kvs, H p = some (.dK kvs) /\ k = !kvs.isEmpty
  | _ => False
theorem isEmpty_kv {κ : Type} {kvs : List (κ × V)} {vs : List (κ × Value)} (r : KV kvs vs) : (!vs.isEmpty) = !kvs.isEmpty := by
  cases r <;> rfl
theorem isEmpty_of {xs : List V} {its : List Value} (r : Vals xs its) : (!its.toArray.isEmpty) = !xs.isEmpty := by
  cases r <;> simp
theorem line63 : (sizeLine : Nat) < 2 ^ 63 := by rw [sizeLine_eq]; decide
theorem tru_ok : TruR X (fun x H Q => ∃ k, TruV X.K x H k /\ Q k H) := by
  intro pins s σ H x v Q I rx h
  obtain ⟨k, e, q⟩ := h
  have hl := line63
  have hs : sizeLine = 16777216 := sizeLine_eq
  cases x with
  | non =>
    cases rx
    have e' : k = false := e
    subst e'
    exact truthy_none ⟨H, I, q⟩
  | bl b =>
    cases rx
    have e' : k = b := e
    subst e'
    exact wpAny_truthy_bool ⟨H, I, q⟩
  | int i =>
    obtain ⟨t, rfl⟩ := rx
    have e' : k = (i != 0) := e
    subst e'
    exact PySem.P.truthy_int ⟨H, I, q⟩
  | str y =>
    obtain ⟨t, rfl⟩ := rx
    obtain ⟨hy, e'⟩ : y.length <= sizeLine /\ k = ((y.length : Int) != 0) := e
    subst e'
    exact PySem.P.truthy_str (by omega) ⟨H, I.tok _, q⟩
  | byt y =>
    obtain ⟨t, rfl⟩ := rx
    obtain ⟨hy, e'⟩ : y.size <= sizeLine /\ k = ((y.size : Int) != 0) := e
    subst e'
    exact PySem.W.truthy_bytes (by omega) ⟨H, I.tok _, q⟩
  | ref p =>
    cases rx
    have e' : (∃ xs, SqL X.K H p xs /\ k = !xs.isEmpty) ∨ (∃ xs, SqT X.K H p xs /\ k = !xs.isEmpty) ∨ ∃ kvs, H p = some (.dK kvs) /\ k = !kvs.isEmpty := e
    rcases e' with ⟨xs, hx, e'⟩ | ⟨xs, hx, e'⟩ | ⟨kvs, hx, e'⟩
    · subst e'
      obtain ⟨its, r, pl, hz⟩ := I.list hx
      have hlen := r.length
      exact wpAny_truthy_list pl.isList (by simp only [List.size_toArray]; omega) ⟨H, I.tok _, by rw [isEmpty_of r]; exact q⟩
    · subst e'
      obtain ⟨its, r, pl, hz⟩ := I.tuple hx
      have hlen := r.length
      exact truthy_tuple pl (by simp only [List.size_toArray]; omega) ⟨H, I.tok _, by rw [isEmpty_of r]; exact q⟩
    · subst e'
      obtain ⟨hz, hS, vs, r, m⟩ : kvs.length <= sizeLine /\ (p == sysModules) = false /\ ∃ vs, KV kvs vs /\ s.heap.DictOf (mixKind X.prog X.w) p vs := I.hok p _ hx
      have hlen : kvs.length = vs.length := Paired.length r
      exact wpAny_truthy_dict hS m (by omega) ⟨H, I.tok _, by rw [isEmpty_kv r]; exact q⟩
  | _ => exact (show False from e).elim
theorem pt_truth (ha : PE X a ta) (he : ∀ whole, isTrue a X.env whole = (do let v <- whole; standAt a.pos; holding [v] (truthy v))) :
    PT X a (fun σ H Q => ta σ H fun x H' => ∃ k, TruV X.K x H' k /\ Q k H') := by
  intro pins s σ H Q I h
  exact isTrue_plain (thn (ha pins s σ H _ I h) fun v s1 ⟨x, H1, I1, r1, q1⟩ => tru_ok pins s1 σ H1 x v Q I1 r1 q1) (he _)

theorem op_add_str : OpR X (binaryOp .Add) (fun x y H Q => ∃ i j, x = .str i /\ y = .str j /\ i.length + j.length <= sizeLine /\ Q (.str (i ++ j)) H) := by
  intro pins s σ H x y v u Q I rx ry h
  obtain ⟨i, j, rfl, rfl, hz, q⟩ := h
  obtain ⟨t, rfl⟩ := rx
  obtain ⟨t', rfl⟩ := ry
  exact add_str (fun t' tk => ⟨.str (i ++ j), H, I.tok _, ⟨_, rfl⟩, q⟩) hz


theorem vals1 {x : V} {us : List Value} (r : Vals [x] us) : ∃ u, us = [u] /\ RelV x u := by
  cases r with
  | cons r1 r2 => cases r2; exact ⟨_, rfl, r1⟩
theorem vals2 {x y : V} {us : List Value} (r : Vals [x, y] us) : ∃ u w', us = [u, w'] /\ RelV x u /\ RelV y w' := by
  cases r with
  | cons r1 r2 =>
    cases r2 with
    | cons r3 r4 => cases r4; exact ⟨_, _, rfl, r1, r3⟩
theorem call_abs : CallR X (.builtin "abs") (fun xs H Q => ∃ i, xs = [.int i] /\ Q (.int (if i < 0 then -i else i)) H) := by
  intro pins s σ H xs us Q I r h
  obtain ⟨i, rfl, q⟩ := h
  obtain ⟨u, rfl, t, rfl⟩ := vals1 r
  exact call_abs_int fun u tk => ⟨.int (if i < 0 then -i else i), H, I.tok _, ⟨_, rfl⟩, q⟩
end
end L2

namespace L2
open PySem PySem.Spec PyProof.Rows

structure ObjM (h : Heap) (x dx C : Addr) (mA : Str -> Option Value) : Prop where
  obj : h.get? x = some (PySem.W.instObj C dx)
  ns : h.Ns1 dx mA
  ne : dx ≠ x

theorem lookIn_ns {h : Heap} {dx : Addr} {mA : Str -> Option Value} (n : h.Ns1 dx mA) : ∃ od, h.get? dx = some od /\ ∀ name, PySem.W.lookIn name od = some (mA name) := by
  obtain ⟨o, es, ep, ho, hd, hk, _, hm⟩ := n
  refine ⟨o, ho, fun name => ?_⟩
  have e := hm name
  unfold nsFind findBy at e
  rw [<- Array.find?_toList] at e
  unfold PySem.W.lookIn
  rw [hd]
  dsimp only
  split
  · rename_i y q
    rw [q] at e
    exact congrArg some e
  · rename_i q
    rw [q] at e
    have a : es.toList.any (·.refKey) = false := by
      rw [List.any_eq_false]
      intro y hy
      obtain ⟨z, t, hkey⟩ := hk y (Array.mem_toList_iff.mp hy)
      simp [DictEntry.refKey, hkey]
    have a' : ¬ es.toList.any (·.refKey) = true := by rw [a]; exact Bool.false_ne_true
    rw [if_neg a']
    exact congrArg some e

theorem ObjM.look {h : Heap} {x dx C : Addr} {mA : Str -> Option Value} (I : ObjM h x dx C mA) : ∃ od, PySem.W.InstAt h x (PySem.W.instObj C dx) C (some od) /\ ∀ name, PySem.W.lookIn name od = some (mA name) :=
  let ⟨od, ho, hl⟩ := lookIn_ns I.ns
  ⟨od, ⟨I.obj, rfl, rfl, ho⟩, hl⟩

section
variable {prog : Program} {w : World} {A : Around} {E : Value -> Shared -> Prop} {s : Shared} {K : PySem.W.Frag} {x dx C f : Addr} {mA : Str -> Option Value} {name : Str} {v : Value}

theorem get_map {expr : Bool} {Q : Value -> Shared -> Prop} (X : K.In s.heap) (I : ObjM s.heap x dx C mA) (hg : PySem.W.plainGet K C name = true) (hh : PySem.W.hasDictIn K C = true)
    (ha : PySem.W.findIn K (.ref C) name = some none) (hv : mA name = some v) (hv' : PySem.W.handedIn v = true) (h : Q v { s with toks := s.toks + 1 }) :
    wpAny (model prog w) A (getAttr (.ref x) name expr) Q E s := by
  obtain ⟨od, J, hl⟩ := I.look
  exact PySem.W.get_value X J (PySem.W.plainGet_of hg).1 (PySem.W.findObj_own hh ha rfl (by rw [hl, hv])) hv' h


theorem get_meth {pl : Sem Bool} {Q : Value × List Value -> Shared -> Prop} (X : K.In s.heap) (I : ObjM s.heap x dx C mA) (hg : PySem.W.plainGet K C name = true)
    (hf : PySem.W.findIn K (.ref C) name = some (some (.ref f))) (ht : PySem.W.isFn K (.ref f) = true) (hv : mA name = none) (h : Q (.ref f, [.ref x]) s) :
    wpAny (model prog w) A (getMethod (.ref x) name pl) Q E s := by
  obtain ⟨od, J, hl⟩ := I.look
  exact PySem.W.method_fn X J (PySem.W.plainGet_of hg).1 (PySem.W.plainGet_of hg).2 hf (beq_iff_eq.mp ht) (by show (PySem.W.lookIn name od).map (·.isSome) = some false; rw [hl, hv]; rfl) h

theorem set_map {ns : List Str} {Q : Unit -> Shared -> Prop} (X : K.In s.heap) (I : ObjM s.heap x dx C mA)
    (hs : PySem.W.findIn K (.ref C) "__setattr__" = some (some (.builtin "object.__setattr__"))) (hp : PySem.W.plainOver K C = true) (ht : PySem.W.takerIn K C name = some none) (hh : PySem.W.hasDictIn K C = true)
    (hw : PySem.Within mA ns) (hsz : ns.length <= sizeLine)
    (h : ∀ h', ObjM h' x dx C (fun y => if y = name then some v else mA y) -> Heap.SameBut dx s.heap h' -> Q () { s with heap := h', toks := s.toks + 2 }) :
    wpAny (model prog w) A (setAttr (.ref x) name v) Q E s := by
  obtain ⟨od, J, hl⟩ := I.look
  refine PySem.W.set_plain X J hs (PySem.W.osa_open (s := { s with toks := s.toks + 1 }) (r := none) X J hp ht fun b => ?_)
  obtain ⟨cd, hc, hd'⟩ := PySem.W.any_some hh
  have hx : s.heap.get? x = some ⟨.ref C, some dx, .plain, #[]⟩ := I.obj
  refine wpAny_bind (wpAny_pure (wpAny_bind (wpAny_bind (wpAny_loadPart hx (wpAny_bind (PySem.W.Looks.here (s := { s with toks := s.toks + 1 }) (PySem.W.looks_clsIn X hc) ?_))))))
  rw [hd']
  refine wpAny_pure (a := some dx) (wpAny_bind (wpAny_pure (wpAny_bind ?_)))
  refine wpAny_nsSet1 (s := { s with toks := s.toks + 1 }) I.ns fun h' hn2 hs2 => ?_
  obtain ⟨oD, esD, epD, hoD, hdD, hcD⟩ := hn2.count (PySem.Within.cons name v hw)
  refine wpAny_bind (wpAny_lookBehind hoD (by rw [hdD]; exact pastItsLine_dict (Nat.le_trans hcD (by rw [List.length_cons]; omega))) ?_)
  exact wpAny_pure (h _ ⟨(hs2.2 _ (Ne.symm I.ne)).trans I.obj, hn2, I.ne⟩ hs2)

theorem make_map {R : Result -> Shared -> Prop} {vs : List Value} {kw : List (Str × Value)} (X : K.In s.heap) (hm : PySem.W.makesIn K C = true)
    (hi : PySem.W.findIn K (.ref C) "__init__" = some (some (.ref f))) (hf : PySem.W.typeIn K (.ref f) = some (.type "function"))
    (h : codeAny (model prog w) (A.under (.builtin "type.__call__" ⟨.ref C :: vs, kw⟩)) (.call (.ref f) ⟨.ref (s.heap.objs.size + 1) :: vs, kw⟩) (PySem.W.InitBack (s.heap.objs.size + 1) R)
      { s with heap := (s.heap.push PySem.W.emptyDict).push (PySem.W.instObj C s.heap.objs.size) }) :
    codeAny (model prog w) A (.call (.ref C) ⟨vs, kw⟩) R s := by
  obtain ⟨hh, g, d, t, os⟩ := s
  exact PySem.W.make_core (PySem.W.makes_of X hm) (PySem.W.looks_findIn X hi) (fun self => PySem.W.bind_fn X self hf) (.inl rfl) h
end

def putF (f : Str) (v : V) : List (Str × V) -> List (Str × V)
  | [] => [(f, v)]
  | (g, x) :: r => if g = f then (g, v) :: r else (g, x) :: putF f v r
theorem lookup_putF (f g : Str) (v : V) : ∀ fs : List (Str × V), (putF f v fs).lookup g = if g = f then some v else fs.lookup g
  | [] => by
    show List.lookup g [(f, v)] = _
    by_cases h : g = f
    · have hb : (g == f) = true := beq_iff_eq.mpr h
      simp only [List.lookup, hb, if_pos h]
    · have hb : (g == f) = false := beq_eq_false_iff_ne.mpr h
      simp only [List.lookup, hb, if_neg h]
  | (k, x) :: r => by
    have ih := lookup_putF f g v r
    rw [show putF f v ((k, x) :: r) = (if k = f then (k, v) :: r else (k, x) :: putF f v r) from rfl]
    by_cases hk : k = f
    · rw [if_pos hk]
      by_cases h : g = k
      · have hb : (g == k) = true := beq_iff_eq.mpr h
        simp only [List.lookup, hb, if_pos (h.trans hk)]
      · have hb : (g == k) = false := beq_eq_false_iff_ne.mpr h
        simp only [List.lookup, hb, if_neg (fun e : g = f => h (e.trans hk.symm))]
    · rw [if_neg hk]
      by_cases h : g = k
      · have hb : (g == k) = true := beq_iff_eq.mpr h
        simp only [List.lookup, hb, if_neg (fun e : g = f => hk (h.symm.trans e))]
      · have hb : (g == k) = false := beq_eq_false_iff_ne.mpr h
        simp only [List.lookup, hb]
        exact ih
theorem keys_putF (f : Str) (v : V) : ∀ fs : List (Str × V), f ∈ (putF f v fs).map (·.1) /\ ∀ g, g ∈ fs.map (·.1) -> g ∈ (putF f v fs).map (·.1)
  | [] => ⟨by simp [putF], fun g h => by simp at h⟩
  | (k, x) :: r => by
    obtain ⟨i1, i2⟩ := keys_putF f v r
    rw [show putF f v ((k, x) :: r) = (if k = f then (k, v) :: r else (k, x) :: putF f v r) from rfl]
    by_cases hk : k = f
    · rw [if_pos hk]
      subst hk
      exact ⟨by simp, fun g h => by simpa using h⟩
    · rw [if_neg hk]
      refine ⟨?_, fun g h => ?_⟩
      · rw [List.map_cons]
        exact List.mem_cons_of_mem _ i1
      · rw [List.map_cons] at h ⊢
        rcases List.mem_cons.mp h with e | e
        · exact List.mem_cons.mpr (.inl e)
        · exact List.mem_cons_of_mem _ (i2 g e)
theorem length_putF (f : Str) (v : V) : ∀ fs : List (Str × V), (putF f v fs).length <= fs.length + 1
  | [] => by simp [putF]
  | (k, x) :: r => by
    have ih := length_putF f v r
    rw [show putF f v ((k, x) :: r) = (if k = f then (k, v) :: r else (k, x) :: putF f v r) from rfl]
    by_cases hk : k = f
    · rw [if_pos hk, List.length_cons, List.length_cons]; omega
    · rw [if_neg hk, List.length_cons, List.length_cons]; omega

theorem RelO.some_of {v : V} {o : Option Value} (r : RelO (some v) o) : ∃ u, o = some u /\ RelV v u := by
  cases o with
  | none => exact (show False from r).elim
  | some u => exact ⟨u, rfl, r⟩
theorem RelO.none_of {o : Option Value} (r : RelO none o) : o = none := by
  cases o with
  | none => rfl
  | some u => exact (show False from r).elim
theorem handed_of {v : V} {u : Value} (r : RelV v u) : PySem.W.handedIn u = true := by
  cases v with
  | non => cases (show u = Value.none from r); rfl
  | bl b => cases (show u = Value.bool b from r); rfl
  | int i => obtain ⟨t, e⟩ := (show ∃ t, u = Value.int i t from r); cases e; rfl
  | str x => obtain ⟨t, e⟩ := (show ∃ t, u = Value.str x t from r); cases e; rfl
  | byt b => obtain ⟨t, e⟩ := (show ∃ t, u = Value.bytes b t from r); cases e; rfl
  | flt b => obtain ⟨t, e⟩ := (show ∃ t, u = Value.float b t from r); cases e; rfl
  | ref a => cases (show u = Value.ref a from r); rfl
  | ty n => cases (show u = Value.type n from r); rfl

section
variable {P : Program} {w : World} {H H' : Hp} {h h' : Heap} {a C dx : Addr} {fs fs' : List (Str × V)}
theorem ins_get (hok : HOk P w H h) (e : H a = some (.ins C dx fs)) : ∃ mA, ObjM h a dx C mA /\ (∀ f, RelO (fs.lookup f) (mA f)) /\ PySem.Within mA (fs.map (·.1)) /\ fs.length <= 1000 /\ H dx = some (.own a) := by
  obtain ⟨d, z, ne, ob, mA, n, r, q⟩ := (show ObjOk P w H h a (.ins C dx fs) from hok a _ e)
  exact ⟨mA, ⟨ob, n, ne⟩, r, q, z, d⟩
end

structure Cls (K : PySem.W.Frag) (C : Addr) : Prop where
  pg : PySem.W.plainGet K C Str.empty = true
  hd : PySem.W.hasDictIn K C = true
  po : PySem.W.plainOver K C = true
  sa : PySem.W.findIn K (.ref C) "__setattr__" = some (some (.builtin "object.__setattr__"))
theorem Cls.get {K : PySem.W.Frag} {C : Addr} (c : Cls K C) (f : Str) : PySem.W.plainGet K C f = true := c.pg
def NoAttr (K : PySem.W.Frag) (C : Addr) (f : Str) : Prop := PySem.W.findIn K (.ref C) f = some none
theorem NoAttr.taker {K : PySem.W.Frag} {C : Addr} {f : Str} (n : NoAttr K C f) : PySem.W.takerIn K C f = some none := by
  unfold PySem.W.takerIn
  rw [show PySem.W.findIn K (.ref C) f = some none from n]
  rfl
structure Meth (K : PySem.W.Frag) (C : Addr) (m : Str) (f : Addr) : Prop where
  at_ : PySem.W.findIn K (.ref C) m = some (some (.ref f))
  fn : PySem.W.isFn K (.ref f) = true
  kp : PySem.W.keepIn K (.ref f) = true

section
variable {X : Cx} {pins : List (Addr × Obj)} {σ : St} {H : Hp} {s : Shared} {a C dx : Addr} {fs : List (Str × V)} {f : Str} {v : V} {A : Around} {E : Value -> Shared -> Prop}

theorem getattr_ok {b : Bool} {Q : Value -> Shared -> Prop} (I : Inv X pins σ H s) (e : H a = some (.ins C dx fs)) (c : Cls X.K C) (n : NoAttr X.K C f) (l : fs.lookup f = some v)
    (h : ∀ u s', Inv X pins σ H s' -> RelV v u -> Q u s') : wpAny (model X.prog X.w) A (getAttr (.ref a) f b) Q E s := by
  obtain ⟨mA, O, r, _, _, _⟩ := ins_get I.hok e
  obtain ⟨u, hu, ru⟩ := RelO.some_of (v := v) (o := mA f) (by rw [<- l]; exact r f)
  exact get_map I.kIn O (c.get f) c.hd n hu (handed_of ru) (h u _ (I.tok _) ru)


theorem getmeth_ok {m : Str} {g : Addr} {pl : Sem Bool} {Q : Value × List Value -> Shared -> Prop} (I : Inv X pins σ H s) (e : H a = some (.ins C dx fs)) (c : Cls X.K C) (k : Meth X.K C m g) (l : fs.lookup m = none)
    (h : Q (.ref g, [.ref a]) s) : wpAny (model X.prog X.w) A (getMethod (.ref a) m pl) Q E s := by
  obtain ⟨mA, O, r, _, _, _⟩ := ins_get I.hok e
  have hn : mA m = none := RelO.none_of (by rw [<- l]; exact r m)
  exact get_meth I.kIn O (c.get m) k.at_ k.fn hn h

theorem setattr_ok {y : V} {u : Value} {Q : Unit -> Shared -> Prop} (I : Inv X pins σ H s) (e : H a = some (.ins C dx fs)) (c : Cls X.K C) (n : NoAttr X.K C f) (hl : fs.length < 1000) (ry : RelV y u)
    (h : ∀ s', Inv X pins σ (upd H a (.ins C dx (putF f y fs))) s' -> Q () s') : wpAny (model X.prog X.w) A (setAttr (.ref a) f u) Q E s := by
  obtain ⟨mA, O, r, wi, _, ho⟩ := ins_get I.hok e
  have hz : (fs.map (·.1)).length <= sizeLine := by rw [List.length_map, sizeLine_eq]; omega
  refine set_map I.kIn O c.sa c.po n.taker c.hd wi hz fun h' O' sb => h _ ?_
  have hd : ∃ o, h'.get? dx = some o := let ⟨o, _, _, e', _⟩ := O'.ns; ⟨o, e'⟩
  refine I.write (x := a) (e := dx) (by rw [e]; exact True.intro) (.inr ho) (fun b q hb z => (sb.2 b hb).trans z) hd ?_
  refine ⟨by rw [upd_ne O.ne]; exact ho, ?_, O.ne, O'.obj, _, O'.ns, fun g => ?_, fun g hg => ?_⟩
  · have := length_putF f y fs; omega
  · show RelO ((putF f y fs).lookup g) (if g = f then some u else mA g)
    rw [lookup_putF]
    by_cases q : g = f
    · rw [if_pos q, if_pos q]; exact ry
    · rw [if_neg q, if_neg q]; exact r g
  · by_cases q : g = f
    · rw [q]; exact (keys_putF f y fs).1
    · refine (keys_putF f y fs).2 g (wi g fun z => hg ?_)
      show (if g = f then some u else mA g) = none
      rw [if_neg q]; exact z

theorem Inv.made (I : Inv X pins σ H s) : Inv X pins σ (upd (upd H s.heap.objs.size (.own (s.heap.objs.size + 1))) (s.heap.objs.size + 1) (.ins C s.heap.objs.size []))
    { s with heap := (s.heap.push PySem.W.emptyDict).push (PySem.W.instObj C s.heap.objs.size) } := by
  have e1 : (s.heap.push PySem.W.emptyDict).get? s.heap.objs.size = some PySem.W.emptyDict := Heap.get?_push_size s.heap rfl
  have e2 : ((s.heap.push PySem.W.emptyDict).push (PySem.W.instObj C s.heap.objs.size)).get? (s.heap.objs.size + 1) = some (PySem.W.instObj C s.heap.objs.size) := by
    have := Heap.get?_push_size (s.heap.push PySem.W.emptyDict) (o := PySem.W.instObj C s.heap.objs.size) rfl
    rwa [Heap.size_push] at this
  have e3 : (s.heap.push PySem.W.emptyDict).Ns s.heap.objs.size (fun _ => none) := ⟨PySem.W.emptyDict, #[], _, e1, rfl, (fun e he => absurd he (by simp)), fun _ => rfl⟩
  have I1 := I.laid (a := s.heap.objs.size) (o := .own (s.heap.objs.size + 1)) (h' := s.heap.push PySem.W.emptyDict) (t' := s.toks) (fun b u q => Heap.get?_push_of_some _ q) (Nat.le_refl _) ⟨_, e1⟩
  refine I1.laid (a := s.heap.objs.size + 1) (o := .ins C s.heap.objs.size []) (t' := s.toks) (fun b u q => Heap.get?_push_of_some _ q) (Nat.le_of_eq (Heap.size_push _ _)) ?_
  have ne : s.heap.objs.size ≠ s.heap.objs.size + 1 := Nat.ne_of_lt (Nat.lt_succ_self _)
  refine ⟨by rw [upd_ne ne, upd_same], Nat.zero_le _, ne, e2, fun _ => none, (Heap.Ns1.of_empty e3).at fun o q => Heap.get?_push_of_some _ q, fun _ => True.intro, fun y hy => absurd rfl hy⟩

theorem attr_of {prog : Program} {w : World} {env : Env} {e : Expr} {f : Str} {pos : Pos} {s : Shared} {Q : Value -> Shared -> Prop} (hb : attributeBase e f env (eval e env) = eval e env)
    (h : wpAny (model prog w) A (eval e env) (fun o s₁ => wpAny (model prog w) A (getAttr o f true) Q E s₁) E s) : wpAny (model prog w) A (eval (.Attribute e f pos) env) Q E s :=
  Attribute_any_ h (by rw [arm_eval_Attribute, hb])
end

inductive TFldI (K : PySem.W.Frag) (f : Str) (x : V) (H1 : Hp) (Q : VK) : Prop where
  | mk (a : _) (C : _) (dx : _) (fs : _) (v : _) (c1 : x = .ref a) (c2 : H1 a = some (.ins C dx fs)) (c3 : Cls K C) (c4 : NoAttr K C f) (c5 : fs.lookup f = some v) (c6 : Q v H1)
def tFld (K : PySem.W.Frag) (ta : TE) (f : Str) : TE := fun σ H Q => ta σ H fun x H1 => TFldI K f x H1 Q
inductive SFldI (K : PySem.W.Frag) (f : Str) (D : Ends) (σ : L2.St) (y : V) (x : V) (H2 : Hp) : Prop where
  | mk (a : _) (C : _) (dx : _) (fs : _) (c1 : x = .ref a) (c2 : H2 a = some (.ins C dx fs)) (c3 : Cls K C) (c4 : NoAttr K C f) (c5 : fs.length < 1000) (c6 : D.nx σ (upd H2 a (.ins C dx (putF f y fs))))
def sFld (K : PySem.W.Frag) (ta tv : TE) (f : Str) : TS := fun D σ H => tv σ H fun y H1 => ta σ H1 fun x H2 => SFldI K f D σ y x H2

section
variable {X : Cx} {o e value : Expr} {f : Str} {pos pos' tpos : Pos} {ta tv : TE}
theorem pe_fld (he : PE X e ta) (hb : attributeBase e f X.env (eval e X.env) = eval e X.env) : PE X (.Attribute e f pos) (tFld X.K ta f) := by
  intro pins s σ H Q I h
  refine attr_of hb (thn (he pins s σ H _ I h) fun u s1 ⟨x, H1, I1, rx, a, C, dx, fs, v, ex, ea, c, n, l, q⟩ => ?_)
  subst ex
  obtain rfl : u = Value.ref a := rx
  exact getattr_ok I1 ea c n l fun u' s2 I2 ru => ⟨v, H1, I2, ru, q⟩
theorem ps_fld (ha : PE X o ta) (hv : PE X value tv) (hs : swapsWith value (some (.Attribute o f pos')) pos.line X.env = pure false) : PS X (.Assign [.Attribute o f pos'] value pos) (sFld X.K ta tv f) := by
  intro pins s σ H D I h
  refine plainObj_wpAny_Assign_Attribute (thn (hv pins s σ H _ I h) fun u s1 ⟨y, H1, I1, ry, q⟩ => thn (ha pins s1 σ H1 _ I1 q) fun ov s2 ⟨x, H2, I2, rx, a, C, dx, fs, ex, ea, c, n, l, q2⟩ => ?_) hs
  subst ex
  obtain rfl : ov = Value.ref a := rx
  exact setattr_ok I2 ea c n l ry fun s3 I3 => ⟨σ, _, I3, q2⟩

theorem methcall_of {pl : Sem Bool} {m : Str} {apos : Pos} {args : List Expr} {pins : List (Addr × Obj)} {s : Shared} {σ : St} {H : Hp} {Q : Value -> Shared -> Prop} {te : TE} (he : PE X e te) (I : Inv X pins σ H s)
    (h : te σ H fun x H1 => ∃ a C dx fs g, x = .ref a /\ H1 a = some (.ins C dx fs) /\ Cls X.K C /\ Meth X.K C m g /\ fs.lookup m = none /\
      ∀ s1, Inv X pins σ H1 s1 -> wpAny (model X.prog X.w) X.A (callWith pos (.ref g) [.ref a] (backTo pos (starEach args X.env)) (backToKw pos (keywordEach [] X.env))) Q X.xe s1)
    (ht : eval (.Call (.Attribute e m apos) args [] pos) X.env = (do
      let ov <- eval e X.env
      standAt apos.atName
      let (f, first) <- holding [ov] (getMethod ov m pl)
      callWith pos f first (backTo pos (starEach args X.env)) (backToKw pos (keywordEach [] X.env)))) :
    wpAny (model X.prog X.w) X.A (eval (.Call (.Attribute e m apos) args [] pos) X.env) Q X.xe s := by
  refine PySem.W.methodCall_KW (pl := pl) (thn (he pins s σ H _ I h) fun u s1 ⟨x, H1, I1, rx, a, C, dx, fs, g, ex, ea, c, k, l, q⟩ => ?_) ht
  subst ex
  obtain rfl : u = Value.ref a := rx
  exact getmeth_ok I1 ea c k l (q s1 I1)
end

section
variable {X : Cx} {pins : List (Addr × Obj)} {σ : St} {H : Hp} {s : Shared} {A : Around} {E : Value -> Shared -> Prop} {Q : Value -> Shared -> Prop} {c : Value} {b : Bool}
inductive TyOf (K : PySem.W.Frag) (H : Hp) : V -> Value -> Prop where
  | non : TyOf K H .non (.type "NoneType")
  | bl (x : Bool) : TyOf K H (.bl x) (.type "bool")
  | int (i : Int) : TyOf K H (.int i) (.type "int")
  | str (x : Str) : TyOf K H (.str x) (.type "str")
  | flt (x : UInt64) : TyOf K H (.flt x) (.type "float")
  | lst {a : Addr} {xs : List V} (e : H a = some (.lst xs)) : TyOf K H (.ref a) (.type "list")
  | frz {a : Addr} {o : Obj} {xs : List V} (e : H a = some (.frz o (.lst xs))) : TyOf K H (.ref a) (.type "list")
  | tup {a : Addr} {xs : List V} (e : H a = some (.tup xs)) : TyOf K H (.ref a) (.type "tuple")
  | dK {a : Addr} {kvs : List (Key × V)} (e : H a = some (.dK kvs)) : TyOf K H (.ref a) (.type "dict")
  | dT {a : Addr} {kvs : List (List Key × V)} (e : H a = some (.dT kvs)) : TyOf K H (.ref a) (.type "dict")
  | ins {a C dx : Addr} {fs : List (Str × V)} (e : H a = some (.ins C dx fs)) (cl : Cls K C) (ha : PySem.W.findIn K (.ref C) "__class__" = some (some (.builtin "object.__class__")))
      (hn : PySem.W.specialIn K (.builtin "object.__class__") "__get__" = some (some (.builtin "getset_descriptor.__get__"))) (htk : PySem.W.takesIn K (.builtin "object.__class__") = some true)
      (hm : PySem.W.mroIn K C (.type "object") = some true) : TyOf K H (.ref a) (.ref C)
theorem isinst_ok {x : V} {u t : Value} (I : Inv X pins σ H s) (rx : RelV x u) (ty : TyOf X.K H x t) (e : PySem.W.kitOne X.K t c = some b) (h : ∀ tk, Q (.bool b) { s with toks := tk }) :
    wpAny (model X.prog X.w) A (call (.builtin "isinstance") [u, c]) Q E s := by
  cases ty with
  | non => cases (show u = Value.none from rx); exact PySem.W.kia_one PySem.W.kitx_none I.kIn True.intro e (fun z => nomatch z) h
  | bl y => cases (show u = Value.bool y from rx); exact PySem.W.kia_one PySem.W.kitx_bool I.kIn True.intro e (fun z => nomatch z) h
  | int i => obtain ⟨t, q⟩ := (show ∃ t, u = Value.int i t from rx); cases q; exact PySem.W.kia_one PySem.W.kitx_int I.kIn True.intro e (fun z => nomatch z) h
  | str y => obtain ⟨t, q⟩ := (show ∃ t, u = Value.str y t from rx); cases q; exact PySem.W.kia_one PySem.W.kitx_str I.kIn True.intro e (fun z => nomatch z) h
  | flt y => obtain ⟨t, q⟩ := (show ∃ t, u = Value.float y t from rx); cases q; exact PySem.W.kia_one PySem.W.kitx_float I.kIn True.intro e (fun z => nomatch z) h
  | @lst a xs ea =>
    cases (show u = Value.ref a from rx)
    obtain ⟨_, _, n, _, h1⟩ := (show ObjOk X.prog X.w H s.heap a (.lst xs) from I.hok a _ ea)
    exact PySem.W.kia_one PySem.W.kitx_list I.kIn ⟨_, h1, rfl⟩ e (fun z => nomatch z) h
  | @frz a ob xs ea =>
    cases (show u = Value.ref a from rx)
    obtain ⟨_, _, _, n, _, h1⟩ := (show ObjOk X.prog X.w H s.heap a (.frz ob (.lst xs)) from I.hok a _ ea)
    exact PySem.W.kia_one PySem.W.kitx_list I.kIn ⟨_, h1, rfl⟩ e (fun z => nomatch z) h
  | @tup a xs ea =>
    cases (show u = Value.ref a from rx)
    obtain ⟨_, _, _, p⟩ := (show ObjOk X.prog X.w H s.heap a (.tup xs) from I.hok a _ ea)
    obtain ⟨o, h1, h2, _⟩ := p
    exact PySem.W.kia_one PySem.W.kitx_tuple I.kIn ⟨o, h1, h2⟩ e (fun z => nomatch z) h
  | @dK a kvs ea =>
    cases (show u = Value.ref a from rx)
    obtain ⟨_, _, vs, _, p⟩ := (show ObjOk X.prog X.w H s.heap a (.dK kvs) from I.hok a _ ea)
    obtain ⟨o, es, ep, h1, h2, _⟩ := p
    exact PySem.W.kia_one PySem.W.kitx_dict I.kIn ⟨o, h1, h2.1⟩ e (fun z => nomatch z) h
  | @dT a kvs ea =>
    cases (show u = Value.ref a from rx)
    obtain ⟨_, _, xs, _, o, es, ep, h1, h2, _⟩ := (show ObjOk X.prog X.w H s.heap a (.dT kvs) from I.hok a _ ea)
    exact PySem.W.kia_one PySem.W.kitx_dict I.kIn ⟨o, h1, h2.1⟩ e (fun z => nomatch z) h
  | @ins a C dx fs ea cl ha hn htk hm =>
    cases (show u = Value.ref a from rx)
    obtain ⟨mA, O, _⟩ := ins_get I.hok ea
    obtain ⟨od, J, _⟩ := O.look
    exact PySem.W.kia_one (PySem.W.kitx_own (cl.get _) cl.hd ha hn htk hm) I.kIn J e (fun z => nomatch z) h
end
end L2

namespace L2
open PySem PySem.Spec PyProof.Rows

structure Room (k : Nat) (A : Around) : Prop where
  hd : A.handled = none
  dp : A.depth + 3 * k + 5 < recursionLimit
  un : A.units + 16 * k + 200 < cLine
theorem Room.mono {j k : Nat} {A : Around} (r : Room k A) (h : j <= k) : Room j A := ⟨r.hd, by have := r.dp; omega, by have := r.un; omega⟩
theorem Room.deeper {k : Nat} {A : Around} (r : Room (k + 1) A) (env : Env) : Room k (A.deeper env) :=
  ⟨r.hd, by have := r.dp; show A.depth + 1 + 3 * k + 5 < _; omega, by have := r.un; show A.units + 3 + 16 * k + 200 < _; omega⟩
theorem Room.in1 {k : Nat} {A : Around} (r : Room (k + 1) A) : Room k A.in1 :=
  ⟨r.hd, by have := r.dp; show A.depth + 3 * k + 5 < _; omega, by have := r.un; show A.units + 1 + 16 * k + 200 < _; omega⟩
theorem make_depth {A : Around} {C : Addr} {us : List Value} {kw : List (Str × Value)} : (A.under (.builtin "type.__call__" ⟨.ref C :: us, kw⟩)).depth = A.depth + 1 := by
  first | rfl | simp [Around.under, Code.weight, Code.isCreation, Code.isGuard, Code.isCaller, Code.frames, Code.isFrame, guardIds]
theorem make_units {A : Around} {C : Addr} {us : List Value} {kw : List (Str × Value)} : (A.under (.builtin "type.__call__" ⟨.ref C :: us, kw⟩)).units = A.units + 1 := by
  first | rfl | simp [Around.under, Code.cUnits, Code.frames, Code.isFrame]
theorem Room.make {k : Nat} {A : Around} (r : Room (k + 1) A) (C : Addr) (us : List Value) (kw : List (Str × Value)) : Room k (A.under (.builtin "type.__call__" ⟨.ref C :: us, kw⟩)) :=
  ⟨r.hd, by have := r.dp; rw [make_depth]; omega, by have := r.un; rw [make_units]; omega⟩
theorem Room.depth {k : Nat} {A : Around} (r : Room k A) : A.depth < recursionLimit := by have := r.dp; omega
theorem Room.units {k : Nat} {A : Around} (r : Room k A) : A.units + 64 < cLine := by have := r.un; omega
theorem Room.units0 {k : Nat} {A : Around} (r : Room k A) : A.units < cLine := by have := r.un; omega

def tNil : TA := fun _ H Q => Q [] H
def tCons (ta : TE) (tr : TA) : TA := fun σ H Q => ta σ H fun x H1 => tr σ H1 fun xs H2 => Q (x :: xs) H2
section
variable {X : Cx} {e : Expr} {es : List Expr} {te : TE} {t : TA} {pos : Pos}
theorem pa_nil : PA X [] tNil := fun _ _ _ _ H Q I h => Calls.spliced_nil ⟨[], H, I, .nil, h⟩
theorem pa_cons (ha : PE X e te) (hr : PA X es t) (hs : starEach (e :: es) X.env = (false, eval e X.env) :: starEach es X.env := by rfl) : PA X (e :: es) (tCons te t) := by
  intro pos pins s σ H Q I h
  rw [hs]
  show wpAny _ _ (spliced ((false, eval e X.env) :: backTo pos (starEach es X.env))) _ _ s
  refine Calls.spliced_cons (thn (ha pins s σ H _ I h) fun u s1 ⟨x, H1, I1, r1, q1⟩ => ?_)
  exact thn (hr pos pins s1 σ H1 _ I1 q1) fun us s2 ⟨xs, H2, I2, r2, q2⟩ => ⟨x :: xs, H2, I2, .cons r1 r2, q2⟩

end

abbrev Sp := List V -> Hp -> VK -> XK -> Prop
abbrev CXT := List Env -> Hp -> Shared -> XK -> Value -> Shared -> Prop

structure Env0 (P : Program) (w : World) (K : PySem.W.Frag) (mg : Str -> Option Value) (base : Heap) (A : Around) (outer : List Env) (s : Shared) (H : Hp) : Prop where
  frames : A.frames = some outer
  mod : Mod K mg base
  bs : ∀ b o, base.get? b = some o -> s.heap.get? b = some o /\ H b = none
  bsz : base.objs.size <= s.heap.objs.size
  funs : s.heap.FunFrames base outer
  frf : ∀ b ∈ frs outer, H b = none
  hok : HOk P w H s.heap
  bare : AllBare s.gens
def CE (outer : List Env) (P : Program) (w : World) (H : Hp) (s : Shared) (Q : VK) (u : Value) (s' : Shared) : Prop :=
  ∃ v H', s'.os = s.os /\ AllBare s'.gens /\ Un (frs outer) [] H H' s.heap s'.heap /\ HOk P w H' s'.heap /\ RelV v u /\ Q v H'
def CR (CX : CXT) (outer : List Env) (P : Program) (w : World) (H : Hp) (s : Shared) (Q : VK) (E : XK) (r : Result) (s' : Shared) : Prop :=
  match r with
  | .ok (.ret u) => CE outer P w H s Q u s'
  | .ok _ => False
  | .error e => CX outer H s E e s'
structure FnOk (P : Program) (w : World) (K : PySem.W.Frag) (mg : Str -> Option Value) (base : Heap) (CX : CXT) (k : Nat) (f : Addr) (fd : FuncData) (ps : List Str) (sp : Sp) : Prop where
  len : ∀ vs H Q E, sp vs H Q E -> vs.length = ps.length
  run : ∀ (A : Around) (outer : List Env) (s : Shared) (H : Hp) (args : Args) (us : List Value) (vs : List V) (Q : VK) (E : XK), Room k A -> Env0 P w K mg base A outer s H -> BindsTo s fd args (ps.zip us) -> Vals vs us -> sp vs H Q E ->
    codeAny (model P w) A (.call (.ref f) args) (CR CX outer P w H s Q E) s
theorem FnOk.mono {P : Program} {w : World} {K : PySem.W.Frag} {mg : Str -> Option Value} {base : Heap} {CX : CXT} {j k : Nat} {f : Addr} {fd : FuncData} {ps : List Str} {sp : Sp} (F : FnOk P w K mg base CX j f fd ps sp) (h : j <= k) :
    FnOk P w K mg base CX k f fd ps sp := ⟨F.len, fun A outer s H args us vs Q E hr => F.run A outer s H args us vs Q E (hr.mono h)⟩
theorem FnOk.imp {P : Program} {w : World} {K : PySem.W.Frag} {mg : Str -> Option Value} {base : Heap} {CX : CXT} {k : Nat} {f : Addr} {fd : FuncData} {ps : List Str} {sp sp' : Sp} (F : FnOk P w K mg base CX k f fd ps sp)
    (h : ∀ vs H Q E, sp' vs H Q E -> sp vs H Q E) : FnOk P w K mg base CX k f fd ps sp' :=
  ⟨fun vs H Q E q => F.len vs H Q E (h _ _ _ _ q), fun A outer s H args us vs Q E hr he hb hv hs => F.run A outer s H args us vs Q E hr he hb hv (h _ _ _ _ hs)⟩

theorem Env0.make {P : Program} {w : World} {K : PySem.W.Frag} {mg : Str -> Option Value} {base : Heap} {A : Around} {outer : List Env} {s : Shared} {H : Hp} (e : Env0 P w K mg base A outer s H) (C : Addr) (us : List Value) (kw : List (Str × Value)) :
    Env0 P w K mg base (A.under (.builtin "type.__call__" ⟨.ref C :: us, kw⟩)) outer s H := ⟨by first | exact e.frames | (simpa [Around.under, Code.envs, Code.isFrame, pushEnvs] using e.frames), e.mod, e.bs, e.bsz, e.funs, e.frf, e.hok, e.bare⟩
theorem Env0.in1 {P : Program} {w : World} {K : PySem.W.Frag} {mg : Str -> Option Value} {base : Heap} {A : Around} {outer : List Env} {s : Shared} {H : Hp} (e : Env0 P w K mg base A outer s H) :
    Env0 P w K mg base A.in1 outer s H := ⟨e.frames, e.mod, e.bs, e.bsz, e.funs, e.frf, e.hok, e.bare⟩

section
variable {X : Cx} {pins : List (Addr × Obj)} {σ : St} {H : Hp} {s s' : Shared}
theorem Inv.env0 (I : Inv X pins σ H s) : Env0 X.prog X.w X.K X.mg X.base X.A X.stack s H :=
  ⟨I.ok.frames, I.ok.mod, I.bs, Nat.le_trans I.ok.bsz I.sz, I.stack, I.stkFree, I.hok, I.bare⟩
theorem Inv.after {Q : VK} {u : Value} (I : Inv X pins σ H s) (h : CE X.stack X.prog X.w H s Q u s') : EP X pins σ Q u s' := by
  obtain ⟨v, H', os, bare, un, hok, r, q⟩ := h
  obtain ⟨hh, g, d, t, os'⟩ := s'
  obtain rfl : os' = s.os := os
  exact ⟨v, H', I.call (h' := hh) (g' := g) (d' := d) (t' := t) (ch := []) un hok bare (fun b z => absurd z (by simp)), r, q⟩
end

def tCall (sp : Sp) (dvs : List V) (E : XK) (t : TA) : TE := fun σ H Q => t σ H fun vs H1 => sp (vs ++ dvs) H1 Q E
inductive TMethI (C : Addr) (m : Str) (sp : Sp) (dvs : List V) (E : XK) (t : TA) (σ : L2.St) (x : V) (H1 : Hp) (Q : VK) : Prop where
  | mk (a : _) (dx : _) (fs : _) (c1 : x = .ref a) (c2 : H1 a = some (.ins C dx fs)) (c3 : fs.lookup m = none) (c4 : t σ H1 fun vs H2 => sp (x :: (vs ++ dvs)) H2 Q E)
def tMeth (C : Addr) (m : Str) (sp : Sp) (dvs : List V) (E : XK) (ta : TE) (t : TA) : TE := fun σ H Q => ta σ H fun x H1 => TMethI C m sp dvs E t σ x H1 Q
def tMake (C : Addr) (sp : Sp) (dvs : List V) (E : XK) (t : TA) : TE := fun σ H Q => t σ H fun vs H1 => ∀ x dx, H1 x = none -> H1 dx = none -> dx ≠ x ->
  sp (.ref x :: (vs ++ dvs)) (upd (upd H1 dx (.own x)) x (.ins C dx [])) (fun v H2 => v = .non /\ Q (.ref x) H2) E

def Binds (K : PySem.W.Frag) (fd : FuncData) (ps : List Str) (ds : List Value) : Prop :=
  ∀ (s : Shared) (us : List Value), K.In s.heap -> (us ++ ds).length = ps.length -> BindsTo s fd ⟨us, []⟩ (ps.zip (us ++ ds))
theorem Binds.all {K : PySem.W.Frag} {fd : FuncData} {ps : List Str} (h : ∀ us : List Value, us.length = ps.length -> bindArgs fd ⟨us, []⟩ = pure (ps.zip us)) : Binds K fd ps [] := fun s us _ hl => by
  rw [List.append_nil] at hl ⊢
  exact .of_eq (h us hl)

def Passes (CX : CXT) (X : Cx) (E : XK) : Prop := ∀ (pins : List (Addr × Obj)) (σ : St) (H : Hp) (s : Shared) (e : Value) (s' : Shared), Inv X pins σ H s -> CX X.stack H s E e s' -> X.xe e s'

section
variable {X : Cx} {CX : CXT} {k : Nat} {f C : Addr} {fd : FuncData} {ps : List Str} {sp : Sp} {dvs : List V} {ds : List Value} {E : XK} {x m : Str} {p pos apos : Pos} {e o : Expr} {es : List Expr} {ta : TE} {t : TA}

theorem run_fn {pins : List (Addr × Obj)} {σ : St} {H : Hp} {s : Shared} {Q : VK} {us : List Value} {vs : List V} (F : FnOk X.prog X.w X.K X.mg X.base CX k f fd ps sp) (hr : Room k X.A) (hb : Binds X.K fd ps ds) (hd : Vals dvs ds) (hx : Passes CX X E)
    (I : Inv X pins σ H s) (r : Vals vs us) (h : sp (vs ++ dvs) H Q E) : wpAny (model X.prog X.w) X.A (call (.ref f) us) (EP X pins σ Q) X.xe s := by
  have r2 : Vals (vs ++ dvs) (us ++ ds) := r.append hd
  have hl : (us ++ ds).length = ps.length := by rw [<- r2.length]; exact F.len _ _ _ _ h
  refine wpAny_call (codeAny_mono (F.run X.A X.stack s H ⟨us, []⟩ (us ++ ds) (vs ++ dvs) Q E hr I.env0 (hb s us I.kIn hl) r2 h) fun r s' hq => ?_)
  cases r with
  | error e => exact hx pins σ H s e s' I hq
  | ok fl =>
    cases fl with
    | ret u => exact I.after hq
    | next => exact False.elim hq
    | brk => exact False.elim hq
    | cont => exact False.elim hq

theorem pe_call (F : FnOk X.prog X.w X.K X.mg X.base CX k f fd ps sp) (hr : Room k X.A) (hg : Gl X x) (hm : X.mg x = some (.ref f)) (hk : PySem.W.keepIn X.K (.ref f) = true) (hb : Binds X.K fd ps ds) (hd : Vals dvs ds) (hx : Passes CX X E)
    (ha : PA X (e :: es) t) (hdb : (x == ("__debug__" : Str)) = false := by decide) (he : starEach (e :: es) X.env = (false, eval e X.env) :: starEach es X.env := by rfl) (hpl : (backTo pos (starEach es X.env)).any (·.1) = false := by rfl) :
    PE X (.Call (.Name x p) (e :: es) [] pos) (tCall sp dvs E t) := by
  intro pins s σ H Q I h
  refine wpAny_Call_Name_kw (ld_glob I hg hm ?_ hdb)
  refine PySem.W.callWith_K (h₀ := X.base) I.ok.mod.kin hk (thn (ha pos pins s σ H _ I h) fun us s1 ⟨vs, H1, I1, r, q⟩ => ⟨I1.kIn, ?_⟩) he hpl
  exact run_fn F hr hb hd hx I1 r q

theorem pe_meth {pl : Sem Bool} (he : PE X o ta) (c : Cls X.K C) (hm : Meth X.K C m f) (F : FnOk X.prog X.w X.K X.mg X.base CX k f fd ps sp) (hr : Room k X.A) (hb : Binds X.K fd ps ds) (hd : Vals dvs ds) (hx : Passes CX X E) (ha : PA X (e :: es) t)
    (hst : starEach (e :: es) X.env = (false, eval e X.env) :: starEach es X.env := by rfl) (hpl : (backTo pos (starEach es X.env)).any (·.1) = false := by rfl)
    (ht : eval (.Call (.Attribute o m apos) (e :: es) [] pos) X.env = (do
      let ov <- eval o X.env
      standAt apos.atName
      let (f, first) <- holding [ov] (getMethod ov m pl)
      callWith pos f first (backTo pos (starEach (e :: es) X.env)) (backToKw pos (keywordEach [] X.env))) := by rfl) :
    PE X (.Call (.Attribute o m apos) (e :: es) [] pos) (tMeth C m sp dvs E ta t) := by
  intro pins s σ H Q I h
  refine PySem.W.methodCall_KW (pl := pl) (thn (he pins s σ H _ I h) fun u s1 ⟨x, H1, I1, rx, a, dx, fs, ex, ea, l, q⟩ => ?_) ht
  subst ex
  obtain rfl : u = Value.ref a := rx
  refine getmeth_ok I1 ea c hm l ?_
  refine PySem.W.callWith_K (first := [.ref a]) (h₀ := X.base) I.ok.mod.kin hm.kp (thn (ha pos pins s1 σ H1 _ I1 q) fun us s2 ⟨vs, H2, I2, r, q2⟩ => ⟨I2.kIn, ?_⟩) hst hpl
  exact run_fn (us := .ref a :: us) (vs := .ref a :: vs) F hr hb hd hx I2 (.cons rfl r) q2
theorem pe_meth0 {pl : Sem Bool} (he : PE X o ta) (c : Cls X.K C) (hm : Meth X.K C m f) (F : FnOk X.prog X.w X.K X.mg X.base CX k f fd ps sp) (hr : Room k X.A) (hb : Binds X.K fd ps ds) (hd : Vals dvs ds) (hx : Passes CX X E)
    (ht : eval (.Call (.Attribute o m apos) [] [] pos) X.env = (do
      let ov <- eval o X.env
      standAt apos.atName
      let (f, first) <- holding [ov] (getMethod ov m pl)
      callWith pos f first (backTo pos (starEach [] X.env)) (backToKw pos (keywordEach [] X.env))) := by rfl) :
    PE X (.Call (.Attribute o m apos) [] [] pos) (tMeth C m sp dvs E ta tNil) := by
  intro pins s σ H Q I h
  refine PySem.W.methodCall_KW (pl := pl) (thn (he pins s σ H _ I h) fun u s1 ⟨x, H1, I1, rx, a, dx, fs, ex, ea, l, q⟩ => ?_) ht
  subst ex
  obtain rfl : u = Value.ref a := rx
  refine getmeth_ok I1 ea c hm l ?_
  exact PySem.W.callWith_K0 (first := [.ref a]) I1.kIn hm.kp (run_fn (us := [.ref a]) (vs := [.ref a]) F hr hb hd hx I1 (.cons rfl .nil) q)

structure Mk (K : PySem.W.Frag) (C f : Addr) : Prop where
  makes : PySem.W.makesIn K C = true
  init : PySem.W.findIn K (.ref C) "__init__" = some (some (.ref f))
  fn : PySem.W.isFn K (.ref f) = true
  kp : PySem.W.keepIn K (.ref C) = true

theorem run_make {pins : List (Addr × Obj)} {σ : St} {H : Hp} {s : Shared} {Q : VK} {us : List Value} {vs : List V} (M : Mk X.K C f) (F : FnOk X.prog X.w X.K X.mg X.base CX k f fd ps sp) (hr : Room (k + 1) X.A) (hb : Binds X.K fd ps ds) (hd : Vals dvs ds)
    (hx : Passes CX X E) (I : Inv X pins σ H s) (r : Vals vs us)
    (h : ∀ x dx, H x = none -> H dx = none -> dx ≠ x -> sp (.ref x :: (vs ++ dvs)) (upd (upd H dx (.own x)) x (.ins C dx [])) (fun v H2 => v = .non /\ Q (.ref x) H2) E) :
    wpAny (model X.prog X.w) X.A (call (.ref C) us) (EP X pins σ Q) X.xe s := by
  have hq := h (s.heap.objs.size + 1) s.heap.objs.size (I.hok.fresh (Nat.le_succ _)) (I.hok.fresh (Nat.le_refl _)) (Nat.ne_of_lt (Nat.lt_succ_self _))
  have I2 := Inv.made (C := C) I
  have r2 : Vals (V.ref (s.heap.objs.size + 1) :: (vs ++ dvs)) (Value.ref (s.heap.objs.size + 1) :: (us ++ ds)) := .cons rfl (r.append hd)
  have hl : (Value.ref (s.heap.objs.size + 1) :: us ++ ds).length = ps.length := by
    have e := r2.length
    rw [F.len _ _ _ _ hq] at e
    exact e.symm
  refine wpAny_call (make_map (f := f) I.kIn M.makes M.init (beq_iff_eq.mp M.fn) (codeAny_mono (F.run _ X.stack _ _ ⟨Value.ref (s.heap.objs.size + 1) :: us, []⟩ (Value.ref (s.heap.objs.size + 1) :: (us ++ ds)) _ _ E (hr.make C us [])
    (I2.env0.make C us []) (hb _ (Value.ref (s.heap.objs.size + 1) :: us) I2.kIn hl) r2 hq) fun r s' hq' => ?_))
  cases r with
  | error e => exact hx pins σ _ _ e s' I2 hq'
  | ok fl =>
    cases fl with
    | ret u =>
      obtain ⟨v, H', I3, rv, ev, q3⟩ := I2.after hq'
      subst ev
      exact ⟨rv, ⟨V.ref (s.heap.objs.size + 1), H', I3, rfl, q3⟩⟩
    | next => exact False.elim hq'
    | brk => exact False.elim hq'
    | cont => exact False.elim hq'
theorem pe_make (M : Mk X.K C f) (F : FnOk X.prog X.w X.K X.mg X.base CX k f fd ps sp) (hr : Room (k + 1) X.A) (hg : Gl X x) (hm : X.mg x = some (.ref C)) (hb : Binds X.K fd ps ds) (hd : Vals dvs ds) (hx : Passes CX X E)
    (ha : PA X (e :: es) t) (hdb : (x == ("__debug__" : Str)) = false := by decide) (he : starEach (e :: es) X.env = (false, eval e X.env) :: starEach es X.env := by rfl) (hpl : (backTo pos (starEach es X.env)).any (·.1) = false := by rfl) :
    PE X (.Call (.Name x p) (e :: es) [] pos) (tMake C sp dvs E t) := by
  intro pins s σ H Q I h
  refine wpAny_Call_Name_kw (ld_glob I hg hm ?_ hdb)
  refine PySem.W.callWith_K (h₀ := X.base) I.ok.mod.kin M.kp (thn (ha pos pins s σ H _ I h) fun us s1 ⟨vs, H1, I1, r, q⟩ => ⟨I1.kIn, ?_⟩) he hpl
  exact run_make M F hr hb hd hx I1 r q
end

section
variable {X : Cx} {CX : CXT} {k : Nat} {f C : Addr} {fd : FuncData} {ps ks : List Str} {sp : Sp} {E : XK} {x m : Str} {p pos apos kpos : Pos} {e o : Expr} {es : List Expr} {kws : List Keyword} {te ta : TE} {t tk : TA} {nm : Option Str}

variable {g : List Value -> List Value -> List Value} {gV : List V -> List V -> List V}
end

structure FnScope (N P : List Str) (sc : Scope) : Prop where
  kind : sc.kind = .function
  co : sc.isCoroutine = false
  gen : sc.isGenerator = false
  nd : N.Nodup
  pre : N.take P.length = P
  par : ∀ x ∈ P, sc.names.lookup x = some .local ∨ sc.names.lookup x = some .cell
  nofree : ∀ y ∈ sc.names, y.2 ≠ .free

theorem bindL_out {kindOf : Str -> Option NameKind} {x : Str} : ∀ {binds : List (Str × Value)} {m : Str -> Option Value}, (∀ v, (x, v) ∉ binds) -> bindL kindOf binds m x = m x
  | [], _, _ => rfl
  | (n, v) :: r, m, h => by
    unfold bindL
    rw [bindL_out fun w hw => h w (List.mem_cons_of_mem _ hw)]
    split
    · have : x ≠ n := by rintro rfl; exact h v List.mem_cons_self
      simp [this]
    · rfl
theorem bindC_out {kindOf : Str -> Option NameKind} {x : Str} : ∀ {binds : List (Str × Value)} {m : Str -> Option Value}, (∀ v, (x, v) ∉ binds) -> bindC kindOf binds m x = m x
  | [], _, _ => rfl
  | (n, v) :: r, m, h => by
    unfold bindC
    rw [bindC_out fun w hw => h w (List.mem_cons_of_mem _ hw)]
    split
    · rfl
    · have : x ≠ n := by rintro rfl; exact h v List.mem_cons_self
      simp [this]
theorem bindL_get {kindOf : Str -> Option NameKind} {x : Str} {v : Value} : ∀ {P : List Str} {vs : List Value} {i : Nat} {m : Str -> Option Value}, P.Nodup -> P[i]? = some x -> vs[i]? = some v -> kindOf x = some .local ->
    bindL kindOf (P.zip vs) m x = some v
  | [], _, _, _, _, h, _, _ => by simp at h
  | _ :: _, [], _, _, _, _, h, _ => by simp at h
  | p :: P, w :: vs, 0, m, nd, h1, h2, hk => by
    simp at h1 h2; subst h1; subst h2
    show bindL kindOf ((p, w) :: P.zip vs) m p = _
    unfold bindL
    rw [bindL_out fun v hv => (List.nodup_cons.mp nd).1 (List.of_mem_zip hv).1, if_pos hk]
    simp
  | p :: P, w :: vs, i + 1, m, nd, h1, h2, hk => by
    show bindL kindOf ((p, w) :: P.zip vs) m x = _
    unfold bindL
    exact bindL_get (i := i) (List.nodup_cons.mp nd).2 (by simpa using h1) (by simpa using h2) hk
theorem bindC_get {kindOf : Str -> Option NameKind} {x : Str} {v : Value} : ∀ {P : List Str} {vs : List Value} {i : Nat} {m : Str -> Option Value}, P.Nodup -> P[i]? = some x -> vs[i]? = some v -> kindOf x ≠ some .local ->
    bindC kindOf (P.zip vs) m x = some v
  | [], _, _, _, _, h, _, _ => by simp at h
  | _ :: _, [], _, _, _, _, h, _ => by simp at h
  | p :: P, w :: vs, 0, m, nd, h1, h2, hk => by
    simp at h1 h2; subst h1; subst h2
    show bindC kindOf ((p, w) :: P.zip vs) m p = _
    unfold bindC
    rw [bindC_out fun v hv => (List.nodup_cons.mp nd).1 (List.of_mem_zip hv).1, if_neg hk]
    simp
  | p :: P, w :: vs, i + 1, m, nd, h1, h2, hk => by
    show bindC kindOf ((p, w) :: P.zip vs) m x = _
    unfold bindC
    exact bindC_get (i := i) (List.nodup_cons.mp nd).2 (by simpa using h1) (by simpa using h2) hk

def start (N : List Str) (vs : List V) : St := vs.map some ++ List.replicate (N.length - vs.length) none

def cxOf (CX : CXT) (P : Program) (w : World) (K : PySem.W.Frag) (mg : Str -> Option Value) (base : Heap) (N : List Str) (qual : Str) (scope : Scope) (f : Addr) (cd : Value) (A : Around) (outer : List Env) (s : Shared) (H : Hp) (E : XK) : Cx where
  prog := P
  w := w
  K := K
  mg := mg
  base := base
  A := A.deeper (envOfC qual scope s.heap.objs.size f cd)
  N := N
  s₀ := s
  H₀ := H
  env := envOfC qual scope s.heap.objs.size f cd
  outer := outer
  stack := envOfC qual scope s.heap.objs.size f cd :: outer
  ex := []
  calm := true
  fn := fun _ => true
  pn := []
  xe := fun e s' => wpAny (model P w) (A.deeper (envOfC qual scope s.heap.objs.size f cd)) (leaving (envOfC qual scope s.heap.objs.size f cd) e) (fun _ s'' => CX outer H s E e s'') (fun e' s'' => CX outer H s E e' s'') s'

theorem cell_has {sc : Scope} {n : Nat} {x : Str} (h : sc.names.lookup x = some .cell) : ∃ c, (cellsFrom n sc.names []).lookup x = some c := by
  have q := PySem.W.cellsFrom_some sc.names n [] (.inl h)
  exact Option.isSome_iff_exists.mp q

theorem inv_start {CX : CXT} {P : Program} {w : World} {K : PySem.W.Frag} {mg : Str -> Option Value} {base : Heap} {N ps : List Str} {qual : Str} {scope : Scope} {f : Addr} {cd : Value} {A : Around} {outer : List Env} {s s1 : Shared} {H : Hp} {E : XK} {us : List Value} {vs : List V}
    (S : FnScope N ps scope) (hd : A.handled = none) (e0 : Env0 P w K mg base A outer s H) (hl : vs.length = ps.length) (r : Vals vs us)
    (x : InCallC s s.heap.objs.size (bindL (envOfC qual scope s.heap.objs.size f cd).kindOf (ps.zip us) fun _ => none) (cellsFrom (s.heap.objs.size + 1) scope.names []) (bindC (envOfC qual scope s.heap.objs.size f cd).kindOf (ps.zip us) fun _ => none) s1) :
    Inv (cxOf CX P w K mg base N qual scope f cd A outer s H E) [] (start N vs) H s1 := by
  have hpl : ps.length <= N.length := by have := congrArg List.length S.pre; rw [List.length_take] at this; omega
  obtain ⟨h1, tk, rfl, hk⟩ := x.done
  have noA : ∀ b : Addr, b ∉ (cxOf CX P w K mg base N qual scope f cd A outer s H E).ex := fun b z => absurd (show b ∈ ([] : List Addr) from z) (by simp)
  refine ⟨⟨e0.mod, S.kind, rfl, rfl, Nat.le_refl _, fun y z c h1 h2 => ?_, fun y hy => ?_, fun y c _ h => ?_, fun _ => hd, Around.frames_deeper e0.frames, .inr ⟨rfl, rfl⟩, fun b z => absurd z (noA b), e0.bs, e0.bsz, fun b _ _ => noA b, fun b z => absurd z (noA b), e0.funs, e0.frf⟩,
    rfl, e0.bare, Un.kept hk, ⟨_, x.toInCall.ns, fun i y v h1 h2 h3 => ?_⟩, fun y c h => ⟨_, x.cell y c h⟩, e0.hok.fresh (Nat.le_refl _), fun y c h => ?_, fun p hp => absurd (show p ∈ ([] : List (Addr × Obj)) from hp) (by simp), e0.hok.kept hk, ?_⟩
  · exact name_of_addr x.apart (PySem.mem_of_lookup h1) (PySem.mem_of_lookup h2)
  · have hy : scope.names.lookup y = some .cell ∨ scope.names.lookup y = some .free := hy
    rcases hy with hy | hy
    · exact cell_has hy
    · exact absurd rfl (S.nofree _ (PySem.mem_of_lookup hy))
  · exact Nat.le_of_lt (x.above y c (PySem.mem_of_lookup h))
  · have hi : i < vs.length := by
      unfold start at h2
      by_cases hi : i < vs.length
      · exact hi
      · rw [List.getElem?_append_right (by simpa using hi)] at h2
        rw [List.getElem?_replicate] at h2
        split at h2 <;> cases h2
    have ha : vs[i]? = some v := by
      unfold start at h2
      rw [List.getElem?_append_left (by simpa using hi), List.getElem?_map] at h2
      cases e : vs[i]? with
      | none => rw [e] at h2; cases h2
      | some a => rw [e] at h2; cases h2; rfl
    obtain ⟨u, hu, rv⟩ := r.get ha
    have hp : ps[i]? = some y := by
      rw [<- S.pre, List.getElem?_take_of_lt (by omega)]; exact h1
    have ndP : ps.Nodup := by rw [<- S.pre]; exact S.nd.sublist (List.take_sublist _ _)
    refine ⟨u, rv, ?_⟩
    rcases S.par y (List.mem_of_getElem? hp) with k | k
    · exact .inl ⟨k, bindL_get ndP hp hu k⟩
    · obtain ⟨c, e⟩ := cell_has (n := s.heap.objs.size + 1) k
      refine .inr ⟨.inl k, c, e, ?_⟩
      have q := x.cell y c e
      rw [bindC_get ndP hp hu (by show scope.names.lookup y ≠ _; rw [k]; decide)] at q
      exact q
  · exact e0.hok.fresh (Nat.le_of_lt (x.above y c (PySem.mem_of_lookup h)))
  · unfold start
    show _ = N.length
    rw [List.length_append, List.length_map, List.length_replicate]
    omega

theorem fn_of {CX : CXT} {P : Program} {w : World} {K : PySem.W.Frag} {mg : Str -> Option Value} {base : Heap} {k : Nat} {f : Addr} {name qual : Str} {params : Arguments} {body : List Stmt} {scope : Scope} {dV kV doc pm cdv ct oc : Value} {an od : Option Addr}
    {osl : Array (Option Value)} {N ps : List Str} {sp : Sp} (lk : K.lookup f = some ⟨oc, od, .func (PySem.W.fnOf name qual params body scope dV kV doc pm an cdv ct), osl⟩) (hcd : PySem.W.codeIn K cdv qual = true) (S : FnScope N ps scope)
    (len : ∀ vs H Q E, sp vs H Q E -> vs.length = ps.length)
    (hbody : ∀ (A : Around) (outer : List Env) (s : Shared) (H : Hp) (vs : List V) (Q : VK) (E : XK), Room k (A.deeper (envOfC qual scope s.heap.objs.size f cdv)) -> sp vs H Q E ->
      ∃ t, PSs (cxOf CX P w K mg base N qual scope f cdv A outer s H E) body t /\ t { nx := fun _ H' => Q .non H', rt := Q } (start N vs) H) :
    FnOk P w K mg base CX (k + 1) f (PySem.W.fnOf name qual params body scope dV kV doc pm an cdv ct) ps sp := by
  refine ⟨len, fun A outer s H args us vs Q E hr e0 hb r hsp => ?_⟩
  have hl := len _ _ _ _ hsp
  have KX : K.In s.heap := e0.mod.kin.keeps fun b o e => (e0.bs b o e).1
  have lim : s.heap.NoLimit := e0.mod.nolimit.keeps fun b o e => (e0.bs b o e).1
  have hkind : ∀ y ∈ ps.zip us, scope.names.lookup y.1 = some .local ∨ (scope.names.lookup y.1 = some .cell /\ ((cellsFrom (s.heap.objs.size + 1) scope.names []).lookup y.1).isSome = true) := fun ⟨n, v⟩ hy => by
    rcases S.par n (List.of_mem_zip hy).1 with q | q
    · exact .inl q
    · exact .inr ⟨q, PySem.W.cellsFrom_some _ _ _ (.inl q)⟩
  refine codeAny_call_function hr.depth (KX _ _ lk) rfl S.co S.gen rfl (PySem.W.codeRec_of KX hcd) (hb _ _ _ _ ?_)
  refine wpAny_newFunctionEnv_cells S.kind hkind fun env he s1 x => ?_
  subst he
  refine ⟨lim.keeps x.toInCall.keep, codeAny_func ?_⟩
  obtain ⟨t, ht, hq⟩ := hbody A outer s H vs Q E (hr.deeper _) hsp
  have I : Inv (cxOf CX P w K mg base N qual scope f cdv A outer s H E) [] (start N vs) H s1 := inv_start S hr.hd e0 hl r x
  refine wpAny_mono (ht [] s1 (start N vs) H _ I hq) (fun fl s' hs => ?_) fun e s' hs => hs
  have fin : ∀ {σ' : St} {H' : Hp} {v : V} {u : Value}, Inv (cxOf CX P w K mg base N qual scope f cdv A outer s H E) [] σ' H' s' -> RelV v u -> Q v H' -> CE outer P w H s Q u s' :=
    fun {σ' H' v u} J rv q => ⟨v, H', J.os, J.bare, J.base, J.hok, rv, q⟩
  cases fl with
  | ret u =>
    obtain ⟨v, σ', H', J, rv, q⟩ := hs
    exact fin J rv q
  | next =>
    obtain ⟨σ', H', J, q⟩ := hs
    exact fin (v := V.non) (u := Value.none) J rfl q
  | brk =>
    obtain ⟨_, _, _, q⟩ := hs
    exact False.elim q
  | cont =>
    obtain ⟨_, _, _, q⟩ := hs
    exact False.elim q
end L2

namespace L2
open PySem PySem.Spec PyProof.Rows
section
variable {X : Cx} {x : Str} {p pos : Pos} {e : Expr} {es : List Expr} {t : TA} {id T : String} {r : List V -> Hp -> VK -> Prop}

def tCB (r : List V -> Hp -> VK -> Prop) (t : TA) : TE := fun σ H Q => t σ H fun vs H1 => r vs H1 Q
theorem pe_callB (hc : CallR X (.builtin id) r) (hg : Gl X x) (hm : X.mg x = none) (hv : bootBuiltins x = some (.builtin id)) (ha : PA X (e :: es) t) (hn : x ≠ "__name__" := by decide) (hdb : (x == ("__debug__" : Str)) = false := by decide)
    (he : starEach (e :: es) X.env = (false, eval e X.env) :: starEach es X.env := by rfl) (hpl : (backTo pos (starEach es X.env)).any (·.1) = false := by rfl) : PE X (.Call (.Name x p) (e :: es) [] pos) (tCB r t) := by
  intro pins s σ H Q I h
  refine wpAny_Call_Name_kw (ld_blt I hg hm hv ?_ hn hdb)
  exact PyProof.Rows.callWith_builtin1 (thn (ha pos pins s σ H _ I h) fun us s1 ⟨vs, H1, I1, r1, q1⟩ => hc pins s1 σ H1 vs us Q I1 r1 q1) he hpl
theorem pe_callTy (hc : CallR X (.type T) r) (hg : Gl X x) (hm : X.mg x = none) (hv : bootBuiltins x = some (.type T)) (ha : PA X (e :: es) t) (hn : x ≠ "__name__" := by decide) (hdb : (x == ("__debug__" : Str)) = false := by decide)
    (he : starEach (e :: es) X.env = (false, eval e X.env) :: starEach es X.env := by rfl) (hpl : (backTo pos (starEach es X.env)).any (·.1) = false := by rfl) : PE X (.Call (.Name x p) (e :: es) [] pos) (tCB r t) := by
  intro pins s σ H Q I h
  refine wpAny_Call_Name_kw (ld_blt I hg hm hv ?_ hn hdb)
  exact PyProof.Rows.callWith_type1 (thn (ha pos pins s σ H _ I h) fun us s1 ⟨vs, H1, I1, r1, q1⟩ => hc pins s1 σ H1 vs us Q I1 r1 q1) he hpl
end
end L2

namespace HT
open PySem PyProof.Rows



section
open PySem.SeqAt
open PySem.AutoSeq1 (wpAny_loadPart')
open PySem.MeetsSeq PySem.MeetsSeq2 PySem.MeetsSeq3

end

section
variable {prog : Program} {w : World} {A : Around} {E : Value -> Shared -> Prop} {s : Shared}



def sIx (n d : Nat) : Option Int -> Nat
  | none => d
  | some v => if v < 0 then (v + (n : Int)).toNat else min v.toNat n
theorem sIx_nat (n d k : Nat) : sIx n d (some (k : Int)) = min k n := by
  show (if (k : Int) < 0 then ((k : Int) + (n : Int)).toNat else min (k : Int).toNat n) = min k n
  rw [if_neg (by omega), Int.toNat_natCast]

end
end HT

namespace L2
open PySem PySem.Spec PyProof.Rows

abbrev TO := St -> Hp -> (Option Int -> Hp -> Prop) -> Prop
def PO (X : Cx) (e : Option Expr) (t : TO) : Prop :=
  ∀ (pins : List (Addr × Obj)) (s : Shared) (σ : St) (H : Hp) (Q : Option Int -> Hp -> Prop), Inv X pins σ H s -> t σ H Q ->
    wpAny (model X.prog X.w) X.A (evalPart e X.env) (fun u s' => ∃ o H', Inv X pins σ H' s' /\ IsPart u o /\ Q o H') X.xe s
inductive TPartI (x : V) (H1 : Hp) (Q : Option Int -> Hp -> Prop) : Prop where
  | mk (i : _) (c1 : x = .int i) (c2 : Q (some i) H1)
def tPart (t : TE) : TO := fun σ H Q => t σ H fun x H1 => TPartI x H1 Q

theorem intsAre_of {ns : List Int} : ∀ {us : List Value}, Vals (ns.map V.int) us -> IntsAre us ns := by
  induction ns with
  | nil => intro us r; rw [List.map_nil] at r; cases r; exact .nil
  | cons n ns ih =>
    intro us r
    rw [List.map_cons] at r
    cases r with
    | cons r1 r2 =>
      obtain ⟨t, e⟩ := r1
      subst e
      exact .cons n t (ih r2)

section
variable {X : Cx} {e : Expr} {te : TE} {lo hi : Option Expr} {tl th : TO} {pos p2 : Pos}

theorem po_some (h : PE X e te) : PO X (some e) (tPart te) := by
  intro pins s σ H Q I hw
  rw [evalPart_some]
  refine thn (h pins s σ H _ I hw) fun u s1 ⟨x, H1, I1, r1, q1⟩ => ?_
  obtain ⟨i, rfl, q⟩ := q1
  obtain ⟨t, rfl⟩ := r1
  exact ⟨some i, H1, I1, .int i t, q⟩

def SlR (X : Cx) (r : V -> Option Int -> Option Int -> Hp -> VK -> Prop) : Prop :=
  ∀ (pins : List (Addr × Obj)) (s : Shared) (σ : St) (H : Hp) (x : V) (v vl vu : Value) (lo hi : Option Int) (sl : Addr) (Q : VK), Inv X pins σ H s -> RelV x v -> s.heap.IsSliceOf sl vl vu .none -> IsPart vl lo -> IsPart vu hi -> r x lo hi H Q ->
    ∃ T id, typeLookup (.type T) "__getitem__" = pure (some (.builtin id)) /\ s.TypeIs v T /\ wpAny (model X.prog X.w) X.A (getItem v (.ref sl)) (EP X pins σ Q) X.xe s
theorem SlR.or {r r' : V -> Option Int -> Option Int -> Hp -> VK -> Prop} (h : SlR X r) (h' : SlR X r') : SlR X (fun x lo hi H Q => r x lo hi H Q ∨ r' x lo hi H Q) := by
  intro pins s σ H x v vl vu lo hi sl Q I rx hs pl pu q
  rcases q with q | q
  · exact h pins s σ H x v vl vu lo hi sl Q I rx hs pl pu q
  · exact h' pins s σ H x v vl vu lo hi sl Q I rx hs pl pu q
def tSl (r : V -> Option Int -> Option Int -> Hp -> VK -> Prop) (te : TE) (tl th : TO) : TE := fun σ H Q => te σ H fun x H1 => tl σ H1 fun l H2 => th σ H2 fun u H3 => r x l u H3 Q
theorem pe_slice {r : V -> Option Int -> Option Int -> Hp -> VK -> Prop} (hr : SlR X r) (he : PE X e te) (hl : PO X lo tl) (hu : PO X hi th) : PE X (.Subscript e (.Slice lo hi none p2) pos) (tSl r te tl th) := by
  intro pins s σ H Q I h
  refine Subscript_ (thn (he pins s σ H _ I h) fun v s1 ⟨x, H1, I1, r1, q1⟩ => ?_)
  refine wpAny_Slice (thn (hl pins s1 σ H1 _ I1 q1) fun vl s2 ⟨l, H2, I2, pl, q2⟩ => thn (hu pins s2 σ H2 _ I2 q2) fun vu s3 ⟨u, H3, I3, pu, q3⟩ => ?_)
  rw [evalPart_none]
  refine wpAny_pure ?_
  have I4 : Inv X pins σ H3 { s3 with heap := s3.heap.push { cls := .type "slice", data := .fields #[vl, vu, .none] } } := I3.kept (t' := s3.toks) fun b ob q => Heap.get?_push_of_some _ q
  obtain ⟨T, id, hT, ht, hg⟩ := hr pins { s3 with heap := s3.heap.push { cls := .type "slice", data := .fields #[vl, vu, .none] } } σ H3 x v vl vu l u s3.heap.objs.size Q I4 r1 (Heap.IsSliceOf.new ..) pl pu q3
  show wpAny (model X.prog X.w) X.A (subscriptTail e (.Slice lo hi none p2) v (.ref s3.heap.objs.size)) (EP X pins σ Q) X.xe { s3 with heap := s3.heap.push { cls := .type "slice", data := .fields #[vl, vu, .none] } }
  exact tail_any (ops := [.ref s3.heap.objs.size, v]) ht hT hg (by with_unfolding_all rfl)

def cutV (xs : List V) (lo hi : Option Int) : List V := (xs.drop (HT.sIx xs.length 0 lo)).take (HT.sIx xs.length xs.length hi - HT.sIx xs.length 0 lo)
theorem cutV_length (xs : List V) (lo hi : Option Int) : (cutV xs lo hi).length <= xs.length := by
  unfold cutV
  rw [List.length_take, List.length_drop]
  omega

end
end L2

namespace L2
open PySem PySem.Spec PyProof.Rows

def ixN (n : Nat) (i : Int) : Option Nat := if 0 <= i then (if i < n then some i.toNat else none) else if -(n : Int) <= i then some (i + n).toNat else none
def atI {α : Type} (xs : List α) (i : Int) : Option α := (ixN xs.length i).bind fun j => xs[j]?
theorem ixN_seq {n : Nat} {i : Int} {j : Nat} (h : ixN n i = some j) : seqIndex? i n = some j /\ j < n /\ -(n : Int) <= i /\ i < n := by
  unfold ixN at h
  by_cases h0 : 0 <= i
  · rw [if_pos h0] at h
    by_cases h1 : i < n
    · rw [if_pos h1] at h
      have e : i.toNat = j := Option.some.inj h
      exact ⟨by rw [seqIndex_of h0 h1, e], by omega, by omega, h1⟩
    · rw [if_neg h1] at h; cases h
  · rw [if_neg h0] at h
    by_cases h1 : -(n : Int) <= i
    · rw [if_pos h1] at h
      have e : (i + n).toNat = j := Option.some.inj h
      exact ⟨by rw [seqIndex_neg (by omega) h1, e], by omega, h1, by omega⟩
    · rw [if_neg h1] at h; cases h
theorem atI_get {α : Type} {xs : List α} {i : Int} {v : α} (h : atI xs i = some v) : ∃ j, seqIndex? i xs.length = some j /\ xs[j]? = some v /\ j < xs.length /\ -(xs.length : Int) <= i /\ i < xs.length := by
  unfold atI at h
  cases e : ixN xs.length i with
  | none => rw [e] at h; cases h
  | some j =>
    rw [e] at h
    obtain ⟨h1, h2, h3, h4⟩ := ixN_seq e
    exact ⟨j, h1, h, h2, h3, h4⟩
theorem atI_nat {α : Type} {xs : List α} {j : Nat} {v : α} (h : xs[j]? = some v) : atI xs (j : Int) = some v := by
  have hj : j < xs.length := (List.getElem?_eq_some_iff.mp h).1
  have e : ixN xs.length (j : Int) = some j := by
    unfold ixN
    rw [if_pos (by omega), if_pos (by omega)]; simp
  unfold atI; rw [e]; exact h
theorem atI_last {α : Type} (xs : List α) (v : α) : atI (xs ++ [v]) (-1) = some v := by
  have hl : (xs ++ [v]).length = xs.length + 1 := by simp
  have e : ixN (xs ++ [v]).length (-1) = some xs.length := by
    unfold ixN
    rw [hl, if_neg (by decide), if_pos (by omega)]
    congr 1
    omega
  unfold atI
  rw [e]
  show (xs ++ [v])[xs.length]? = some v
  simp

def PlainIx (b : Expr) : Prop := ∀ o i, subscripted b false o i = operate [o, i] (getItem o i)
def IxR (X : Cx) (r : R2) : Prop :=
  ∀ (value slice : Expr) (pins : List (Addr × Obj)) (s : Shared) (σ : St) (H : Hp) (x y : V) (v u : Value) (Q : VK), Inv X pins σ H s -> RelV x v -> RelV y u -> r x y H Q ->
    subscripted slice false v u = operate [v, u] (getItem v u) -> wpAny (model X.prog X.w) X.A (subscriptTail value slice v u) (EP X pins σ Q) X.xe s
def MtR (X : Cx) (id : String) (r : V -> List V -> Hp -> VK -> Prop) : Prop :=
  ∀ (pins : List (Addr × Obj)) (s : Shared) (σ : St) (H : Hp) (x : V) (xs : List V) (v : Value) (us : List Value) (Q : VK), Inv X pins σ H s -> RelV x v -> Vals xs us -> r x xs H Q ->
    wpAny (model X.prog X.w) X.A (call (.builtin id) (v :: us)) (EP X pins σ Q) X.xe s
section
variable {X : Cx} {a b : Expr} {ta tb : TE} {pos : Pos}
theorem IxR.or {r r' : R2} (h : IxR X r) (h' : IxR X r') : IxR X (fun x y H Q => r x y H Q ∨ r' x y H Q) := by
  intro value slice pins s σ H x y v u Q I rx ry q hs
  rcases q with q | q
  · exact h value slice pins s σ H x y v u Q I rx ry q hs
  · exact h' value slice pins s σ H x y v u Q I rx ry q hs
theorem MtR.or {id : String} {r r' : V -> List V -> Hp -> VK -> Prop} (h : MtR X id r) (h' : MtR X id r') : MtR X id (fun x xs H Q => r x xs H Q ∨ r' x xs H Q) := by
  intro pins s σ H x xs v us Q I rx rs q
  rcases q with q | q
  · exact h pins s σ H x xs v us Q I rx rs q
  · exact h' pins s σ H x xs v us Q I rx rs q
theorem pe_ix {r : R2} (hr : IxR X r) (ha : PE X a ta) (hb : PE X b tb) (hs : PlainIx b) : PE X (.Subscript a b pos) (tOp r ta tb) := by
  intro pins s σ H Q I h
  exact Subscript_ (binT ha hb I h fun v u s2 x y H2 I2 rx ry q => hr a b pins s2 σ H2 x y v u Q I2 rx ry q (hs _ _))

inductive RIxLI (K : PySem.W.Frag) (x : V) (y : V) (H : Hp) (Q : VK) : Prop where
  | mk (p : _) (xs : _) (i : _) (v : _) (c1 : x = .ref p) (c2 : y = .int i) (c3 : SqL K H p xs) (c4 : atI xs i = some v) (c5 : Q v H)
def rIxL (K : PySem.W.Frag) : R2 := fun x y H Q => RIxLI K x y H Q
inductive RIxTI (K : PySem.W.Frag) (x : V) (y : V) (H : Hp) (Q : VK) : Prop where
  | mk (p : _) (xs : _) (i : _) (v : _) (c1 : x = .ref p) (c2 : y = .int i) (c3 : SqT K H p xs) (c4 : atI xs i = some v) (c5 : Q v H)
def rIxT (K : PySem.W.Frag) : R2 := fun x y H Q => RIxTI K x y H Q
inductive RIxSI (x : V) (y : V) (H : Hp) (Q : VK) : Prop where
  | mk (z : _) (i : _) (c : _) (c1 : x = .str z) (c2 : y = .int i) (c3 : z.length <= sizeLine) (c4 : atI z.cps.toList i = some c) (c5 : Q (.str ⟨#[c]⟩) H)
def rIxS : R2 := fun x y H Q => RIxSI x y H Q
theorem ix_list : IxR X (rIxL X.K) := by
  intro value slice pins s σ H x y v u Q I rx ry h hs
  obtain ⟨p, xs, i, z, rfl, rfl, hq, he, q⟩ := h
  cases rx
  obtain ⟨t, rfl⟩ := ry
  obtain ⟨its, r, pl, hz⟩ := I.list hq
  obtain ⟨j, h1, h2, h3, h4, h5⟩ := atI_get he
  obtain ⟨w, ew, rw'⟩ := r.get h2
  have hl := r.length
  have hn := line63
  have fin : EP X pins σ Q w s := ⟨z, H, I, rw', q⟩
  by_cases h0 : 0 <= i
  · have hj : i.toNat = j := by
      rw [seqIndex_of h0 h5] at h1
      exact Option.some.inj h1
    exact item_listR pl.isList h0 (by omega) (by rw [hj]; simpa using ew) fin hs
  · have hj : (i + (its.toArray.size : Int)).toNat = j := by
      rw [seqIndex_neg (by omega) h4] at h1
      rw [List.size_toArray, <- hl]
      exact Option.some.inj h1
    exact subscriptTail_builtinR (x := w) pl.isList.typeIs slot_list_getitem.lookup
      (wpAny_getItem_list_neg (Q := fun r s' => r = w /\ EP X pins σ Q r s') pl.isList (by omega) (by rw [List.size_toArray] <;> omega) (by omega) (by rw [hj]; simpa using ew) ⟨rfl, fin⟩) hs
theorem ix_tup : IxR X (rIxT X.K) := by
  intro value slice pins s σ H x y v u Q I rx ry h hs
  obtain ⟨p, xs, i, z, rfl, rfl, hq, he, q⟩ := h
  cases rx
  obtain ⟨t, rfl⟩ := ry
  obtain ⟨its, r, pl, hz⟩ := I.tuple hq
  obtain ⟨j, h1, h2, h3, h4, h5⟩ := atI_get he
  obtain ⟨w, ew, rw'⟩ := r.get h2
  have hl := r.length
  have hn := line63
  have fin : EP X pins σ Q w s := ⟨z, H, I, rw', q⟩
  exact subscriptTail_builtinR (x := w) pl.typeIs slot_tuple_getitem.lookup
    (getItem_tuple (j := j) (Q := fun r s' => r = w /\ EP X pins σ Q r s') pl (by omega) (by omega) (by rw [List.size_toArray, <- hl]; exact h1) (by simpa using ew) ⟨rfl, fin⟩) hs
theorem ix_str : IxR X rIxS := by
  intro value slice pins s σ H x y v u Q I rx ry h hs
  obtain ⟨z, i, c, rfl, rfl, hz, he, q⟩ := h
  obtain ⟨t, rfl⟩ := rx
  obtain ⟨t', rfl⟩ := ry
  obtain ⟨j, h1, h2, h3, h4, h5⟩ := atI_get he
  have hl : z.cps.toList.length = z.length := by simp [Str.length]
  rw [hl] at h1 h4 h5
  have hn := line63
  exact tail_any (typeIs_str s z t) slot_str_getitem.lookup (getItem_str (c := c) (by
    have e1 : decide (i < -(2 ^ 63 : Int)) = false := decide_eq_false (by omega)
    have e2 : decide (i ≥ 2 ^ 63) = false := decide_eq_false (by omega)
    rw [e1, e2, Bool.or_false]) (by rw [h1]; simpa using h2) ⟨.str ⟨#[c]⟩, H, I.tok _, ⟨_, rfl⟩, q⟩) hs

theorem Inv.lst {pins : List (Addr × Obj)} {σ : St} {H : Hp} {s : Shared} {p : Addr} {xs : List V} (I : Inv X pins σ H s) (h : H p = some (.lst xs)) :
    ∃ (its : List Value) (n : Nat), Vals xs its /\ s.heap.get? p = some { cls := .type "list", data := .seq its.toArray n } /\ xs.length <= sizeLine := by
  obtain ⟨z, its, n, r, e⟩ := I.hok p _ h
  exact ⟨its, n, r, e, z⟩

theorem slice_bounds (lo hi : Option Int) (n : Nat) : (sliceBounds lo hi none n).1 = ((HT.sIx n 0 lo : Nat) : Int) /\ (sliceBounds lo hi none n).2.1 = ((HT.sIx n n hi : Nat) : Int) /\ (sliceBounds lo hi none n).2.2 = 1 := by
  refine ⟨?_, ?_, rfl⟩
  · cases lo with
    | none => simp [sliceBounds, HT.sIx]
    | some i =>
      simp only [sliceBounds, HT.sIx, Option.getD_none, show (1 : Int) > 0 by decide, if_true]
      by_cases h : i < 0
      · simp only [h, if_true] <;> omega
      · simp only [h, if_false] <;> omega
  · cases hi with
    | none => simp [sliceBounds, HT.sIx]
    | some i =>
      simp only [sliceBounds, HT.sIx, Option.getD_none, show (1 : Int) > 0 by decide, if_true]
      by_cases h : i < 0
      · simp only [h, if_true] <;> omega
      · simp only [h, if_false] <;> omega
theorem slicePick_cut (its : List Value) (lo hi : Option Int) : slicePick its.toArray lo hi none = ((its.drop (HT.sIx its.length 0 lo)).take (HT.sIx its.length its.length hi - HT.sIx its.length 0 lo)).toArray := by
  obtain ⟨h1, h2, h3⟩ := slice_bounds lo hi its.toArray.size
  unfold slicePick
  rw [h1, h2, h3]
  simp only [sliceRange_one, pick_run, List.size_toArray] <;> rfl
inductive RSlLI (K : PySem.W.Frag) (x : V) (lo : Option Int) (hi : Option Int) (H : Hp) (Q : VK) : Prop where
  | mk (a : _) (xs : _) (c1 : x = .ref a) (c2 : SqL K H a xs) (c3 : ∀ p, H p = none -> Q (.ref p) (upd H p (.lst (cutV xs lo hi))))
def rSlL (K : PySem.W.Frag) : V -> Option Int -> Option Int -> Hp -> VK -> Prop := fun x lo hi H Q => RSlLI K x lo hi H Q
theorem sl_list : SlR X (rSlL X.K) := by
  intro pins s σ H x v vl vu lo hi sl Q I rx hs pl pu h
  obtain ⟨a, xs, rfl, hx, q⟩ := h
  cases rx
  obtain ⟨its, r, ht, hz⟩ := I.list hx
  have hlen := r.length
  refine ⟨"list", _, slot_list_getitem.lookup, ht.isList.typeIs, ?_⟩
  refine wpAny_getItem_list_slice ht.isList hs pl pu .none (by simp) ?_ (by rw [List.size_toArray] <;> omega)
  rw [slicePick_cut, <- hlen]
  refine ⟨.ref s.heap.objs.size, _, I.laid (t' := s.toks) (o := .lst (cutV xs lo hi)) (fun b ob q => Heap.get?_push_of_some _ q) (Nat.le_refl _) ?_, rfl, q _ (I.hok.fresh (Nat.le_refl _))⟩
  exact ⟨Nat.le_trans (cutV_length xs lo hi) hz, _, 0, (r.drop (HT.sIx xs.length 0 lo)).take (HT.sIx xs.length xs.length hi - HT.sIx xs.length 0 lo), Heap.get?_push_size _ rfl⟩


theorem call_len_seq : CallR X (.builtin "len") (fun xs H Q => ∃ p ys, xs = [.ref p] /\ (SqL X.K H p ys ∨ SqT X.K H p ys) /\ Q (.int ys.length) H) := by
  intro pins s σ H xs us Q I r h
  obtain ⟨p, ys, rfl, hq, q⟩ := h
  obtain ⟨u, rfl, rx⟩ := vals1 r
  cases rx
  have hn := line63
  rcases hq with hq | hq
  · obtain ⟨its, r', pl, hz⟩ := I.list hq
    have hlen := r'.length
    exact Calls.call_len_list pl.isList (by simp only [List.size_toArray] <;> omega) ⟨.int ys.length, H, I.tok _, ⟨s.toks + 1, by rw [List.size_toArray, hlen]⟩, q⟩
  · obtain ⟨its, r', pl, hz⟩ := I.tuple hq
    have hlen := r'.length
    exact len_tuple pl (by simp only [List.size_toArray] <;> omega) ⟨.int ys.length, H, I.tok _, ⟨s.toks + 1, by rw [List.size_toArray, hlen]⟩, q⟩
theorem CallR.or {f : Value} {r r' : List V -> Hp -> VK -> Prop} (h : CallR X f r) (h' : CallR X f r') : CallR X f (fun xs H Q => r xs H Q ∨ r' xs H Q) := by
  intro pins s σ H xs us Q I rs q
  rcases q with q | q
  · exact h pins s σ H xs us Q I rs q
  · exact h' pins s σ H xs us Q I rs q
theorem call_list_of : CallR X (.type "list") (fun xs H Q => ∃ p ys, xs = [.ref p] /\ (SqL X.K H p ys ∨ SqT X.K H p ys) /\ ∀ l, H l = none -> Q (.ref l) (upd H l (.lst ys))) := by
  intro pins s σ H xs us Q I r h
  obtain ⟨p, ys, rfl, hq, q⟩ := h
  obtain ⟨u, rfl, rx⟩ := vals1 r
  cases rx
  have fin : ∀ (its : List Value), Vals ys its -> ys.length <= sizeLine -> ∀ (h' : Heap) (c' : Nat), (∀ b o', s.heap.get? b = some o' -> h'.get? b = some o') ->
      h'.get? s.heap.objs.size = some { cls := .type "list", dict := none, data := .seq its.toArray c', slots := #[] } -> EP X pins σ Q (.ref s.heap.objs.size) { s with heap := h' } := fun its r' hz h' c' kp e =>
    ⟨.ref s.heap.objs.size, _, I.laid (t' := s.toks) kp (Nat.le_refl _) (show ObjOk X.prog X.w _ h' _ (.lst ys) from ⟨hz, its, c', r', e⟩), rfl, q _ (I.hok.fresh (Nat.le_refl _))⟩
  rcases hq with hq | hq
  · obtain ⟨its, r', pl, hz⟩ := I.list hq
    have hlen := r'.length
    obtain ⟨o, ho, hc, n, hd⟩ := pl.isList
    exact call_list_seq p (.inl rfl) ho hc hd (fun h' c' kp e => fin its r' hz h' c' kp e) (by simp only [List.size_toArray] <;> omega)
  · obtain ⟨its, r', pl, hz⟩ := I.tuple hq
    have hlen := r'.length
    obtain ⟨o, ho, hc, n, hd⟩ := pl
    exact call_list_seq p (.inr rfl) ho hc hd (fun h' c' kp e => fin its r' hz h' c' kp e) (by simp only [List.size_toArray] <;> omega)

def tyV (K : PySem.W.Frag) (T : String) (x : V) (H : Hp) : Prop := match x with
  | .str _ => T = "str"
  | .int _ => T = "int"
  | .ref p => (T = "list" /\ ∃ xs, SqL K H p xs) ∨ (T = "tuple" /\ ∃ o, K.lookup p = some o /\ o.cls = .type "tuple" /\ o.dict = none) ∨
      (T = "dict" /\ ((∃ kvs, H p = some (.dK kvs)) ∨ ∃ kvs, H p = some (.dT kvs))) ∨ (T = "set" /\ ∃ S n, H p = some (.set S n))
  | _ => False
theorem tyV_is {pins : List (Addr × Obj)} {σ : St} {H : Hp} {s : Shared} {T : String} {x : V} {v : Value} (I : Inv X pins σ H s) (r : RelV x v) (ty : tyV X.K T x H) :
    s.TypeIs v T /\ ∀ a, v = .ref a -> ∃ ob, s.heap.get? a = some ob /\ ob.dict = none := by
  cases x with
  | str z =>
    obtain ⟨t, rfl⟩ := r
    cases (show T = "str" from ty)
    exact ⟨typeIs_str s z t, fun _ e => nomatch e⟩
  | int i =>
    obtain ⟨t, rfl⟩ := r
    cases (show T = "int" from ty)
    exact ⟨typeIs_int s i t, fun _ e => nomatch e⟩
  | ref p =>
    cases r
    rcases ty with ⟨rfl, xs, hq⟩ | ⟨rfl, o, hk, hc, hd⟩ | ⟨rfl, hk⟩ | ⟨rfl, S, n, hk⟩
    · obtain ⟨its, _, pl, _⟩ := I.list hq
      refine ⟨pl.isList.typeIs, fun a e => ?_⟩
      cases e
      obtain ⟨o, n, e, c, hd, _⟩ := pl
      exact ⟨o, e, hd⟩
    · refine ⟨⟨o, I.kIn p o hk, hc⟩, fun a e => ?_⟩
      cases e
      exact ⟨o, I.kIn _ o hk, hd⟩
    · have z : ∃ o, s.heap.get? p = some o /\ o.ExactDict := by
        rcases hk with ⟨kvs, hk⟩ | ⟨kvs, hk⟩
        · obtain ⟨_, _, _, _, o, _, _, e, ex, _⟩ := I.hok p _ hk
          exact ⟨o, e, ex⟩
        · obtain ⟨_, _, _, _, o, _, _, e, ex, _⟩ := I.hok p _ hk
          exact ⟨o, e, ex⟩
      obtain ⟨o, e, ex⟩ := z
      refine ⟨⟨o, e, ex.1⟩, fun a e2 => ?_⟩
      cases e2
      exact ⟨o, e, ex.2.1⟩
    · obtain ⟨o, _, _, _, e, ex, _⟩ := I.hok p _ hk
      refine ⟨⟨o, e, ex.1⟩, fun a e2 => ?_⟩
      cases e2
      exact ⟨o, e, ex.2.1⟩
  | _ => exact False.elim ty
inductive TBM0I (K : PySem.W.Frag) (T : String) (r : V -> List V -> Hp -> VK -> Prop) (x : V) (H1 : Hp) (Q : VK) : Prop where
  | mk (c1 : tyV K T x H1) (c2 : r x [] H1 Q)
def tBM0 (K : PySem.W.Frag) (T : String) (r : V -> List V -> Hp -> VK -> Prop) (to : TE) : TE := fun σ H Q => to σ H fun x H1 => TBM0I K T r x H1 Q
inductive TBMI (K : PySem.W.Frag) (T : String) (r : V -> List V -> Hp -> VK -> Prop) (t : TA) (σ : L2.St) (x : V) (H1 : Hp) (Q : VK) : Prop where
  | mk (c1 : tyV K T x H1) (c2 : t σ H1 fun xs H2 => r x xs H2 Q)
def tBM (K : PySem.W.Frag) (T : String) (r : V -> List V -> Hp -> VK -> Prop) (to : TE) (t : TA) : TE := fun σ H Q => to σ H fun x H1 => TBMI K T r t σ x H1 Q
variable {o e : Expr} {es : List Expr} {to : TE} {t : TA} {name : Str} {apos cpos : Pos} {T id : String} {r : V -> List V -> Hp -> VK -> Prop}
theorem pe_bm0 (pa : PlainAttrs T) (slot : Slot T name id) (hty : typeOf (.builtin id) = pure (.type "method_descriptor")) (hm : MtR X id r) (ho : PE X o to)
    (hbase : attributeBase o name X.env (eval o X.env) = eval o X.env := by rfl) (hline : (apos.endLine == cpos.line) = true := by rfl) : PE X (.Call (.Attribute o name apos) [] [] cpos) (tBM0 X.K T r to) := by
  intro pins s σ H Q I h
  refine wpAny_Call_method0_late hbase hline (thn (ho pins s σ H _ I h) fun v s1 ⟨x, H1, I1, r1, ty, q1⟩ => ?_)
  obtain ⟨h1, h2⟩ := tyV_is I1 r1 ty
  exact ⟨T, id, pa, slot, hty, h1, h2, Calls.callWith_builtin rfl (PySem.evalArgs_none (hm pins s1 σ H1 x [] v [] Q I1 r1 .nil q1))⟩
theorem pe_bm (pa : PlainAttrs T) (slot : Slot T name id) (hty : typeOf (.builtin id) = pure (.type "method_descriptor")) (hm : MtR X id r) (ho : PE X o to) (ha : PA X (e :: es) t)
    (hbase : attributeBase o name X.env (eval o X.env) = eval o X.env := by rfl)
    (hfew : ((backTo cpos (starEach (e :: es) X.env)).all (fun x => !x.1) && (backToKw cpos (keywordEach [] X.env)).all (fun x => x.1.isSome)
      && decide ((e :: es).length + ([] : List Keyword).length + (if ([] : List Keyword).isEmpty then 0 else 1) < 30)) = true := by rfl)
    (hline : (apos.endLine == cpos.line) = true := by rfl) (hs : starEach (e :: es) X.env = (false, eval e X.env) :: starEach es X.env := by rfl) (hplain : (backTo cpos (starEach es X.env)).any (·.1) = false := by rfl) :
    PE X (.Call (.Attribute o name apos) (e :: es) [] cpos) (tBM X.K T r to t) := by
  intro pins s σ H Q I h
  refine wpAny_Call_method_late hbase hfew hline rfl (thn (ho pins s σ H _ I h) fun v s1 ⟨x, H1, I1, r1, ty, q1⟩ => ?_)
  obtain ⟨h1, h2⟩ := tyV_is I1 r1 ty
  refine ⟨T, id, pa, slot, hty, h1, h2, ?_⟩
  have hA := ha cpos pins s1 σ H1 _ I1 q1
  rw [hs] at hA ⊢
  refine Calls.callWith_builtin (by show (false || (backTo cpos (starEach es X.env)).any (·.1)) = false; rw [hplain] <;> rfl) (Calls.evalArgs_plain ?_)
  exact thn hA fun us s2 ⟨vs, H2, I2, r2, q2⟩ => hm pins s2 σ H2 x vs v us Q I2 r1 r2 q2
/- xs.append(e), list.index on a module's tuple .. are MtR facts of 06m -/
end
end L2

namespace L2
open PySem PySem.Spec PyProof.Rows

def MtM (X : Cx) (id : String) (r : V -> List V -> Hp -> VK -> Prop) : Prop :=
  ∀ (pins : List (Addr × Obj)) (s : Shared) (σ : St) (H : Hp) (x : V) (xs : List V) (v : Value) (us : List Value) (Q : VK), Inv X pins σ H s -> RelV x v -> Vals xs us -> r x xs H Q ->
    wpAny (model X.prog X.w) X.A (call (.builtin id) (v :: us)) (EP X pins σ Q) X.xe s

theorem Vals.one : ∀ {x : V} {us : List Value}, Vals [x] us -> ∃ u, us = [u] /\ RelV x u
  | _, _, .cons r .nil => ⟨_, rfl, r⟩
theorem Vals.two : ∀ {x y : V} {us : List Value}, Vals [x, y] us -> ∃ u v, us = [u, v] /\ RelV x u /\ RelV y v
  | _, _, _, .cons r (.cons q .nil) => ⟨_, _, rfl, r, q⟩
theorem Vals.zero : ∀ {us : List Value}, Vals [] us -> us = []
  | _, .nil => rfl
theorem Vals.dropLast {xs : List V} {us : List Value} (h : Vals xs us) : Vals xs.dropLast us.dropLast := by
  induction h with
  | nil => exact .nil
  | cons r t ih =>
    cases t with
    | nil => exact .nil
    | cons q t' => exact .cons r ih
theorem Vals.eraseIdx : ∀ {xs : List V} {us : List Value} (i : Nat), Vals xs us -> Vals (xs.eraseIdx i) (us.eraseIdx i)
  | _, _, _, .nil => .nil
  | _, _, 0, .cons _ t => t
  | _, _, i + 1, .cons r t => .cons r (Vals.eraseIdx i t)
theorem Vals.reverse {xs : List V} {us : List Value} (h : Vals xs us) : Vals xs.reverse us.reverse := by
  induction h with
  | nil => exact .nil
  | cons r t ih => rw [List.reverse_cons, List.reverse_cons]; exact Vals.append ih (.cons r .nil)
theorem erase_last {α : Type} (l : List α) : l.eraseIdx (l.length - 1) = l.dropLast := by
  induction l with
  | nil => rfl
  | cons a r ih =>
    cases r with
    | nil => rfl
    | cons b r =>
      have e : (a :: b :: r).length - 1 = ((b :: r).length - 1) + 1 := by
        have h1 : (a :: b :: r).length = r.length + 2 := rfl
        have h2 : (b :: r).length = r.length + 1 := rfl
        omega
      rw [e, List.eraseIdx_cons_succ, ih]
      all_goals rfl

section
variable {X : Cx} {pins : List (Addr × Obj)} {σ : St} {H : Hp} {s : Shared} {l b : Addr} {xs ys zs : List V}

theorem Inv.lset {its its' : List Value} {n : Nat} {f : Array Value -> Array Value} {t' : Nat} (I : Inv X pins σ H s) (hH : H l = some (.lst xs))
    (e : s.heap.get? l = some { cls := .type "list", data := .seq its.toArray n }) (hf : f its.toArray = its'.toArray) (hv : Vals ys its') (hz : ys.length <= sizeLine) :
    Inv X pins σ (upd H l (.lst ys)) { s with heap := s.heap.update l (Obj.mapSeq f), toks := t' } := by
  have q := PySem.IsL.update e f
  rw [hf] at q
  refine I.write (x := l) (e := l) (by rw [hH]; exact trivial) (.inl rfl) (fun b' u hb hu => (Heap.get?_update_other s.heap (Obj.mapSeq f) (Ne.symm hb)).trans hu) ⟨_, q⟩ ?_
  exact ⟨hz, its', _, hv, q⟩
theorem Inv.lnew {its : List Value} {t' : Nat} (I : Inv X pins σ H s) (hv : Vals ys its) (hz : ys.length <= sizeLine) :
    Inv X pins σ (upd H s.heap.objs.size (.lst ys)) { s with heap := s.heap.push { cls := .type "list", data := .seq its.toArray }, toks := t' } :=
  I.laid (fun _ _ q => Heap.get?_push_of_some _ q) (Nat.le_refl _) ⟨hz, its, 0, hv, Heap.get?_push_size _ rfl⟩
theorem Inv.fresh (I : Inv X pins σ H s) : H s.heap.objs.size = none := I.hok.fresh (Nat.le_refl _)
theorem Inv.lstM (I : Inv X pins σ H s) (hH : H l = some (.lst xs)) : xs.length <= sizeLine /\ ∃ (its : List Value) (n : Nat), Vals xs its /\ xs.length = its.length /\ s.heap.get? l = some { cls := .type "list", data := .seq its.toArray n } := by
  obtain ⟨z, its, n, r, e⟩ := I.hok l _ hH
  exact ⟨z, its, n, r, r.length, e⟩

theorem notLongL {n : Nat} (h : n <= sizeLine) : Builtin.List.listTooLong n = false := by
  unfold Builtin.List.listTooLong
  exact decide_eq_false (by omega)
end

section
variable {X : Cx}

def rAppend : V -> List V -> Hp -> VK -> Prop := fun x vs H Q => ∃ l xs y, x = .ref l /\ vs = [y] /\ H l = some (.lst xs) /\ xs.length < sizeLine /\ Q .non (upd H l (.lst (xs ++ [y])))
theorem mt_append : MtM X "list.append" rAppend := by
  intro pins s σ H x vs v us Q I rx rv h
  obtain ⟨l, xs, y, rfl, rfl, hH, hz, q⟩ := h
  cases rx
  obtain ⟨u, rfl, ru⟩ := rv.one
  obtain ⟨z, its, n, r, hl, e⟩ := I.lstM hH
  refine call_meets F.slot_list_append ⟨_, e, rfl⟩ F.entry_list_append (F.args_list_append_2 _ _) (PySem.list_append l its.toArray n u (by rw [List.size_toArray]; omega)) ⟨e, ?_⟩
  refine ⟨.non, _, I.lset (its' := its ++ [u]) hH e (by simp) (r.append (.cons ru .nil)) ?_, rfl, q⟩
  rw [List.length_append, List.length_singleton]
  omega

def rExtend : V -> List V -> Hp -> VK -> Prop := fun x vs H Q => ∃ l b xs zs, x = .ref l /\ vs = [.ref b] /\ H l = some (.lst xs) /\ H b = some (.lst zs) /\ xs.length + zs.length <= sizeLine /\ Q .non (upd H l (.lst (xs ++ zs)))
theorem mt_extend : MtM X "list.extend" rExtend := by
  intro pins s σ H x vs v us Q I rx rv h
  obtain ⟨l, b, xs, zs, rfl, rfl, hH, hB, hz, q⟩ := h
  cases rx
  obtain ⟨u, rfl, ru⟩ := rv.one
  cases ru
  obtain ⟨z, its, n, r, hl, e⟩ := I.lstM hH
  obtain ⟨z2, its2, n2, r2, hl2, e2⟩ := I.lstM hB
  have hsz : its.toArray.size + its2.toArray.size <= sizeLine := by rw [List.size_toArray, List.size_toArray]; omega
  have hlong : ¬ (!its.toArray.isEmpty && Builtin.List.listTooLong (its.toArray.size + its2.toArray.size)) = true := by
    rw [notLongL hsz, Bool.and_false]
    exact Bool.false_ne_true
  refine call_meets F.slot_list_extend ⟨_, e, rfl⟩ F.entry_list_extend (F.args_list_extend_2 _ _)
    (AutoSeq1.list_extend_list_list_0 l its.toArray n b its2.toArray n2 hlong (by rw [List.size_toArray]; omega) (by omega)) ⟨e, e2, ?_⟩
  refine ⟨.non, _, I.lset (its' := its ++ its2) hH e (by simp) (r.append r2) ?_, rfl, q⟩
  rw [List.length_append]
  omega

def rPop : V -> List V -> Hp -> VK -> Prop := fun x vs H Q => ∃ l xs y, x = .ref l /\ vs = [] /\ H l = some (.lst xs) /\ xs[xs.length - 1]? = some y /\ Q y (upd H l (.lst xs.dropLast))
theorem mt_pop : MtM X "list.pop" rPop := by
  intro pins s σ H x vs v us Q I rx rv h
  obtain ⟨l, xs, y, rfl, rfl, hH, hy, q⟩ := h
  cases rx
  have hus := rv.zero
  subst hus
  obtain ⟨z, its, n, r, hl, e⟩ := I.lstM hH
  obtain ⟨u, hu, ru⟩ := r.get hy
  have hy' : its.toArray[its.toArray.size - 1]? = some u := by
    show its.toArray[its.length - 1]? = some u
    rw [<- Array.getElem?_toList, <- hl]
    exact hu
  refine call_meets F.slot_list_pop ⟨_, e, rfl⟩ F.entry_list_pop (F.args_list_pop_1 _) (MeetsSeq.list_pop_last l its.toArray n u hy' (by rw [List.size_toArray]; omega)) ⟨e, ?_⟩
  refine ⟨y, _, I.lset (its' := its.dropLast) hH e ?_ r.dropLast ?_, ru, q⟩
  · show its.toArray.eraseIdxIfInBounds (its.toArray.size - 1) = its.dropLast.toArray
    rw [List.size_toArray, List.eraseIdxIfInBounds_toArray, erase_last]
  · rw [List.length_dropLast]
    omega




def rCat : R2 := fun x y H Q => ∃ l b xs zs, x = .ref l /\ y = .ref b /\ H l = some (.lst xs) /\ H b = some (.lst zs) /\ xs.length + zs.length <= sizeLine /\ ∀ p, H p = none -> Q (.ref p) (upd H p (.lst (xs ++ zs)))
theorem op_cat : OpR X (binaryOp .Add) rCat := by
  intro pins s σ H x y v u Q I rx ry h
  obtain ⟨l, b, xs, zs, rfl, rfl, hH, hB, hz, q⟩ := h
  cases rx
  cases ry
  obtain ⟨z, its, n, r, hl, e⟩ := I.lstM hH
  obtain ⟨z2, its2, n2, r2, hl2, e2⟩ := I.lstM hB
  refine PySem.P.add_list e e2 ?_ (by rw [List.size_toArray, List.size_toArray]; omega)
  have ea : its.toArray ++ its2.toArray = (its ++ its2).toArray := by simp
  rw [ea]
  exact ⟨.ref _, _, I.lnew (t' := s.toks) (r.append r2) (by rw [List.length_append]; omega), rfl, q _ I.fresh⟩

end

section
variable {prog : Program} {w : World} {A : Around} {E : Value -> Shared -> Prop} {s : Shared}
set_option maxRecDepth 100000 in
end

section
variable {X : Cx}
end
end L2


namespace L2
open PySem PySem.Spec PyProof.Rows

section
variable {κ : Type} [DecidableEq κ]
def valV (kvs : List (κ × V)) (k : κ) : Option V := (kvs.find? fun kv => decide (kv.1 = k)).map (·.2)
def putK (kvs : List (κ × V)) (k : κ) (v : V) : List (κ × V) :=
  if (kvs.any fun kv => decide (kv.1 = k)) = true then kvs.map (fun kv => if kv.1 = k then (kv.1, v) else kv) else kvs ++ [(k, v)]
def dropK (kvs : List (κ × V)) (k : κ) : List (κ × V) := kvs.filter fun kv => decide (kv.1 ≠ k)

theorem valV_nil {k : κ} : valV ([] : List (κ × V)) k = none := rfl
theorem valV_pos {p : κ × V} {r : List (κ × V)} {k : κ} (e : p.1 = k) : valV (p :: r) k = some p.2 := by simp [valV, List.find?_cons, e]
theorem valV_neg {p : κ × V} {r : List (κ × V)} {k : κ} (e : ¬ p.1 = k) : valV (p :: r) k = valV r k := by simp [valV, List.find?_cons, e]
theorem valV_any (k : κ) : ∀ kvs : List (κ × V), (kvs.any fun kv => decide (kv.1 = k)) = (valV kvs k).isSome
  | [] => rfl
  | p :: r => by
    rw [List.any_cons]
    by_cases e : p.1 = k
    · simp only [valV_pos e, decide_eq_true e, Bool.true_or, Option.isSome_some]
    · rw [valV_neg e, decide_eq_false e, Bool.false_or]; exact valV_any k r
theorem valV_map (k j : κ) (y : V) : ∀ kvs : List (κ × V), valV (kvs.map fun kv => if kv.1 = k then (kv.1, y) else kv) j = (valV kvs j).map fun x => if j = k then y else x
  | [] => rfl
  | p :: r => by
    have ih := valV_map k j y r
    rw [List.map_cons]
    by_cases h : p.1 = k
    · rw [if_pos h]
      by_cases e : p.1 = j
      · rw [valV_pos (p := (p.1, y)) e, valV_pos e, Option.map_some, if_pos (e.symm.trans h)]
      · rw [valV_neg (p := (p.1, y)) e, valV_neg e, ih]
    · rw [if_neg h]
      by_cases e : p.1 = j
      · rw [valV_pos (p := p) e, valV_pos e, Option.map_some, if_neg (fun z => h (e.trans z))]
      · rw [valV_neg (p := p) e, valV_neg e, ih]
theorem valV_snoc (k j : κ) (y : V) : ∀ kvs : List (κ × V), valV kvs k = none -> valV (kvs ++ [(k, y)]) j = if j = k then some y else valV kvs j
  | [], _ => by
    by_cases e : k = j
    · rw [if_pos e.symm]; exact valV_pos (p := (k, y)) e
    · rw [if_neg (fun z => e z.symm)]; exact valV_neg (p := (k, y)) e
  | p :: r, hn => by
    rw [List.cons_append]
    have hk : ¬ p.1 = k := fun z => by rw [valV_pos z] at hn; cases hn
    rw [valV_neg hk] at hn
    have ih := valV_snoc k j y r hn
    by_cases e : p.1 = j
    · rw [valV_pos e, valV_pos e, if_neg (fun z => hk (e.trans z))]
    · rw [valV_neg e, valV_neg e, ih]
theorem valV_put (kvs : List (κ × V)) (k j : κ) (y : V) : valV (putK kvs k y) j = if j = k then some y else valV kvs j := by
  unfold putK
  by_cases a : (kvs.any fun kv => decide (kv.1 = k)) = true
  · rw [if_pos a, valV_map]
    rw [valV_any] at a
    by_cases e : j = k
    · obtain ⟨x, hx⟩ := Option.isSome_iff_exists.mp a
      rw [if_pos e, e, hx, Option.map_some, if_pos rfl]
    · rw [if_neg e]
      cases valV kvs j with
      | none => rfl
      | some x => rw [Option.map_some, if_neg e]
  · rw [if_neg a]
    refine valV_snoc k j y kvs ?_
    rw [valV_any] at a
    cases q : valV kvs k with
    | none => rfl
    | some x => rw [q] at a; exact (a rfl).elim
theorem length_putK (kvs : List (κ × V)) (k : κ) (v : V) : (putK kvs k v).length <= kvs.length + 1 := by
  unfold putK
  split
  · rw [List.length_map]; omega
  · rw [List.length_append, List.length_cons, List.length_nil]; omega
theorem putK_new {kvs : List (κ × V)} {k : κ} (v : V) (h : valV kvs k = none) : putK kvs k v = kvs ++ [(k, v)] := by
  unfold putK
  rw [valV_any, h]
  exact if_neg (by decide)

theorem RelO.isSome_eq {o : Option V} {u : Option Value} (r : RelO o u) : o.isSome = u.isSome := by
  cases o with
  | none => cases u with
    | none => rfl
    | some _ => exact (show False from r).elim
  | some _ => cases u with
    | none => exact (show False from r).elim
    | some _ => rfl
theorem RelO.getD {o : Option V} {u : Option Value} {d : V} {d' : Value} (r : RelO o u) (rd : RelV d d') : RelV (o.getD d) (u.getD d') := by
  cases o with
  | none => cases u with
    | none => exact rd
    | some _ => exact (show False from r).elim
  | some _ => cases u with
    | none => exact (show False from r).elim
    | some _ => exact r

theorem KV.val {kvs : List (κ × V)} {vs : List (κ × Value)} (r : KV kvs vs) (k : κ) : RelO (valV kvs k) (valueAt vs k) := by
  unfold KV at r
  induction r with
  | nil => exact True.intro
  | @cons p q ps qs h t ih =>
    obtain ⟨h1, h2⟩ := h
    by_cases e : p.1 = k
    · have e' : q.1 = k := h1.symm.trans e
      have b : valueAt (q :: qs) k = some q.2 := by simp [valueAt, List.find?_cons, e']
      rw [valV_pos e, b]; exact h2
    · have e' : ¬ q.1 = k := fun z => e (h1.trans z)
      have b : valueAt (q :: qs) k = valueAt qs k := by simp [valueAt, List.find?_cons, e']
      rw [valV_neg e, b]; exact ih
theorem KV.any {kvs : List (κ × V)} {vs : List (κ × Value)} (r : KV kvs vs) (k : κ) : (kvs.any fun kv => decide (kv.1 = k)) = vs.any fun kv => decide (kv.1 = k) := by
  unfold KV at r
  induction r with
  | nil => rfl
  | cons h t ih => rw [List.any_cons, List.any_cons, ih, h.1]
theorem KV.repl {kvs : List (κ × V)} {vs : List (κ × Value)} (r : KV kvs vs) (k : κ) {y : V} {u : Value} (ry : RelV y u) :
    KV (kvs.map fun kv => if kv.1 = k then (kv.1, y) else kv) (vs.map fun kv => if kv.1 = k then (kv.1, u) else kv) := by
  unfold KV at r ⊢
  induction r with
  | nil => exact .nil
  | @cons p q ps qs h t ih =>
    rw [List.map_cons, List.map_cons]
    refine .cons ?_ ih
    obtain ⟨h1, h2⟩ := h
    by_cases e : p.1 = k
    · rw [if_pos e, if_pos (h1.symm.trans e)]; exact ⟨h1, ry⟩
    · rw [if_neg e, if_neg (fun z => e (h1.trans z))]; exact ⟨h1, h2⟩
theorem KV.put {kvs : List (κ × V)} {vs : List (κ × Value)} (r : KV kvs vs) (k : κ) {y : V} {u : Value} (ry : RelV y u) : KV (putK kvs k y) (stored vs k u) := by
  unfold putK stored
  rw [r.any k]
  by_cases e : (vs.any fun kv => decide (kv.1 = k)) = true
  · rw [if_pos e, if_pos e]; exact r.repl k ry
  · rw [if_neg e, if_neg e]; exact Paired.snoc r ⟨rfl, ry⟩
theorem KV.drop {kvs : List (κ × V)} {vs : List (κ × Value)} (r : KV kvs vs) (k : κ) : KV (dropK kvs k) (without vs k) := by
  unfold KV at r ⊢
  unfold dropK without
  induction r with
  | nil => exact .nil
  | @cons p q ps qs h t ih =>
    obtain ⟨h1, h2⟩ := h
    rw [List.filter_cons, List.filter_cons]
    by_cases e : p.1 = k
    · have a : ¬ decide (p.1 ≠ k) = true := by simp [e]
      have b : ¬ decide (q.1 ≠ k) = true := by simp [h1.symm.trans e]
      rw [if_neg a, if_neg b]; exact ih
    · have e' : ¬ q.1 = k := fun z => e (h1.trans z)
      have a : decide (p.1 ≠ k) = true := by simp [e]
      have b : decide (q.1 ≠ k) = true := by simp [e']
      rw [if_pos a, if_pos b]; exact .cons ⟨h1, h2⟩ ih
theorem KV.keys {kvs : List (κ × V)} {vs : List (κ × Value)} (r : KV kvs vs) : kvs.map (·.1) = vs.map (·.1) := by
  unfold KV at r
  induction r with
  | nil => rfl
  | cons h t ih => rw [List.map_cons, List.map_cons, ih, h.1]
theorem KV.length {kvs : List (κ × V)} {vs : List (κ × Value)} (r : KV kvs vs) : kvs.length = vs.length := Paired.length r
end


theorem kV_is {P : Program} {w : World} {k : Key} {u : Value} (r : RelV (kV k) u) : (mixKind P w).is k u = true := by
  cases k with
  | inl i => obtain ⟨t, e⟩ := (show ∃ t, u = Value.int i t from r); subst e; exact mixKind_int P w i t
  | inr x => obtain ⟨t, e⟩ := (show ∃ t, u = Value.str x t from r); subst e; exact mixKind_str P w x t
theorem items_are {P : Program} {w : World} : ∀ {ks : List Key} {us : List Value}, Vals (ks.map kV) us -> ItemsAre (mixKind P w) ks us
  | [], _, r => by rw [List.map_nil] at r; cases r; exact .nil
  | k :: ks, _, r => by
    rw [List.map_cons] at r
    cases r with
    | cons h t => exact .cons (kV_is h) (items_are t)

abbrev KT (H : Hp) : List (List Key × V) -> List (List Key × Addr × Value) -> Prop := Paired fun p q => p.1 = q.1 /\ H q.2.1 = some (.tup (p.1.map kV)) /\ RelV p.2 q.2.2
theorem KT.val {H : Hp} {kvs : List (List Key × V)} {xs : List (List Key × Addr × Value)} (r : KT H kvs xs) (k : List Key) : RelO (valV kvs k) ((atKey xs k).map (·.2)) := by
  induction r with
  | nil => exact True.intro
  | @cons p q ps qs h t ih =>
    obtain ⟨h1, _, h2⟩ := h
    by_cases e : p.1 = k
    · have e' : q.1 = k := h1.symm.trans e
      have b : atKey (q :: qs) k = some q.2 := by simp [atKey, List.find?_cons, e']
      rw [valV_pos e, b]; exact h2
    · have e' : ¬ q.1 = k := fun z => e (h1.trans z)
      have b : atKey (q :: qs) k = atKey qs k := by simp [atKey, List.find?_cons, e']
      rw [valV_neg e, b]; exact ih
theorem KT.repl {H : Hp} {kvs : List (List Key × V)} {xs : List (List Key × Addr × Value)} (r : KT H kvs xs) (k : List Key) {y : V} {u : Value} (ry : RelV y u) :
    KT H (kvs.map fun kv => if kv.1 = k then (kv.1, y) else kv) (xs.map (putAt k u)) := by
  induction r with
  | nil => exact .nil
  | @cons p q ps qs h t ih =>
    rw [List.map_cons, List.map_cons]
    refine .cons ?_ ih
    obtain ⟨h1, h2, h3⟩ := h
    unfold putAt
    by_cases e : p.1 = k
    · rw [if_pos e, if_pos (h1.symm.trans e)]; exact ⟨h1, h2, ry⟩
    · rw [if_neg e, if_neg (fun z => e (h1.trans z))]; exact ⟨h1, h2, h3⟩
theorem KT.put {H : Hp} {kvs : List (List Key × V)} {xs : List (List Key × Addr × Value)} (r : KT H kvs xs) (k : List Key) {b : Addr} {y : V} {u : Value} (hb : H b = some (.tup (k.map kV))) (ry : RelV y u) :
    KT H (putK kvs k y) (storedH xs k b u) := by
  have e : (kvs.any fun kv => decide (kv.1 = k)) = (atKey xs k).isSome := by
    rw [valV_any, (r.val k).isSome_eq, Option.isSome_map]
  unfold putK storedH
  rw [e]
  by_cases q : (atKey xs k).isSome = true
  · rw [if_pos q, if_pos q]; exact r.repl k ry
  · rw [if_neg q, if_neg q]; exact Paired.snoc r ⟨rfl, hb, ry⟩
theorem KT.keeps {H H' : Hp} {kvs : List (List Key × V)} {xs : List (List Key × Addr × Value)} (r : KT H kvs xs) (ht : ∀ b ys, H b = some (.tup ys) -> H' b = some (.tup ys)) : KT H' kvs xs :=
  Paired.mapP r fun _ _ z => ⟨z.1, ht _ _ z.2.1, z.2.2⟩

section
variable {P : Program} {w : World} {H : Hp} {h : Heap} {a : Addr}
theorem rd_of {u : HO} (ok : HOk P w H h) (e : Rd H a u) : ObjOk P w H h a u := e.ok ok
theorem dk_rd {kvs : List (Key × V)} (ok : HOk P w H h) (e : Rd H a (.dK kvs)) : kvs.length <= sizeLine /\ (a == sysModules) = false /\ ∃ vs, KV kvs vs /\ h.DictOf (mixKind P w) a vs :=
  show ObjOk P w H h a (.dK kvs) from rd_of ok e
theorem dk_of {kvs : List (Key × V)} (ok : HOk P w H h) (e : H a = some (.dK kvs)) : kvs.length <= sizeLine /\ (a == sysModules) = false /\ ∃ vs, KV kvs vs /\ h.DictOf (mixKind P w) a vs := dk_rd ok (.inl e)
theorem key_of {ks : List Key} (ok : HOk P w H h) (e : H a = some (.tup (ks.map kV))) : (tupleKind (mixKind P w)).is h ks a := by
  obtain ⟨_, its, r, o, h1, h2, n, h3⟩ := (show ObjOk P w H h a (.tup (ks.map kV)) from ok a _ e)
  exact ⟨o, its.toArray, n, h1, h2, h3, by simpa using items_are r⟩
theorem dt_rd {kvs : List (List Key × V)} (ok : HOk P w H h) (e : Rd H a (.dT kvs)) : kvs.length <= sizeLine /\ (a == sysModules) = false /\
    ∃ xs, KT H kvs xs /\ h.DictOfH (tupleKind (mixKind P w)) a xs := by
  obtain ⟨z, y, xs, r, o, es, ep, h1, h2, h3, h4, h5⟩ := (show ObjOk P w H h a (.dT kvs) from rd_of ok e)
  refine ⟨z, y, xs, r, o, es, ep, h1, h2, h3, h4, fun x hx => ?_, h5⟩
  have all : ∀ {l : List (List Key × V)} {m : List (List Key × Addr × Value)}, KT H l m -> ∀ x ∈ m, (tupleKind (mixKind P w)).is h x.1 x.2.1 := by
    intro l m q
    induction q with
    | nil => intro x hx; exact nomatch hx
    | @cons p q ps qs hq t ih =>
      intro x hx
      rcases List.mem_cons.mp hx with e | hx
      · subst e
        exact key_of ok (by rw [<- hq.1]; exact hq.2.1)
      · exact ih x hx
  exact all r x hx
theorem dt_of {kvs : List (List Key × V)} (ok : HOk P w H h) (e : H a = some (.dT kvs)) : kvs.length <= sizeLine /\ (a == sysModules) = false /\
    ∃ xs, KT H kvs xs /\ h.DictOfH (tupleKind (mixKind P w)) a xs := dt_rd ok (.inl e)
end

def DGet (H : Hp) (a : Addr) (y : V) (r : Option V) : Prop :=
  (∃ kvs k, Rd H a (.dK kvs) /\ y = kV k /\ r = valV kvs k) ∨ ∃ kvs k b, Rd H a (.dT kvs) /\ y = .ref b /\ H b = some (.tup (k.map kV)) /\ r = valV kvs k
def DPut (H : Hp) (a : Addr) (y v : V) (H' : Hp) : Prop :=
  (∃ kvs k, H a = some (.dK kvs) /\ y = kV k /\ kvs.length < sizeLine /\ H' = upd H a (.dK (putK kvs k v))) ∨
  ∃ kvs k b, H a = some (.dT kvs) /\ y = .ref b /\ H b = some (.tup (k.map kV)) /\ kvs.length < sizeLine /\ H' = upd H a (.dT (putK kvs k v))
theorem DGet.k {H : Hp} {a : Addr} {kvs : List (Key × V)} {k : Key} (e : H a = some (.dK kvs)) : DGet H a (kV k) (valV kvs k) := .inl ⟨kvs, k, .inl e, rfl, rfl⟩
theorem DGet.t {H : Hp} {a b : Addr} {kvs : List (List Key × V)} {k : List Key} (e : H a = some (.dT kvs)) (eb : H b = some (.tup (k.map kV))) : DGet H a (.ref b) (valV kvs k) := .inr ⟨kvs, k, b, .inl e, rfl, eb, rfl⟩
theorem DPut.k {H : Hp} {a : Addr} {kvs : List (Key × V)} {k : Key} {v : V} (e : H a = some (.dK kvs)) (hl : kvs.length < sizeLine) : DPut H a (kV k) v (upd H a (.dK (putK kvs k v))) := .inl ⟨kvs, k, e, rfl, hl, rfl⟩
theorem DPut.t {H : Hp} {a b : Addr} {kvs : List (List Key × V)} {k : List Key} {v : V} (e : H a = some (.dT kvs)) (eb : H b = some (.tup (k.map kV))) (hl : kvs.length < sizeLine) :
    DPut H a (.ref b) v (upd H a (.dT (putK kvs k v))) := .inr ⟨kvs, k, b, e, rfl, eb, hl, rfl⟩


section
variable {X : Cx} {pins : List (Addr × Obj)} {σ : St} {H : Hp} {s : Shared} {a : Addr} {y v : V} {u r : Value} {o : Option V} {A : Around} {E : Value -> Shared -> Prop}

theorem Inv.big (I : Inv X pins σ H s) : sysModules < s.heap.objs.size := by
  have h : mainGlobals < s.heap.objs.size := (I.mod.glob.keeps I.bk).lt
  exact Nat.lt_trans (by decide) h

theorem d_getItem {Q : Value -> Shared -> Prop} (hu : A.units + 1 < cLine) (I : Inv X pins σ H s) (g : DGet H a y (some v)) (ry : RelV y u) (h : ∀ w' s', Inv X pins σ H s' -> RelV v w' -> Q w' s') :
    wpAny (model X.prog X.w) A (getItem (.ref a) u) Q E s := by
  rcases g with ⟨kvs, k, e, ey, l⟩ | ⟨kvs, k, b, e, ey, eb, l⟩
  · subst ey
    obtain ⟨z, hd, vs, rel, dd⟩ := dk_rd I.hok e
    obtain ⟨w', hw, rw'⟩ := RelO.some_of (v := v) (o := valueAt vs k) (by rw [l]; exact rel.val k)
    exact wpAny_getItem_of (kV_is ry) dd.mapOf hw (h w' _ (I.tok _) rw')
  · subst ey
    cases (show u = Value.ref b from ry)
    obtain ⟨z, hd, xs, rel, dd⟩ := dt_rd I.hok e
    obtain ⟨w', hw, rw'⟩ := RelO.some_of (v := v) (o := (atKey xs k).map (·.2)) (by rw [l]; exact rel.val k)
    obtain ⟨p, hp, hp2⟩ := Option.map_eq_some_iff.mp hw
    refine wpAny_getItem_heap (tupleKind_room_in1 hu) (key_of I.hok eb) dd hp ?_
    rw [hp2]
    exact h w' _ (I.tok _) rw'
theorem d_notIn {Q : Value -> Shared -> Prop} (hu : A.units + 1 < cLine) (I : Inv X pins σ H s) (g : DGet H a y o) (ry : RelV y u) (h : ∀ s', Inv X pins σ H s' -> Q (.bool (!o.isSome)) s') :
    wpAny (model X.prog X.w) A (compareOp .NotIn u (.ref a)) Q E s := by
  rcases g with ⟨kvs, k, e, ey, l⟩ | ⟨kvs, k, b, e, ey, eb, l⟩
  · subst ey
    obtain ⟨z, hd, vs, rel, dd⟩ := dk_rd I.hok e
    refine wpAny_notIn_of (kV_is ry) hd dd.mapOf ?_
    rw [<- (rel.val k).isSome_eq, <- l]
    exact h _ (I.tok _)
  · subst ey
    cases (show u = Value.ref b from ry)
    obtain ⟨z, hd, xs, rel, dd⟩ := dt_rd I.hok e
    refine wpAny_notIn_heap (tupleKind_room_in1 hu) (key_of I.hok eb) hd dd ?_
    have q := (rel.val k).isSome_eq
    rw [Option.isSome_map] at q
    rw [<- q, <- l]
    exact h _ (I.tok _)
theorem d_write {h' : Heap} {t' : Nat} {ob : HO} (I : Inv X pins σ H s) (mu : Mut (H a)) (hs : Heap.SameBut a s.heap h') (he : ∃ q, h'.get? a = some q) (new : ObjOk X.prog X.w (upd H a ob) h' a ob) :
    Inv X pins σ (upd H a ob) { s with heap := h', toks := t' } :=
  I.write (x := a) (e := a) mu (.inl rfl) (fun b q hb z => (hs.2 b hb).trans z) he new
theorem dk_new {P : Program} {w : World} {H' : Hp} {h' : Heap} {kvs : List (Key × V)} {vs : List (Key × Value)} (z : kvs.length <= sizeLine) (hd : (a == sysModules) = false) (rel : KV kvs vs) (dd : h'.DictOf (mixKind P w) a vs) :
    ObjOk P w H' h' a (.dK kvs) := ⟨z, hd, vs, rel, dd⟩
theorem d_setItem {H' : Hp} {Q : Unit -> Shared -> Prop} (hu : A.units + 1 < cLine) (I : Inv X pins σ H s) (g : DPut H a y v H') (ry : RelV y u) (rv : RelV v r) (h : ∀ s', Inv X pins σ H' s' -> Q () s') :
    wpAny (model X.prog X.w) A (setItem (.ref a) u r) Q E s := by
  rcases g with ⟨kvs, k, e, ey, l, eH⟩ | ⟨kvs, k, b, e, ey, eb, l, eH⟩
  · subst ey eH
    obtain ⟨z, hd, vs, rel, dd⟩ := dk_of I.hok e
    have hz : vs.length <= sizeLine := by rw [<- rel.length]; exact z
    have hl : (putK kvs k v).length <= sizeLine := by have := length_putK kvs k v; omega
    refine wpAny_setItem_pairs (hsz := hz) (kV_is ry) dd fun h' dd' hs => h _ ?_
    have he : ∃ q, h'.get? a = some q := let ⟨q, _, _, hq, _⟩ := dd'; ⟨q, hq⟩
    exact d_write I (by rw [e]; exact True.intro) hs he (dk_new hl hd (rel.put k rv) dd')
  · subst ey eH
    cases (show u = Value.ref b from ry)
    obtain ⟨z, hd, xs, rel, dd⟩ := dt_of I.hok e
    have hz : xs.length <= sizeLine := by rw [<- Paired.length rel]; exact z
    have hl : (putK kvs k v).length <= sizeLine := by have := length_putK kvs k v; omega
    refine wpAny_setItem_heap (hsz := hz) (tupleKind_room_in1 hu) (key_of I.hok eb) dd fun h' dd' hs => h _ ?_
    obtain ⟨q, es, ep, hq, h2, h3, h4, _, h5⟩ := dd'
    refine d_write I (by rw [e]; exact True.intro) hs ⟨q, hq⟩ ⟨hl, hd, _, (rel.put k eb rv).keeps fun c ys ec => ?_, q, es, ep, hq, h2, h3, h4, h5⟩
    rw [upd_ne (ne_of ec e (fun z => nomatch z))]
    exact ec
end

section
variable {X : Cx} {pins : List (Addr × Obj)} {σ : St} {H : Hp} {s : Shared} {a : Addr} {kvs : List (Key × V)} {k : Key} {u : Value} {A : Around} {E : Value -> Shared -> Prop}
end


def NoSl (i : Expr) : Prop := ∀ ov iv, subscripted i false ov iv = operate [ov, iv] (getItem ov iv)
theorem subD_of {prog : Program} {w : World} {A : Around} {E : Value -> Shared -> Prop} {s : Shared} {env : Env} {value slice : Expr} {pos : Pos} {T id : String} {Q : Value -> Shared -> Prop}
    (hl : typeLookup (.type T) "__getitem__" = pure (some (.builtin id))) (hs : NoSl slice)
    (h : wpAny (model prog w) A (eval value env) (fun o s₁ => wpAny (model prog w) A (eval slice env) (fun i s₂ => s₂.TypeIs o T /\ wpAny (model prog w) A (getItem o i) Q E s₂) E s₁) E s) :
    wpAny (model prog w) A (eval (.Subscript value slice pos) env) Q E s := by
  refine Subscript_ (wpAny_mono h (fun o s₁ h₁ => wpAny_mono h₁ (fun i s₂ h₂ => ?_) fun _ _ x => x) fun _ _ x => x)
  obtain ⟨hT, h₂⟩ := h₂
  unfold subscriptTail
  refine wpAny_bind ?_
  rw [getitemInPython_of_ne hT.not_modules]
  refine wpAny_bind (wpAny_specialOf hT hl ?_)
  have fin : wpAny (model prog w) A (subscripted slice false o i) (fun r s₃ => wpAny (model prog w) A (letTemporaryGo value o r >>= fun _ => pure r) Q E s₃) E s₂ := by
    rw [hs o i]
    exact wpAny_operating (wpAny_mono h₂ (fun r s₃ h₃ => wpAny_bind (wpAny_letTemporaryGo (wpAny_pure h₃))) fun _ _ x => x)
  first
    | exact wpAny_pure (wpAny_bind fin)
    | exact wpAny_bind (wpAny_pure (wpAny_bind fin))
    | exact wpAny_bind fin

theorem dict_typeIs {X : Cx} {pins : List (Addr × Obj)} {σ : St} {H : Hp} {s : Shared} {a : Addr} {y : V} {o : Option V} (I : Inv X pins σ H s) (g : DGet H a y o) : s.TypeIs (.ref a) "dict" := by
  rcases g with ⟨kvs, k, e, _, _⟩ | ⟨kvs, k, b, e, _, _, _⟩
  · obtain ⟨_, _, vs, _, dd⟩ := dk_rd I.hok e
    exact dd.typeIs
  · obtain ⟨_, _, xs, _, dd⟩ := dt_rd I.hok e
    exact dd.typeIs

inductive TDGetI (x : V) (y : V) (H2 : Hp) (Q : VK) : Prop where
  | mk (a : _) (v : _) (c1 : x = .ref a) (c2 : DGet H2 a y (some v)) (c3 : Q v H2)
def tDGet (td ty : TE) : TE := fun σ H Q => td σ H fun x H1 => ty σ H1 fun y H2 => TDGetI x y H2 Q
inductive TDNotInI (x : V) (y : V) (H2 : Hp) (Q : VK) : Prop where
  | mk (a : _) (o : _) (c1 : x = .ref a) (c2 : DGet H2 a y o) (c3 : Q (.bl (!o.isSome)) H2)
def tDNotIn (ty td : TE) : TE := fun σ H Q => ty σ H fun y H1 => td σ H1 fun x H2 => TDNotInI x y H2 Q
def sDPut (td ty tv : TE) : TS := fun D σ H => tv σ H fun v H1 => td σ H1 fun x H2 => ty σ H2 fun y H3 => ∃ a H4, x = .ref a /\ DPut H3 a y v H4 /\ D.nx σ H4

section
variable {X : Cx} {o i e value : Expr} {pos pos' tpos : Pos} {td ty tv : TE}
theorem pe_dget (hu : X.A.units + 1 < cLine) (ho : PE X o td) (hi : PE X i ty) (hs : NoSl i) : PE X (.Subscript o i pos) (tDGet td ty) := by
  intro pins s σ H Q I h
  refine subD_of PySem.F.slot_dict_getitem.lookup hs (thn (ho pins s σ H _ I h) fun u s1 ⟨x, H1, I1, rx, q1⟩ => thn (hi pins s1 σ H1 _ I1 q1) fun iv s2 ⟨y, H2, I2, ry, a, v, ex, g, q2⟩ => ?_)
  subst ex
  obtain rfl : u = Value.ref a := rx
  exact ⟨dict_typeIs I2 g, d_getItem hu I2 g ry fun w' s3 I3 rw' => ⟨v, H2, I3, rw', q2⟩⟩
theorem pc_dnotin (hu : X.A.units + 1 < cLine) (hi : PE X i ty) (ho : PE X o td) : PC X .NotIn i o (tDNotIn ty td) := by
  intro pins s σ H Q I h
  refine thn (hi pins s σ H _ I h) fun iv s1 ⟨y, H1, I1, ry, q1⟩ => thn (ho pins s1 σ H1 _ I1 q1) fun u s2 ⟨x, H2, I2, rx, a, ov, ex, g, q2⟩ => ?_
  subst ex
  obtain rfl : u = Value.ref a := rx
  exact d_notIn hu I2 g ry fun s3 I3 => ⟨.bl (!ov.isSome), H2, I3, rfl, q2⟩
theorem ps_dput (hu : X.A.units + 1 < cLine) (ho : PE X o td) (hi : PE X i ty) (hv : PE X value tv) (hs : swapsWith value (some (.Subscript o i pos')) pos.line X.env = pure false) :
    PS X (.Assign [.Subscript o i pos'] value pos) (sDPut td ty tv) := by
  intro pins s σ H D I h
  refine wpAny_Assign_Subscript (thn (hv pins s σ H _ I h) fun r s1 ⟨v, H1, I1, rv, q1⟩ => thn (ho pins s1 σ H1 _ I1 q1) fun u s2 ⟨x, H2, I2, rx, q2⟩ => thn (hi pins s2 σ H2 _ I2 q2) fun iv s3 ⟨y, H3, I3, ry, a, H4, ex, g, q3⟩ => ?_) hs
  subst ex
  obtain rfl : u = Value.ref a := rx
  exact d_setItem hu I3 g ry rv fun s4 I4 => ⟨σ, H4, I4, q3⟩
end


theorem dk_empty {P : Program} {w : World} {H : Hp} (h : Heap) (hb : sysModules < h.objs.size) : ObjOk P w H (h.push { cls := .type "dict", data := .dict #[] }) h.objs.size (.dK []) :=
  ⟨Nat.zero_le _, beq_eq_false_iff_ne.mpr (Ne.symm (Nat.ne_of_lt hb)), [], .nil, Heap.DictOf.new h⟩
def tDNewK : TE := fun _ H Q => ∀ p, H p = none -> Q (.ref p) (upd H p (.dK []))
section
variable {X : Cx} {pos : Pos}
theorem pe_dnewK : PE X (.Dict [] [] pos) tDNewK := fun pins s σ H Q I h =>
  wpAny_Dict_empty ⟨.ref s.heap.objs.size, _, I.laid (a := s.heap.objs.size) (o := .dK []) (t' := s.toks) (fun _ _ q => Heap.get?_push_of_some _ q) (Nat.le_refl _) (dk_empty s.heap I.big), rfl, h _ (I.hok.fresh (Nat.le_refl _))⟩
end




structure M1 (X : Cx) (o : Expr) (m : Str) (apos : Pos) (e : Expr) (cpos : Pos) : Prop where
  base : attributeBase o m X.env (eval o X.env) = eval o X.env
  few : ((backTo cpos (starEach [e] X.env)).all (fun x => !x.1) && (backToKw cpos (keywordEach [] X.env)).all (fun x => x.1.isSome)
    && decide (([e] : List Expr).length + ([] : List Keyword).length + (if ([] : List Keyword).isEmpty then 0 else 1) < 30)) = true
  line : (apos.endLine == cpos.line) = true
  trees : backTo cpos (starEach [e] X.env) = [(false, eval e X.env)]
structure M2 (X : Cx) (o : Expr) (m : Str) (apos : Pos) (e f : Expr) (cpos : Pos) : Prop where
  base : attributeBase o m X.env (eval o X.env) = eval o X.env
  few : ((backTo cpos (starEach [e, f] X.env)).all (fun x => !x.1) && (backToKw cpos (keywordEach [] X.env)).all (fun x => x.1.isSome)
    && decide (([e, f] : List Expr).length + ([] : List Keyword).length + (if ([] : List Keyword).isEmpty then 0 else 1) < 30)) = true
  line : (apos.endLine == cpos.line) = true
  trees : backTo cpos (starEach [e, f] X.env) = [(false, eval e X.env), (false, eval f X.env)]


section
variable {X : Cx} {pins : List (Addr × Obj)} {σ : St} {H : Hp} {s : Shared} {a : Addr} {y d : V} {u r : Value} {o : Option V} {A : Around} {E : Value -> Shared -> Prop}
end

section
variable {X : Cx} {o e f : Expr} {apos cpos : Pos} {td ty tx : TE}
end

section
variable {X : Cx} {pins : List (Addr × Obj)} {σ : St} {H : Hp} {s : Shared} {a : Addr} {kvs : List (Key × V)} {A : Around} {E : Value -> Shared -> Prop}
end


section
variable {X : Cx} {pins : List (Addr × Obj)} {σ : St} {H : Hp} {s : Shared} {a : Addr} {y : V} {u : Value} {A : Around} {E : Value -> Shared -> Prop}
end
end L2

namespace Att
open PySem PySem.W PySem.Calls PyProof.Rows

theorem ints_of_wellAll {P : Params} {h : Heap} : ∀ (ns : List Int) (vs : List Value), WellAll P h vs (ns.map WData.int) -> IntsAre vs ns := by
  intro ns
  induction ns with
  | nil =>
    intro vs w
    rw [List.map_nil] at w
    cases w
    exact .nil
  | cons n ns ih =>
    intro vs w
    rw [List.map_cons] at w
    cases w with
    | cons a b =>
      cases a
      exact .cons _ _ (ih _ b)

theorem script_of {l : OpenLaw} {n : Nat} (hn : l.most = some n) {P : Params} {h : Heap} {args : List WData} {vals : List Value}
    (hpre : l.row.toRowW.claim.pre args = true) (hwl : WellAll P h vals args) :
    ∃ a vs ns, vals = [Value.ref a] /\ args = [WData.list (ns.map WData.int)] /\ h.get? a = some { cls := .type "list", data := .seq vs.toArray } /\ IntsAre vs ns /\ ns.length <= n := by
  have hsh : WShape.hasAll [] args [.list .int] = true := (pre_splitW hpre).1
  have hc : l.pre.holds [] { args := args } = true := (pre_splitW hpre).2
  obtain ⟨d, r, rfl, h1, h2⟩ := hasAllW_cons hsh
  obtain rfl := hasAllW_nil h2
  obtain ⟨xs, rfl, h3⟩ := hasW_list h1
  obtain ⟨ns, rfl⟩ := items_int h3
  have hlen : ns.length <= n := by
    unfold OpenLaw.pre at hc
    have h4 : (WTm.not (.lt (.lit (.int (n : Int))) (.len (.arg 0)))).holds [] { args := [.list (ns.map .int)] } = true := by
      have h4 := (holds_andW hc).1
      rw [hn] at h4
      exact h4
    have h5 := condW_of h4 (w_not (w_lt w_lit (w_len_list (w_arg rfl))))
    rw [List.length_map] at h5
    refine Nat.le_of_not_lt fun q => ?_
    have q' : (n : Int) < ((ns.length : Nat) : Int) := by omega
    first
      | (rw [decide_eq_true q'] at h5; exact absurd h5 (by decide))
      | (simp at h5; omega)
  cases hwl with
  | cons w1 w2 =>
    cases w2
    cases w1 with
    | list ho hall => exact ⟨_, _, ns, rfl, rfl, ho, ints_of_wellAll ns _ hall, hlen⟩

theorem post_true (l : OpenLaw) (args : List WData) : l.row.toRowW.claim.post args (.bool true) args = true :=
  postW_of (r := l.row.toRowW) (X := (true == true))
    (show WShape.has [] (.bool true) .bool = true by first | rfl | decide | simp [WShape.has, WShape.arms, WShape.armsAll])
    (show (WTm.eq .res (.lit (.bool true))).value [] { args := args, res := some (.bool true), after := args } = some (.bool (true == true)) from w_eq_bool (w_res rfl) w_lit) rfl


theorem attach_call {l : OpenLaw} {n : Nat} {q : Program} {loose : List Str} {XP : (Str -> Option Value) -> Heap -> Prop} {YP : World -> Heap -> Prop} {d : DefRec}
    (hn : l.most = some n) (hdf : d.params.defaults = [])
    (call : ∀ (w : World) (s₀ s₁ : Shared) (mg mb : Str -> Option Value) (fa : Addr) (o : Obj) (pm cd doc : Value) (a : Addr) (vs : List Value) (ns : List Int),
      Ground q loose [] XP w s₀ mg mb s₁.heap -> YP w s₁.heap ->
      s₁.heap.get? fa = some o -> o.data = .func (docDef d.name d.params d.body d.scope pm cd doc) -> s₁.heap.CodeRec cd d.name -> mg d.name = some (.ref fa) ->
      s₁.heap.get? a = some { cls := .type "list", data := .seq vs.toArray } -> IntsAre vs ns -> ns.length <= n -> s₁.gens = #[] ->
      codeAny (model l.prog w) callerA (.call (.ref fa) ⟨[.ref a], []⟩) (fun r s' => r = .ok (.ret (.bool true)) /\ OldK s₁.heap s'.heap /\ s'.os = s₁.os /\ AllBare s'.gens) s₁) :
    WalkO q loose XP YP l.row.toRowW d [] (fun f vs => PySem.call f vs) := by
  intro w s₀ s₁ mg mb G Y fa o pm cd doc dV kV ho hd hcd hD hmg hg args vals as hpre hlay hrd hwl hlo
  obtain rfl : dV = .none := Dflts.none hD hdf
  obtain rfl : kV = .none := Dflts.noKw hD
  obtain ⟨a, vs, ns, rfl, rfl, hobj, hints, hlen⟩ := script_of hn hpre hwl
  refine enter_call (codeAny_mono (call w s₀ s₁ mg mb fa o pm cd doc a vs ns G Y ho (fd_plain hd) hcd hmg hobj hints hlen hg) fun r s' hq => ?_)
  obtain ⟨rfl, h2, h3, h4⟩ := hq
  exact ⟨.inl ⟨.bool true, .bool true, [], rfl, fun _ => rfl, .bool true, post_true l _, fun _ => ⟨List.Pairwise.nil, fun _ hm => (nomatch hm)⟩⟩, h2, h3, h4⟩


section
variable {prog : Program} {w : World} {A : Around} {E : Value -> Shared -> Prop} {s : Shared} {K : Frag}


theorem make_obj {R : Result -> Shared -> Prop} {C fI : Addr} {rest : List Value} {kw : List (Str × Value)}
    (X : K.In s.heap) (hm : makesIn K C = true) (hi : findIn K (.ref C) "__init__" = some (some (.ref fI))) (hf : isFn K (.ref fI) = true)
    (h : codeAny (model prog w) (A.under (.builtin "type.__call__" ⟨.ref C :: rest, kw⟩)) (.call (.ref fI) ⟨.ref (s.heap.objs.size + 1) :: rest, kw⟩) (InitBack (s.heap.objs.size + 1) R)
      { s with heap := (s.heap.push emptyDict).push (instObj C s.heap.objs.size) }) : codeAny (model prog w) A (.call (.ref C) ⟨rest, kw⟩) R s := by
  obtain ⟨hh, g, d, t, os⟩ := s
  exact make_core (makes_of X hm) (looks_findIn X hi) (fun self => bind_fn X self (beq_iff_eq.mp hf)) (.inl rfl) h

theorem get_field {x C : Addr} {ox : Obj} {es : List DictEntry} {n : Nat} {name : Str} {expr : Bool} {v : Value} {Q : Value -> Shared -> Prop}
    (X : K.In s.heap) (I : PySem.W.InstAt s.heap x ox C (some (dictOf es n))) (hg : plainGet K C name = true) (hh : hasDictIn K C = true) (ha : findIn K (.ref C) name = some none)
    (hl : getL name es = some (some v)) (hv : handedIn v = true) (h : Q v { s with toks := s.toks + 1 }) : wpAny (model prog w) A (getAttr (.ref x) name expr) Q E s :=
  get_value X I (plainGet_of hg).1 (findObj_own hh ha rfl hl) hv h


def ledger (h : Heap) (L d : Addr) : List (Addr × Obj) := (List.range h.objs.size).filterMap fun a => if a = L ∨ a = d then none else (h.get? a).map fun o => (a, o)

end
end Att

namespace L2
open PySem PySem.Spec PyProof.Rows

theorem vals_ints : ∀ {vs : List Value} {ns : List Int}, IntsAre vs ns -> Vals (ns.map V.int) vs
  | _, _, .nil => .nil
  | _, _, .cons n t h => .cons ⟨t, rfl⟩ (vals_ints h)


end L2

namespace L2
open PySem PySem.Spec PyProof.Rows


end L2



namespace L2
open PySem PySem.Spec PyProof.Rows

def inClass (s : Stmt) (j : Nat) : Stmt := match s with
  | .ClassDef _ _ _ body _ _ _ _ _ _ _ => body.getD j (.Pass ⟨0, 0, 0, 0⟩)
  | _ => .Pass ⟨0, 0, 0, 0⟩
def defArgs (s : Stmt) : Arguments := match s with
  | .FunctionDef _ a _ _ _ _ _ _ _ _ => a
  | _ => { posonlyargs := [], args := [], vararg := none, kwonlyargs := [], kw_defaults := [], kwarg := none, defaults := [] }
def defBody (s : Stmt) : List Stmt := match s with
  | .FunctionDef _ _ b _ _ _ _ _ _ _ => b
  | _ => []
def defScope (s : Stmt) : Scope := match s with
  | .FunctionDef _ _ _ _ _ _ sc _ _ _ => sc
  | _ => { kind := .function, names := [], isGenerator := false, isCoroutine := false }

abbrev CX0 : CXT := fun _ _ _ _ _ _ => False
abbrev E0 : XK := fun _ _ _ => False
theorem pass0 {X : Cx} : Passes CX0 X E0 := fun _ _ _ _ _ _ _ h => h.elim

structure Fun (K : PySem.W.Frag) (x qual : Str) (st : Stmt) (f : Addr) (fd : FuncData) : Prop where
  ex : ∃ (oc : Value) (od : Option Addr) (kV doc pm : Value) (an : Option Addr) (cdv ct : Value) (osl : Array (Option Value)),
    fd = PySem.W.fnOf x qual (defArgs st) (defBody st) (defScope st) .none kV doc pm an cdv ct /\ K.lookup f = some ⟨oc, od, .func fd, osl⟩ /\ PySem.W.codeIn K cdv qual = true
  kp : PySem.W.keepIn K (.ref f) = true
section
variable {P : Program} {w : World} {K : PySem.W.Frag} {mg : Str -> Option Value} {base : Heap}
theorem Fun.ok {x qual : Str} {st : Stmt} {f : Addr} {fd : FuncData} {N ps : List Str} {k : Nat} {sp : Sp} (F : Fun K x qual st f fd) (S : FnScope N ps (defScope st)) (len : ∀ vs H Q E, sp vs H Q E -> vs.length = ps.length)
    (hbody : ∀ (cdv : Value) (A : Around) (outer : List Env) (s : Shared) (H : Hp) (vs : List V) (Q : VK) (E : XK), Room k (A.deeper (envOfC qual (defScope st) s.heap.objs.size f cdv)) -> sp vs H Q E ->
      ∃ t, PSs (cxOf CX0 P w K mg base N qual (defScope st) f cdv A outer s H E).nox (defBody st) t /\ t { nx := fun _ H' => Q .non H', rt := Q } (start N vs) H) : FnOk P w K mg base CX0 (k + 1) f fd ps sp := by
  obtain ⟨oc, od, kV, doc, pm, an, cdv, ct, osl, rfl, lk, hcd⟩ := F.ex
  refine fn_of lk hcd S len fun A outer s H vs Q E hr hsp => ?_
  obtain ⟨t, h, q⟩ := hbody cdv A outer s H vs Q E hr hsp
  exact ⟨t, h.nox, q⟩
theorem Fun.binds {x qual : Str} {st : Stmt} {f : Addr} {fd : FuncData} {ps : List Str} (F : Fun K x qual st f fd)
    (h : ∀ (kV doc pm : Value) (an : Option Addr) (cdv ct : Value) (us : List Value), us.length = ps.length -> bindArgs (PySem.W.fnOf x qual (defArgs st) (defBody st) (defScope st) .none kV doc pm an cdv ct) ⟨us, []⟩ = pure (ps.zip us)) : Binds K fd ps [] := by
  obtain ⟨oc, od, kV, doc, pm, an, cdv, ct, osl, rfl, lk, hcd⟩ := F.ex
  exact .all (h kV doc pm an cdv ct)
theorem fun_mk {x qual : Str} {st : Stmt} {f : Addr} {oc : Value} {od an : Option Addr} {osl : Array (Option Value)} {kV doc pm cdv ct : Value} (l : K.lookup f = some ⟨oc, od, .func (PySem.W.fnOf x qual (defArgs st) (defBody st) (defScope st) .none kV doc pm an cdv ct), osl⟩)
    (c : PySem.W.codeIn K cdv qual = true) (k : PySem.W.keepIn K (.ref f) = true) : Fun K x qual st f (PySem.W.fnOf x qual (defArgs st) (defBody st) (defScope st) .none kV doc pm an cdv ct) := ⟨⟨oc, od, kV, doc, pm, an, cdv, ct, osl, rfl, l, c⟩, k⟩
end
theorem hu_of {A : Around} {k : Nat} (hr : Room k A) : A.units + 1 < cLine := Nat.lt_of_le_of_lt (Nat.add_le_add_left (by decide : 1 <= 64) _) hr.units

section
variable {X : Cx}
theorem pv (i : Nat) {x : Str} {pos : Pos} (hN : X.N[i]? = some x := by rfl) (hv : Vis X.env.scope x := by first | exact Or.inl rfl | exact Or.inr (Or.inl rfl) | exact Or.inr (Or.inr rfl)) (hd : (x == ("__debug__" : Str)) = false := by decide)
    (hcd : (x == ("__classdict__" : Str)) = false := by decide) : PE X (.Name x pos) (tVar i) := pe_var hN hv hd hcd
end

theorem iteF {A B : Prop} (h : B) : if false = true then A else B := by
  rw [if_neg Bool.false_ne_true]
  exact h
theorem iteT {A B : Prop} (h : A) : if true = true then A else B := by
  rw [if_pos rfl]
  exact h

def Same (H H' : Hp) : Prop := ∀ b o, H b = some o -> H' b = some o
theorem Same.refl (H : Hp) : Same H H := fun _ _ h => h
theorem Same.trans {H H1 H2 : Hp} (a : Same H H1) (b : Same H1 H2) : Same H H2 := fun c o h => b c o (a c o h)
theorem Same.free {H H' : Hp} (e : Same H H') {l : Addr} (h : H' l = Option.none) : H l = Option.none := by
  cases q : H l with
  | none => rfl
  | some o =>
    rw [e l o q] at h
    cases h
theorem Same.seq {K : PySem.W.Frag} {H H' : Hp} {a : Addr} {xs : List V} (e : Same H H') (h : SqL K H a xs) : SqL K H' a xs := by
  rcases h with (h | ⟨o, h⟩) | h
  · exact .inl (.inl (e _ _ h))
  · exact .inl (.inr ⟨o, e _ _ h⟩)
  · exact .inr h

section
variable {κ : Type} [DecidableEq κ]
theorem valV_not {kvs : List (κ × V)} {k : κ} (h : valV kvs k = none) : ¬ k ∈ kvs.map (·.1) := by
  intro m
  obtain ⟨p, hp, e⟩ := List.mem_map.mp m
  have q : (kvs.any fun kv => decide (kv.1 = k)) = true := List.any_eq_true.mpr ⟨p, hp, decide_eq_true e⟩
  rw [valV_any, h] at q
  exact absurd q (by simp)
theorem nd_snoc : ∀ {l : List κ} {k : κ}, l.Nodup -> ¬ k ∈ l -> (l ++ [k]).Nodup
  | [], k, _, _ => by simp
  | a :: r, k, h, hk => by
    obtain ⟨h1, h2⟩ := List.nodup_cons.mp h
    show (a :: (r ++ [k])).Nodup
    refine List.nodup_cons.mpr ⟨fun m => ?_, nd_snoc h2 fun m => hk (List.mem_cons.mpr (Or.inr m))⟩
    rcases List.mem_append.mp m with q | q
    · exact h1 q
    · exact hk (List.mem_cons.mpr (Or.inl (List.mem_singleton.mp q).symm))
theorem nd_putK {kvs : List (κ × V)} {k : κ} (v : V) (hn : (kvs.map (·.1)).Nodup) (h : valV kvs k = none) : ((putK kvs k v).map (·.1)).Nodup := by
  rw [putK_new v h, List.map_append]
  exact nd_snoc hn (valV_not h)
end
end L2

set_option maxHeartbeats 4000000
namespace NC

inductive T (W : Type) where
  | name (w : W)
  | place (n : Nat)
  | form (b : T W)
  | call (a b : T W)

variable {W : Type}

def T.size : T W -> Nat
  | .name _ => 1
  | .place _ => 1
  | .form b => b.size + 1
  | .call a b => a.size + b.size + 1
def T.deep : T W -> Nat
  | .name _ => 1
  | .place _ => 1
  | .form b => b.deep + 1
  | .call a b => max a.deep b.deep + 1
theorem T.deep_le : ∀ t : T W, t.deep <= t.size
  | .name _ => Nat.le_refl _
  | .place _ => Nat.le_refl _
  | .form b => Nat.succ_le_succ b.deep_le
  | .call a b => by
    have h1 := a.deep_le
    have h2 := b.deep_le
    simp only [T.deep, T.size]
    omega
theorem T.size_pos : ∀ t : T W, 1 <= t.size
  | .name _ => Nat.le_refl _
  | .place _ => Nat.le_refl _
  | .form b => by simp only [T.size]; omega
  | .call a b => by simp only [T.size]; omega

def T.isForm : T W -> Bool
  | .form _ => true
  | _ => false
def T.isSpot : T W -> Bool
  | .call a _ => a.isForm
  | _ => false
def T.spots : T W -> List (List Int)
  | .name _ => []
  | .place _ => []
  | .form b => b.spots.map (0 :: ·)
  | .call a b => (if a.isForm then [[]] else []) ++ (a.spots.map (0 :: ·) ++ b.spots.map (1 :: ·))

def under (p : List Int) (t : T W) : List (List Int) := t.spots.map (p ++ ·)
theorem under_nil (t : T W) : under [] t = t.spots := by
  unfold under
  rw [show (fun x : List Int => [] ++ x) = id from funext fun x => List.nil_append x, List.map_id]
theorem under_cons (p : List Int) (k : Int) (t : T W) : (t.spots.map (k :: ·)).map (p ++ ·) = under (p ++ [k]) t := by
  unfold under
  rw [List.map_map]
  refine List.map_congr_left fun x _ => ?_
  show p ++ k :: x = p ++ [k] ++ x
  simp
theorem under_form (p : List Int) (b : T W) : under p (.form b) = under (p ++ [0]) b := under_cons p 0 b
theorem under_call (p : List Int) (a b : T W) : under p (.call a b) = (if a.isForm then [p] else []) ++ (under (p ++ [0]) a ++ under (p ++ [1]) b) := by
  show List.map (p ++ ·) (T.spots (.call a b)) = _
  rw [T.spots, List.map_append, List.map_append, under_cons, under_cons]
  congr 1
  split <;> simp

theorem spots_len : ∀ t : T W, 3 * t.spots.length + 1 <= t.size
  | .name _ => by simp [T.spots, T.size]
  | .place _ => by simp [T.spots, T.size]
  | .form b => by
    have := spots_len b
    simp only [T.spots, T.size, List.length_map]
    omega
  | .call a b => by
    have h1 := spots_len a
    have h2 := spots_len b
    simp only [T.spots, T.size, List.length_append, List.length_map]
    cases a with
    | form c =>
      have h3 := spots_len c
      simp only [T.isForm, T.spots, T.size, List.length_map, if_true, List.length_cons, List.length_nil] at *
      omega
    | _ => simp only [T.isForm, Bool.false_eq_true, if_false, List.length_nil] <;> omega

def lex : List Int -> List Int -> Bool
  | [], [] => false
  | [], _ :: _ => true
  | _ :: _, [] => false
  | x :: xs, y :: ys => if x = y then lex xs ys else decide (x < y)
theorem lex_irrefl : ∀ a, lex a a = false
  | [] => rfl
  | x :: xs => by
    unfold lex
    rw [if_pos rfl]
    exact lex_irrefl xs
theorem lex_trans : ∀ {a b c : List Int}, lex a b = true -> lex b c = true -> lex a c = true
  | [], [], _, h, _ => by simp [lex] at h
  | [], _ :: _, [], _, h => by simp [lex] at h
  | [], _ :: _, _ :: _, _, _ => rfl
  | _ :: _, [], _, h, _ => by simp [lex] at h
  | _ :: _, _ :: _, [], _, h => by simp [lex] at h
  | x :: xs, y :: ys, z :: zs, h1, h2 => by
    unfold lex at h1 h2 ⊢
    by_cases e1 : x = y
    · subst e1
      rw [if_pos rfl] at h1
      by_cases e2 : x = z
      · subst e2
        rw [if_pos rfl] at h2 ⊢
        exact lex_trans h1 h2
      · rw [if_neg e2] at h2 ⊢
        exact h2
    · rw [if_neg e1] at h1
      by_cases e2 : y = z
      · subst e2
        rw [if_neg e1]
        exact h1
      · rw [if_neg e2] at h2
        have q1 := of_decide_eq_true h1
        have q2 := of_decide_eq_true h2
        rw [if_neg (by omega)]
        exact decide_eq_true (by omega)
theorem lex_total : ∀ {a b : List Int}, lex a b = false -> lex b a = false -> a = b
  | [], [], _, _ => rfl
  | [], _ :: _, h, _ => by simp [lex] at h
  | _ :: _, [], _, h => by simp [lex] at h
  | x :: xs, y :: ys, h1, h2 => by
    unfold lex at h1 h2
    by_cases e : x = y
    · subst e
      rw [if_pos rfl] at h1 h2
      rw [lex_total h1 h2]
    · rw [if_neg e] at h1
      rw [if_neg (Ne.symm e)] at h2
      have q1 := of_decide_eq_false h1
      have q2 := of_decide_eq_false h2
      omega
theorem lex_cons (k : Int) (a b : List Int) : lex (k :: a) (k :: b) = lex a b := by
  show (if k = k then lex a b else _) = _
  rw [if_pos rfl]

theorem spots_sorted : ∀ t : T W, t.spots.Pairwise (fun a b => lex a b = true)
  | .name _ => List.Pairwise.nil
  | .place _ => List.Pairwise.nil
  | .form b => by
    show (b.spots.map (0 :: ·)).Pairwise _
    rw [List.pairwise_map]
    exact (spots_sorted b).imp fun h => by rw [lex_cons]; exact h
  | .call a b => by
    show ((if a.isForm then [[]] else []) ++ (a.spots.map (0 :: ·) ++ b.spots.map (1 :: ·))).Pairwise _
    have hab : (a.spots.map (0 :: ·) ++ b.spots.map (1 :: ·)).Pairwise (fun a b => lex a b = true) := by
      rw [List.pairwise_append]
      refine ⟨?_, ?_, ?_⟩
      · rw [List.pairwise_map]
        exact (spots_sorted a).imp fun h => by rw [lex_cons]; exact h
      · rw [List.pairwise_map]
        exact (spots_sorted b).imp fun h => by rw [lex_cons]; exact h
      · intro x hx y hy
        obtain ⟨x', _, rfl⟩ := List.mem_map.mp hx
        obtain ⟨y', _, rfl⟩ := List.mem_map.mp hy
        rfl
    split
    · rw [List.singleton_append, List.pairwise_cons]
      refine ⟨fun y hy => ?_, hab⟩
      rcases List.mem_append.mp hy with h | h <;> (obtain ⟨y', _, rfl⟩ := List.mem_map.mp h; rfl)
    · exact hab

theorem same_of_sorted : ∀ {l₁ l₂ : List (List Int)}, l₁.Perm l₂ -> l₁.Pairwise (fun a b => lex a b = true) -> l₂.Pairwise (fun a b => lex b a = false) -> l₁ = l₂
  | [], l₂, p, _, _ => (List.nil_perm.mp p).symm
  | x :: xs, [], p, _, _ => absurd p.length_eq (by simp)
  | x :: xs, y :: ys, p, h1, h2 => by
    have h1' := List.pairwise_cons.mp h1
    have h2' := List.pairwise_cons.mp h2
    have e : x = y := by
      have hy : y ∈ x :: xs := p.mem_iff.mpr List.mem_cons_self
      have hx : x ∈ y :: ys := p.mem_iff.mp List.mem_cons_self
      rcases List.mem_cons.mp hy with q | q
      · exact q.symm
      · rcases List.mem_cons.mp hx with r | r
        · exact r
        · have a1 := h1'.1 y q
          have a2 := h2'.1 x r
          rw [a1] at a2
          cases a2
    subst e
    rw [same_of_sorted (List.Perm.cons_inv p) h1'.2 h2'.2]

theorem lex_negTrans {a b c : List Int} (h : lex a c = true) : lex a b = true ∨ lex b c = true := by
  cases e1 : lex a b with
  | true => exact .inl rfl
  | false =>
    cases e2 : lex b c with
    | true => exact .inr rfl
    | false =>
      exfalso
      cases e3 : lex b a with
      | true => rw [lex_trans e3 h] at e2; cases e2
      | false =>
        have e := lex_total e1 e3
        subst e
        rw [h] at e2; cases e2

end NC
namespace NC
variable {W : Type}
def T.parts : Nat -> T W -> List (T W × Nat)
  | k, .name w => [(.name w, k)]
  | k, .place n => [(.place n, k)]
  | k, .form b => (.form b, k) :: b.parts (k + 1)
  | k, .call a b => (.call a b, k) :: (a.parts k ++ b.parts k)
def T.lparts : Nat -> T W -> List (T W × Nat)
  | k, .name w => [(.name w, k)]
  | k, .place n => [(.place n, k)]
  | k, .form b => (.form b, k) :: b.lparts (k + 1)
  | k, .call a b => (.call a b, k) :: (b.lparts k ++ a.lparts k)
theorem parts_len : ∀ (t : T W) (k : Nat), (t.parts k).length = t.size
  | .name _, _ => rfl
  | .place _, _ => rfl
  | .form b, k => by show (b.parts (k + 1)).length + 1 = _; rw [parts_len b]; rfl
  | .call a b, k => by show (a.parts k ++ b.parts k).length + 1 = _; rw [List.length_append, parts_len a, parts_len b]; rfl
theorem lparts_len : ∀ (t : T W) (k : Nat), (t.lparts k).length = t.size
  | .name _, _ => rfl
  | .place _, _ => rfl
  | .form b, k => by show (b.lparts (k + 1)).length + 1 = _; rw [lparts_len b]; rfl
  | .call a b, k => by show (b.lparts k ++ a.lparts k).length + 1 = _; rw [List.length_append, lparts_len a, lparts_len b, Nat.add_comm b.size]; rfl
theorem parts_le : ∀ (t : T W) (k : Nat), ∀ q ∈ t.parts k, q.2 <= k + t.size
  | .name _, k, q, h => by rw [List.mem_singleton.mp h]; exact Nat.le_add_right _ _
  | .place _, k, q, h => by rw [List.mem_singleton.mp h]; exact Nat.le_add_right _ _
  | .form b, k, q, h => by
    rcases List.mem_cons.mp h with e | h
    · rw [e]; exact Nat.le_add_right _ _
    · have := parts_le b (k + 1) q h
      show q.2 <= k + (b.size + 1)
      omega
  | .call a b, k, q, h => by
    show q.2 <= k + (a.size + b.size + 1)
    rcases List.mem_cons.mp h with e | h
    · rw [e]; exact Nat.le_add_right _ _
    · rcases List.mem_append.mp h with h | h
      · have := parts_le a k q h
        omega
      · have := parts_le b k q h
        omega
def T.rebuild (g : T W -> Nat -> T W) : Nat -> T W -> T W
  | k, .name w => g (.name w) k
  | k, .place n => g (.place n) k
  | k, .form b => .form (b.rebuild g (k + 1))
  | k, .call a b => .call (a.rebuild g k) (b.rebuild g k)
def run1 (g : T W -> Nat -> T W) : List (T W × Nat) -> List (T W) -> Option (List (T W))
  | [], S => some S
  | (.name w, k) :: ys, S => run1 g ys (g (.name w) k :: S)
  | (.place n, k) :: ys, S => run1 g ys (g (.place n) k :: S)
  | (.form _, _) :: ys, x :: S => run1 g ys (.form x :: S)
  | (.call _ _, _) :: ys, x :: y :: S => run1 g ys (.call x y :: S)
  | _, _ => none
def run2 (g : T W -> Nat -> T W) : List (T W × Nat) -> List (T W) -> Option (List (T W))
  | [], S => some S
  | (.name w, k) :: ys, S => run2 g ys (g (.name w) k :: S)
  | (.place n, k) :: ys, S => run2 g ys (g (.place n) k :: S)
  | (.form _, _) :: ys, x :: S => run2 g ys (.form x :: S)
  | (.call _ _, _) :: ys, x :: y :: S => run2 g ys (.call y x :: S)
  | _, _ => none
section
variable {g : T W -> Nat -> T W}
theorem run1_parts : ∀ (t : T W) (k : Nat) (ys : List (T W × Nat)) (S : List (T W)), run1 g ((t.parts k).reverse ++ ys) S = run1 g ys (t.rebuild g k :: S)
  | .name _, _, _, _ => rfl
  | .place _, _, _, _ => rfl
  | .form b, k, ys, S => by
    show run1 g (((.form b, k) :: b.parts (k + 1)).reverse ++ ys) S = _
    rw [List.reverse_cons, List.append_assoc, run1_parts b]
    rfl
  | .call a b, k, ys, S => by
    show run1 g (((.call a b, k) :: (a.parts k ++ b.parts k)).reverse ++ ys) S = _
    rw [List.reverse_cons, List.reverse_append, List.append_assoc, List.append_assoc, run1_parts b, run1_parts a]
    rfl
theorem run2_parts : ∀ (t : T W) (k : Nat) (ys : List (T W × Nat)) (S : List (T W)), run2 g ((t.lparts k).reverse ++ ys) S = run2 g ys (t.rebuild g k :: S)
  | .name _, _, _, _ => rfl
  | .place _, _, _, _ => rfl
  | .form b, k, ys, S => by
    show run2 g (((.form b, k) :: b.lparts (k + 1)).reverse ++ ys) S = _
    rw [List.reverse_cons, List.append_assoc, run2_parts b]
    rfl
  | .call a b, k, ys, S => by
    show run2 g (((.call a b, k) :: (b.lparts k ++ a.lparts k)).reverse ++ ys) S = _
    rw [List.reverse_cons, List.reverse_append, List.append_assoc, List.append_assoc, run2_parts a, run2_parts b]
    rfl
theorem run1_all (t : T W) : run1 g (t.parts 0).reverse [] = some [t.rebuild g 0] := by
  have := run1_parts (g := g) t 0 [] []
  rw [List.append_nil] at this
  rw [this]
  rfl
theorem run2_all (t : T W) : run2 g (t.lparts 0).reverse [] = some [t.rebuild g 0] := by
  have := run2_parts (g := g) t 0 [] []
  rw [List.append_nil] at this
  rw [this]
  rfl
theorem run1_form {b : T W} {k : Nat} {ys : List (T W × Nat)} {S r : List (T W)} (h : run1 g ((.form b, k) :: ys) S = some r) : ∃ x S', S = x :: S' /\ run1 g ys (.form x :: S') = some r := by
  cases S with
  | nil => cases h
  | cons x S => exact ⟨x, S, rfl, h⟩
theorem run1_call {a b : T W} {k : Nat} {ys : List (T W × Nat)} {S r : List (T W)} (h : run1 g ((.call a b, k) :: ys) S = some r) : ∃ x y S', S = x :: y :: S' /\ run1 g ys (.call x y :: S') = some r := by
  cases S with
  | nil => cases h
  | cons x S =>
    cases S with
    | nil => cases h
    | cons y S => exact ⟨x, y, S, rfl, h⟩
theorem run2_form {b : T W} {k : Nat} {ys : List (T W × Nat)} {S r : List (T W)} (h : run2 g ((.form b, k) :: ys) S = some r) : ∃ x S', S = x :: S' /\ run2 g ys (.form x :: S') = some r := by
  cases S with
  | nil => cases h
  | cons x S => exact ⟨x, S, rfl, h⟩
theorem run2_call {a b : T W} {k : Nat} {ys : List (T W × Nat)} {S r : List (T W)} (h : run2 g ((.call a b, k) :: ys) S = some r) : ∃ x y S', S = x :: y :: S' /\ run2 g ys (.call y x :: S') = some r := by
  cases S with
  | nil => cases h
  | cons x S =>
    cases S with
    | nil => cases h
    | cons y S => exact ⟨x, y, S, rfl, h⟩
end
def liftG (by_ : Nat) : T W -> Nat -> T W
  | .place n, k => if k <= n then .place (n + by_) else .place n
  | t, _ => t
def T.lift (by_ : Nat) (t : T W) : T W := t.rebuild (liftG by_) 0
def fillG (u : T W) : T W -> Nat -> T W
  | .place n, k => if n < k then .place n else if n = k then u.lift k else .place (n - 1)
  | t, _ => t
def T.fill (t u : T W) : T W := t.rebuild (fillG u) 0
theorem liftG_zero : ∀ (t : T W) (k : Nat), liftG 0 t k = t
  | .name _, _ => rfl
  | .place n, k => by show (if k <= n then T.place (n + 0) else T.place n : T W) = _; split <;> rfl
  | .form _, _ => rfl
  | .call _ _, _ => rfl
theorem rebuild_id {g : T W -> Nat -> T W} (h : ∀ t k, g t k = t) : ∀ (t : T W) (k : Nat), t.rebuild g k = t
  | .name _, _ => h _ _
  | .place _, _ => h _ _
  | .form b, k => by show T.form _ = _; rw [rebuild_id h b]
  | .call a b, k => by show T.call _ _ = _; rw [rebuild_id h a, rebuild_id h b]
theorem lift_zero (t : T W) : t.lift 0 = t := rebuild_id liftG_zero t 0
theorem lift_deep (m : Nat) : ∀ (t : T W) (k : Nat), (t.rebuild (liftG m) k).deep = t.deep
  | .name _, _ => rfl
  | .place n, k => by show (if k <= n then T.place (n + m) else T.place n : T W).deep = _; split <;> rfl
  | .form b, k => by show (b.rebuild (liftG m) (k + 1)).deep + 1 = _; rw [lift_deep m b]; rfl
  | .call a b, k => by show max (a.rebuild (liftG m) k).deep (b.rebuild (liftG m) k).deep + 1 = _; rw [lift_deep m a, lift_deep m b]; rfl
theorem fill_deep (u : T W) : ∀ (t : T W) (k : Nat), (t.rebuild (fillG u) k).deep <= t.deep + u.deep
  | .name _, _ => Nat.le_add_right 1 _
  | .place n, k => by
    show (if n < k then T.place n else if n = k then u.lift k else T.place (n - 1) : T W).deep <= 1 + _
    split
    · exact Nat.le_add_right 1 _
    · split
      · rw [show (u.lift k).deep = u.deep from lift_deep k u 0]; omega
      · exact Nat.le_add_right 1 _
  | .form b, k => by
    show (b.rebuild (fillG u) (k + 1)).deep + 1 <= b.deep + 1 + _
    have := fill_deep u b (k + 1)
    omega
  | .call a b, k => by
    show max (a.rebuild (fillG u) k).deep (b.rebuild (fillG u) k).deep + 1 <= max a.deep b.deep + 1 + _
    have h1 := fill_deep u a k
    have h2 := fill_deep u b k
    omega
theorem lift_size (m : Nat) : ∀ (t : T W) (k : Nat), (t.rebuild (liftG m) k).size = t.size
  | .name _, _ => rfl
  | .place n, k => by show (if k <= n then T.place (n + m) else T.place n : T W).size = _; split <;> rfl
  | .form b, k => by show (b.rebuild (liftG m) (k + 1)).size + 1 = _; rw [lift_size m b]; rfl
  | .call a b, k => by show (a.rebuild (liftG m) k).size + (b.rebuild (liftG m) k).size + 1 = _; rw [lift_size m a, lift_size m b]; rfl
theorem fill_size (u : T W) : ∀ (t : T W) (k : Nat), (t.rebuild (fillG u) k).size <= t.size * u.size
  | .name _, _ => by show 1 <= 1 * u.size; have := u.size_pos; omega
  | .place n, k => by
    have := u.size_pos
    show (if n < k then T.place n else if n = k then u.lift k else T.place (n - 1) : T W).size <= 1 * u.size
    split
    · show 1 <= _; omega
    · split
      · rw [show (u.lift k).size = u.size from lift_size k u 0]; omega
      · show 1 <= _; omega
  | .form b, k => by
    show (b.rebuild (fillG u) (k + 1)).size + 1 <= (b.size + 1) * u.size
    have h1 := fill_size u b (k + 1)
    have := u.size_pos
    rw [Nat.add_mul]
    omega
  | .call a b, k => by
    show (a.rebuild (fillG u) k).size + (b.rebuild (fillG u) k).size + 1 <= (a.size + b.size + 1) * u.size
    have h1 := fill_size u a k
    have h2 := fill_size u b k
    have := u.size_pos
    rw [Nat.add_mul, Nat.add_mul]
    omega
end NC
namespace NC
open PySem PyProof.Rows PySem.SeqAt
open PySem.AutoSeq1 (wpAny_loadPart')
open PySem.MeetsSeq PySem.MeetsSeq2 PySem.MeetsSeq3
theorem ints_get : ∀ {vs : List Value} {ns : List Int} {i : Nat}, IntsAre vs ns -> i < vs.length -> ∃ n t, vs[i]? = some (.int n t) /\ ns[i]? = some n
  | _, _, _, .nil, h => by simp at h
  | _, _, 0, .cons n t _, _ => ⟨n, t, rfl, rfl⟩
  | _, _, i + 1, .cons n t r, h => by
    obtain ⟨n', t', h1, h2⟩ := ints_get (i := i) r (by simpa using h)
    exact ⟨n', t', by simpa using h1, by simpa using h2⟩
theorem lex_end {ns ms : List Int} {i : Nat} (h : ns.length <= i ∨ ms.length <= i) (hi : i <= ns.length) (hj : i <= ms.length) : lex (ns.drop i) (ms.drop i) = decide (ns.length < ms.length) := by
  rcases Nat.lt_or_ge i ns.length with h1 | h1
  · have e2 : ms.drop i = [] := List.drop_of_length_le (by omega)
    rw [e2, List.drop_eq_getElem_cons h1]
    exact (decide_eq_false (by omega)).symm
  · have e1 : ns.drop i = [] := List.drop_of_length_le h1
    rw [e1]
    rcases Nat.lt_or_ge i ms.length with h2 | h2
    · rw [List.drop_eq_getElem_cons h2]
      exact (decide_eq_true (by omega)).symm
    · rw [List.drop_of_length_le h2]
      exact (decide_eq_false (by omega)).symm
theorem lt_loop (l b : Addr) (xs ys : Array Value) (n n2 : Nat) (dd dd2 : Option Addr) (sl sl2 : Array (Option Value)) (ns ms : List Int) (hx : IntsAre xs.toList ns) (hy : IntsAre ys.toList ms) (k : Nat) :
    ∀ i : Nat, xs.size - i = k -> i <= xs.size -> i <= ys.size -> Meets (Builtin.«list.__eq__.loop» ⟨[.ref l, .ref b, rawInt i, rawInt 0], []⟩)
      (fun _ R s => s.heap.get? l = some { cls := .type "list", dict := dd, data := .seq xs n, slots := sl } /\ s.heap.get? b = some { cls := .type "list", dict := dd2, data := .seq ys n2, slots := sl2 } /\
        R (.ok (.ret (.bool (lex (ns.drop i) (ms.drop i))))) s) := by
  have zx : xs.size = ns.length := by rw [<- hx.length]; simp
  have zy : ys.size = ms.length := by rw [<- hy.length]; simp
  have stop : ∀ i : Nat, (xs.size <= i ∨ ys.size <= i) -> i <= xs.size -> i <= ys.size -> Meets (Builtin.«list.__eq__.loop» ⟨[.ref l, .ref b, rawInt i, rawInt 0], []⟩)
      (fun _ R s => s.heap.get? l = some { cls := .type "list", dict := dd, data := .seq xs n, slots := sl } /\ s.heap.get? b = some { cls := .type "list", dict := dd2, data := .seq ys n2, slots := sl2 } /\
        R (.ok (.ret (.bool (lex (ns.drop i) (ms.drop i))))) s) := by
    intro i ho h1 h2 prog w A R s h
    obtain ⟨hp, g, d, tk, os⟩ := s
    obtain ⟨hl, hb, h⟩ := h
    rw [lex_end (by omega) (by omega) (by omega)] at h
    wp_walk using wpAny_loadPart' hl, wpAny_loadPart' hb
    by_cases q : xs.size <= i
    · have e1 : xs[((i : Nat) : Int).toNat]? = none := by simp; omega
      rw [e1]
      wp_walk using wpAny_loadPart' hl, wpAny_loadPart' hb
      show R (.ok (.ret (.bool (decide (xs.size < ys.size))))) _
      rw [zx, zy]
      exact h
    · have hlt : i < xs.size := by omega
      have e1 : xs[((i : Nat) : Int).toNat]? = some xs[i] := by simp [hlt]
      have e2 : ys[((i : Nat) : Int).toNat]? = none := by simp; omega
      rw [e1, e2]
      wp_walk using wpAny_loadPart' hl, wpAny_loadPart' hb
      show R (.ok (.ret (.bool (decide (xs.size < ys.size))))) _
      rw [zx, zy]
      exact h
  induction k with
  | zero =>
    intro i hk h1 h2
    exact stop i (by omega) h1 h2
  | succ k ih =>
    intro i hk h1 h2
    by_cases q : ys.size <= i
    · exact stop i (.inr q) h1 h2
    · intro prog w A R s h
      obtain ⟨hp, g, d, tk, os⟩ := s
      obtain ⟨hl, hb, h⟩ := h
      have hlt : i < xs.size := by omega
      have hlt2 : i < ys.size := by omega
      obtain ⟨c, t, ec, en⟩ := ints_get (i := i) hx (by simpa using hlt)
      obtain ⟨c2, t2, ec2, en2⟩ := ints_get (i := i) hy (by simpa using hlt2)
      have e1 : xs[((i : Nat) : Int).toNat]? = some (.int c t) := by rw [<- ec]; simp
      have e2 : ys[((i : Nat) : Int).toNat]? = some (.int c2 t2) := by rw [<- ec2]; simp
      have dn : ns.drop i = c :: ns.drop (i + 1) := by
        rw [List.drop_eq_getElem_cons (by omega)]
        congr 1
        exact (List.getElem?_eq_some_iff.mp en).2
      have dm : ms.drop i = c2 :: ms.drop (i + 1) := by
        rw [List.drop_eq_getElem_cons (by omega)]
        congr 1
        exact (List.getElem?_eq_some_iff.mp en2).2
      rw [dn, dm, show lex (c :: ns.drop (i + 1)) (c2 :: ms.drop (i + 1)) = if c = c2 then lex (ns.drop (i + 1)) (ms.drop (i + 1)) else decide (c < c2) from rfl] at h
      have hc : ((i : Int) + 1) = ((i + 1 : Nat) : Int) := by push_cast; rfl
      wp_walk using wpAny_loadPart' hl, wpAny_loadPart' hb
      rw [e1, e2]
      refine wpAny_bind (EqAt.int_int (A := A.in1) (s := ⟨hp, g, d, tk, os⟩) c t c2 t2 prog w _ _ ?_)
      by_cases hcc : c = c2
      · rw [if_pos hcc] at h
        rw [show (c == c2) = true by simp [hcc]]
        wp_walk
        rw [hc]
        exact ⟨plainId_quiet plain_eq_loop _, codeAny_builtin entry_eq_loop (by
          rw [Around.under_plainId plain_eq_loop _]
          exact ih (i + 1) (by omega) (by omega) (by omega) prog w A R _ ⟨hl, hb, h⟩)⟩
      · rw [if_neg hcc] at h
        rw [show (c == c2) = false by simp [hcc]]
        have hri : ∀ (E : Value -> Shared -> Prop) (Q : Value -> Shared -> Prop), Q (.bool (decide (c < c2))) ⟨hp, g, d, tk, os⟩ -> wpAny (model prog w) A.in1 (richCompare .Lt (.int c t) (.int c2 t2)) Q E ⟨hp, g, d, tk, os⟩ :=
          fun E Q hq => (PyProof.Rows.lt_int hq : wpAny (model prog w) A.in1 (compareOp .Lt (.int c t) (.int c2 t2)) Q E ⟨hp, g, d, tk, os⟩)
        wp_walk using wpAny_loadPart' hl, wpAny_loadPart' hb
        rw [e1, e2]
        wp_walk using hri
        exact h
theorem list_lt (l b : Addr) (xs ys : Array Value) (n n2 : Nat) (dd dd2 : Option Addr) (sl sl2 : Array (Option Value)) (ns ms : List Int) (hx : IntsAre xs.toList ns) (hy : IntsAre ys.toList ms) :
    Meets (Builtin.«list.__lt__» ⟨[.ref l, .ref b], []⟩)
      (fun _ R s => s.heap.get? l = some { cls := .type "list", dict := dd, data := .seq xs n, slots := sl } /\ s.heap.get? b = some { cls := .type "list", dict := dd2, data := .seq ys n2, slots := sl2 } /\
        R (.ok (.ret (.bool (lex ns ms)))) s) := by
  intro prog w A R s h
  obtain ⟨hp, g, d, tk, os⟩ := s
  obtain ⟨hl, hb, h⟩ := h
  have f3 := AutoSeq1.sub_list_list
  wp_walk using wpAny_loadPart' hl, wpAny_loadPart' hb
  exact ⟨plainId_quiet plain_eq_loop _, codeAny_builtin entry_eq_loop (by
    rw [Around.under_plainId plain_eq_loop _]
    exact lt_loop l b xs ys n n2 dd dd2 sl sl2 ns ms hx hy _ 0 rfl (Nat.zero_le _) (Nat.zero_le _) prog w A R _ ⟨hl, hb, by simpa using h⟩)⟩
end NC
namespace NC
open PySem PySem.W PyProof.Rows
section
variable {α β : Type} {n : Nat} {lt : Nat -> Nat -> Bool}
def KOk (n : Nat) (lt : Nat -> Nat -> Bool) {α : Type} : KasT α -> (α -> Prop) -> Prop
  | .ret a, R => R a
  | .ask i j k, R => i < n /\ j < n /\ KOk n lt (k (lt i j)) R
theorem KOk.mono {R R' : α -> Prop} (m : ∀ a, R a -> R' a) : ∀ {t : KasT α}, KOk n lt t R -> KOk n lt t R'
  | .ret a, h => m a h
  | .ask _ _ k, h => ⟨h.1, h.2.1, KOk.mono m (t := k _) h.2.2⟩
theorem KOk.bind {f : α -> KasT β} {R : β -> Prop} : ∀ {t : KasT α}, KOk n lt t (fun a => KOk n lt (f a) R) -> KOk n lt (t.bind f) R
  | .ret _, h => h
  | .ask _ _ k, h => ⟨h.1, h.2.1, KOk.bind (t := k _) h.2.2⟩
end
section
variable (key : Nat -> List Int)
def Kp (p : Array Nat) (i : Nat) : List Int := key (p.getD i 0)
def le' (a b : List Int) : Prop := lex b a = false
theorem le'_refl (a : List Int) : le' a a := lex_irrefl a
theorem le'_of_lt {a b : List Int} (h : lex a b = true) : le' a b := by
  unfold le'
  cases e : lex b a with
  | false => rfl
  | true =>
    have := lex_trans h e
    rw [lex_irrefl] at this
    cases this
theorem le'_trans {a b c : List Int} (h1 : le' a b) (h2 : le' b c) : le' a c := by
  unfold le' at *
  cases e : lex c a with
  | false => rfl
  | true =>
    rcases lex_negTrans (b := b) e with q | q
    · rw [h2] at q; cases q
    · rw [h1] at q; cases q
theorem le'_anti {a b : List Int} (h1 : le' a b) (h2 : le' b a) : a = b := lex_total h2 h1
theorem lt_le' {a b c : List Int} (h1 : lex a b = true) (h2 : le' b c) : lex a c = true := by
  rcases lex_negTrans (b := c) h1 with q | q
  · exact q
  · have h2' : lex c b = false := h2
    rw [h2'] at q; cases q
variable {key}
def Up (key : Nat -> List Int) (p : Array Nat) (m : Nat) : Prop := ∀ i j, i <= j -> j < m -> le' (Kp key p i) (Kp key p j)
def Dn (key : Nat -> List Int) (p : Array Nat) (m : Nat) : Prop := ∀ i j, i <= j -> j < m -> le' (Kp key p j) (Kp key p i)
variable {n : Nat} {p : Array Nat}
structure Pm (n : Nat) (p : Array Nat) : Prop where
  perm : p.Perm (List.toArray (List.range n))
theorem Pm.size (h : Pm n p) : p.size = n := by rw [h.perm.size_eq]; simp
theorem Pm.lt (h : Pm n p) {i : Nat} (hi : i < n) : p.getD i 0 < n := by
  have hi' : i < p.size := by rw [h.size]; exact hi
  have e : p.getD i 0 = p[i] := by simp [Array.getD, hi']
  rw [e]
  have m : p[i] ∈ (List.range n) := (Array.perm_iff_toList_perm.mp h.perm).mem_iff.mp (by simp)
  exact List.mem_range.mp m
theorem Pm.rev (h : Pm n p) (i j : Nat) : Pm n (kas_rev p i j) := ⟨(mirror_perm _ _ _ _).trans h.perm⟩
theorem Pm.bub (h : Pm n p) (i j : Nat) : Pm n (bubble p i j) := ⟨(bubble_perm _ _ _).trans h.perm⟩
theorem getD_of {x y : Array Nat} {i j : Nat} (h : x[i]? = y[j]?) : x.getD i 0 = y.getD j 0 := by
  rw [Array.getD_eq_getD_getElem?, Array.getD_eq_getD_getElem?, h]
theorem Kp_rev {i j : Nat} (hj : j <= p.size) (k : Nat) : Kp key (kas_rev p i j) k = if i <= k /\ k < j then Kp key p (i + j - 1 - k) else Kp key p k := by
  have e := getElem?_mirror_all (xs := p) (i := i) hj k
  unfold Kp kas_rev
  split
  · rename_i c; rw [if_pos c] at e; exact congrArg key (getD_of e)
  · rename_i c; rw [if_neg c] at e; exact congrArg key (getD_of e)
theorem Kp_rev_eq {i j : Nat} (hj : j <= p.size) (he : ∀ k, i <= k -> k < j -> Kp key p k = Kp key p (j - 1)) (k : Nat) : Kp key (kas_rev p i j) k = Kp key p k := by
  rw [Kp_rev hj]
  split
  · rw [he _ (by omega) (by omega), he k (by omega) (by omega)]
  · rfl
theorem Kp_bub {src d : Nat} (hs : src < p.size) (hd : d <= src) (k : Nat) :
    Kp key (bubble p src d) k = if k = src - d then Kp key p src else if src - d < k /\ k <= src then Kp key p (k - 1) else Kp key p k := by
  have e := getElem?_bubble hs d hd k
  by_cases c : k = src - d
  · rw [if_pos c] at e ⊢; exact congrArg key (getD_of e)
  · rw [if_neg c] at e ⊢
    by_cases c2 : src - d < k /\ k <= src
    · rw [if_pos c2] at e ⊢; exact congrArg key (getD_of e)
    · rw [if_neg c2] at e ⊢; exact congrArg key (getD_of e)
def ltK (key : Nat -> List Int) (i j : Nat) : Bool := lex (key i) (key j)
theorem up_one : Up key p 1 := fun i j h1 h2 => by
  have e : i = j := by omega
  rw [e]; exact le'_refl _
theorem up_next {x : Nat} (h : Up key p x) (h1 : le' (Kp key p (x - 1)) (Kp key p x)) : Up key p (x + 1) := fun i j hij hj => by
  by_cases hjx : j < x
  · exact h i j hij hjx
  · have e : j = x := by omega
    subst e
    by_cases hi : i = j
    · rw [hi]; exact le'_refl _
    · exact le'_trans (h i (j - 1) (by omega) (by omega)) h1
theorem dn_next {x : Nat} (h : Dn key p x) (h1 : le' (Kp key p x) (Kp key p (x - 1))) : Dn key p (x + 1) := fun i j hij hj => by
  by_cases hjx : j < x
  · exact h i j hij hjx
  · have e : j = x := by omega
    subst e
    by_cases hi : i = j
    · rw [hi]; exact le'_refl _
    · exact le'_trans h1 (h i (j - 1) (by omega) (by omega))
theorem dn_eq {p' : Array Nat} {x : Nat} (h : Dn key p x) (e : ∀ k, Kp key p' k = Kp key p k) : Dn key p' x := fun i j hij hj => by rw [e, e]; exact h i j hij hj

theorem k_asc (hp : Pm n p) : ∀ (f m : Nat), 1 <= m -> m + f <= n -> Up key p m ->
    KOk n (ltK key) (kas_asc p f m) (fun x => m <= x /\ x <= m + f /\ Up key p x /\ (x = m + f ∨ lex (Kp key p x) (Kp key p (x - 1)) = true))
  | 0, m, h1, h2, h3 => ⟨Nat.le_refl _, Nat.le_refl _, h3, .inl rfl⟩
  | f + 1, m, h1, h2, h3 => by
    refine ⟨hp.lt (by omega), hp.lt (by omega), ?_⟩
    show KOk n (ltK key) (if lex (Kp key p m) (Kp key p (m - 1)) = true then _ else _) _
    cases e : lex (Kp key p m) (Kp key p (m - 1)) with
    | true => exact ⟨Nat.le_refl _, by omega, h3, .inr e⟩
    | false =>
      refine KOk.mono (fun x hx => ?_) (k_asc hp f (m + 1) (by omega) (by omega) (up_next h3 e))
      exact ⟨by omega, by omega, hx.2.2.1, hx.2.2.2.imp (fun q => by omega) fun q => q⟩
theorem k_tail3 {m nrem : Nat} (hp : Pm n p) (hn : nrem <= n) (h1 : 1 <= m) (h2 : m <= nrem) (hs : Dn key p m) :
    KOk n (ltK key) (kas_tail3 m nrem p) (fun r => Pm n r.2 /\ 1 <= r.1 /\ r.1 <= nrem /\ Up key r.2 r.1) := by
  refine KOk.bind (KOk.mono (fun x hx => ?_) (k_asc (hp.rev 0 m) (nrem - m) m h1 (by omega) fun i j hij hj => ?_))
  · exact ⟨hp.rev 0 m, by omega, by omega, hx.2.2.1⟩
  · have hsz : m <= p.size := by rw [hp.size]; omega
    rw [Kp_rev hsz, Kp_rev hsz, if_pos (by omega), if_pos (by omega)]
    exact hs _ _ (by omega) (by omega)
theorem k_desc : ∀ (f : Nat) (p : Array Nat) (m q : Nat), Pm n p -> 1 <= m -> m + f <= n -> Dn key p m -> q + 1 <= m -> (∀ i, m - (q + 1) <= i -> i < m -> Kp key p i = Kp key p (m - 1)) ->
    KOk n (ltK key) (kas_desc f p m q) (fun r => Pm n r.1 /\ m <= r.2.1 /\ r.2.1 <= m + f /\ Dn key r.1 r.2.1 /\ r.2.2 + 1 <= r.2.1 /\ ∀ i, r.2.1 - (r.2.2 + 1) <= i -> i < r.2.1 -> Kp key r.1 i = Kp key r.1 (r.2.1 - 1))
  | 0, p, m, q, hp, h1, h2, h3, h4, h5 => ⟨hp, Nat.le_refl _, Nat.le_refl _, h3, h4, h5⟩
  | f + 1, p, m, q, hp, h1, h2, h3, h4, h5 => by
    refine ⟨hp.lt (by omega), hp.lt (by omega), ?_⟩
    have hsz : m <= p.size := by rw [hp.size]; omega
    show KOk n (ltK key) (if lex (Kp key p m) (Kp key p (m - 1)) = true then _ else _) _
    cases e : lex (Kp key p m) (Kp key p (m - 1)) with
    | true =>
      rw [if_pos rfl]
      have hd : Dn key p (m + 1) := dn_next h3 (le'_of_lt e)
      by_cases hq : q > 0
      · rw [if_pos hq]
        refine KOk.mono (fun r hr => ⟨hr.1, by omega, by omega, hr.2.2.2⟩) (k_desc f _ (m + 1) 0 (hp.rev _ _) (by omega) (by omega) (dn_eq hd (Kp_rev_eq hsz h5)) (by omega) fun i a b => ?_)
        rw [show i = m + 1 - 1 by omega]
      · rw [if_neg hq]
        refine KOk.mono (fun r hr => ⟨hr.1, by omega, by omega, hr.2.2.2⟩) (k_desc f p (m + 1) 0 hp (by omega) (by omega) hd (by omega) fun i a b => ?_)
        rw [show i = m + 1 - 1 by omega]
    | false =>
      rw [if_neg Bool.false_ne_true]
      refine ⟨hp.lt (by omega), hp.lt (by omega), ?_⟩
      show KOk n (ltK key) (if lex (Kp key p (m - 1)) (Kp key p m) = true then _ else _) _
      cases e2 : lex (Kp key p (m - 1)) (Kp key p m) with
      | true => exact ⟨hp, Nat.le_refl _, Nat.le_add_right _ _, h3, h4, h5⟩
      | false =>
        rw [if_neg Bool.false_ne_true]
        have heq : Kp key p m = Kp key p (m - 1) := lex_total e e2
        refine KOk.mono (fun r hr => ⟨hr.1, by omega, by omega, hr.2.2.2⟩) (k_desc f p (m + 1) (q + 1) hp (by omega) (by omega) (dn_next h3 (by rw [heq]; exact le'_refl _)) (by omega) fun i a b => ?_)
        rw [show m + 1 - 1 = m by omega]
        by_cases hi : i = m
        · rw [hi]
        · rw [heq]; exact h5 i (by omega) (by omega)
theorem k_descPart {m nrem : Nat} (hp : Pm n p) (hn : nrem <= n) (h2 : m + 1 <= nrem) (hs : Dn key p (m + 1)) :
    KOk n (ltK key) (kas_descPart m nrem p) (fun r => Pm n r.2 /\ 1 <= r.1 /\ r.1 <= nrem /\ Up key r.2 r.1) := by
  refine KOk.bind (KOk.mono (fun r hr => ?_) (k_desc (nrem - (m + 1)) p (m + 1) 0 hp (by omega) (by omega) hs (by omega) fun i a b => by rw [show i = m + 1 - 1 by omega]))
  obtain ⟨q1, q2, q3, q4, q5, q6⟩ := hr
  have hsz : r.2.1 <= r.1.size := by rw [q1.size]; omega
  by_cases hq : r.2.2 > 0
  · rw [if_pos hq]
    exact k_tail3 (q1.rev _ _) hn (by omega) (by omega) (dn_eq q4 (Kp_rev_eq hsz q6))
  · rw [if_neg hq]
    exact k_tail3 q1 hn (by omega) (by omega) q4
theorem k_count {nrem : Nat} (hp : Pm n p) (hn : nrem <= n) (h1 : 1 <= nrem) :
    KOk n (ltK key) (kas_count nrem p) (fun r => Pm n r.2 /\ 1 <= r.1 /\ r.1 <= nrem /\ Up key r.2 r.1) := by
  refine KOk.bind (KOk.mono (fun x hx => ?_) (k_asc hp (nrem - 1) 1 (Nat.le_refl _) (by omega) up_one))
  obtain ⟨a1, a2, a3, a4⟩ := hx
  by_cases hnn : x = nrem
  · rw [if_pos (by simpa using hnn)]
    exact ⟨hp, a1, by omega, a3⟩
  · rw [if_neg (by simpa using hnn)]
    have hlt : lex (Kp key p x) (Kp key p (x - 1)) = true := a4.resolve_left (by omega)
    have hsz : x <= p.size := by rw [hp.size]; omega
    by_cases hgt : x > 1
    · rw [if_pos hgt]
      refine ⟨hp.lt (by omega), hp.lt (by omega), ?_⟩
      show KOk n (ltK key) (if lex (Kp key p 0) (Kp key p (x - 1)) = true then _ else _) _
      cases e : lex (Kp key p 0) (Kp key p (x - 1)) with
      | true => exact ⟨hp, a1, by omega, a3⟩
      | false =>
        rw [if_neg Bool.false_ne_true]
        have hall : ∀ k, 0 <= k -> k < x -> Kp key p k = Kp key p (x - 1) := fun k _ hk =>
          le'_anti (a3 k (x - 1) (by omega) (by omega)) (le'_trans (show le' (Kp key p (x - 1)) (Kp key p 0) from e) (a3 0 k (by omega) hk))
        refine k_descPart (hp.rev _ _) hn (by omega) (dn_eq (p := p) (fun i j hij hj => ?_) (Kp_rev_eq hsz hall))
        by_cases hjx : j < x
        · rw [hall i (by omega) (by omega), hall j (by omega) hjx]; exact le'_refl _
        · have ej : j = x := by omega
          subst ej
          by_cases hi : i = j
          · rw [hi]; exact le'_refl _
          · rw [hall i (by omega) (by omega)]; exact le'_of_lt hlt
    · rw [if_neg hgt]
      have ex : x = 1 := by omega
      subst ex
      refine k_descPart hp hn (by omega) fun i j hij hj => ?_
      by_cases hi : i = j
      · rw [hi]; exact le'_refl _
      · have hi0 : i = 0 := by omega
        have hj1 : j = 1 := by omega
        rw [hi0, hj1]
        exact le'_of_lt hlt
theorem k_place {k : Nat} (hp : Pm n p) (hk : k < n) (hu : Up key p k) : ∀ (f l r : Nat), l <= r -> r <= k -> r - l <= f -> (∀ i, i < l -> le' (Kp key p i) (Kp key p k)) -> (∀ i, r <= i -> i < k -> lex (Kp key p k) (Kp key p i) = true) ->
    KOk n (ltK key) (kas_place p k f l r) (fun x => x <= k /\ (∀ i, i < x -> le' (Kp key p i) (Kp key p k)) /\ ∀ i, x <= i -> i < k -> lex (Kp key p k) (Kp key p i) = true)
  | 0, l, r, h1, h2, h3, h4, h5 => by
    have e : l = r := by omega
    subst e
    exact ⟨h2, h4, h5⟩
  | f + 1, l, r, h1, h2, h3, h4, h5 => by
    unfold kas_place
    by_cases hge : l ≥ r
    · rw [if_pos hge]
      have e : l = r := by omega
      subst e
      exact ⟨h2, h4, h5⟩
    · rw [if_neg hge]
      refine ⟨hp.lt hk, hp.lt (by omega), ?_⟩
      show KOk n (ltK key) (if lex (Kp key p k) (Kp key p ((l + r) / 2)) = true then _ else _) _
      cases e : lex (Kp key p k) (Kp key p ((l + r) / 2)) with
      | true => exact k_place hp hk hu f l ((l + r) / 2) (by omega) (by omega) (by omega) h4 fun i a b => lt_le' e (hu _ _ a b)
      | false => exact k_place hp hk hu f ((l + r) / 2 + 1) r (by omega) (by omega) (by omega) (fun i a => le'_trans (hu i ((l + r) / 2) (by omega) (by omega)) e) h5
theorem k_bin : ∀ (f : Nat) (p : Array Nat) (k : Nat), Pm n p -> k + f = n -> Up key p k -> KOk n (ltK key) (kas_bin f p k) (fun p' => Pm n p' /\ Up key p' n)
  | 0, p, k, hp, hk, hu => by
    have e : k = n := by omega
    subst e
    exact ⟨hp, hu⟩
  | f + 1, p, k, hp, hk, hu => by
    refine KOk.bind (KOk.mono (fun l hl => ?_) (k_place hp (by omega) hu k 0 k (by omega) (Nat.le_refl _) (by omega) (fun i hi => by omega) fun i a b => by omega))
    obtain ⟨a1, a2, a3⟩ := hl
    refine k_bin f _ (k + 1) (hp.bub _ _) (by omega) fun i j hij hj => ?_
    have hks : k < p.size := by rw [hp.size]; omega
    rw [Kp_bub hks (by omega), Kp_bub hks (by omega), show k - (k - l) = l by omega]
    repeat' split
    all_goals first
      | (exfalso; omega)
      | exact le'_refl _
      | exact a2 _ (by omega)
      | exact le'_of_lt (a3 _ (by omega) (by omega))
      | exact hu _ _ (by omega) (by omega)
theorem k_sort (h : 1 <= n) : KOk n (ltK key) (kas_sort n) (fun p => Pm n p /\ Up key p n) := by
  refine KOk.bind (KOk.mono (fun r hr => ?_) (k_count ⟨Array.Perm.refl _⟩ (Nat.le_refl n) h))
  obtain ⟨a1, a2, a3, a4⟩ := hr
  by_cases hlt : r.1 < n
  · rw [if_pos hlt]
    have e : max r.1 1 = r.1 := by omega
    rw [e]
    exact k_bin _ _ _ a1 (by omega) a4
  · rw [if_neg hlt]
    have e : r.1 = n := by omega
    rw [e] at a4
    exact ⟨a1, a4⟩
end
end NC
namespace NC
open PySem PySem.Spec PyProof.Rows L2

def Keep (L : List Addr) (H H' : Hp) : Prop := ∀ b o, b ∉ L -> H b = some o -> H' b = some o
def Tups (H H' : Hp) : Prop := ∀ b xs, H b = some (.tup xs) -> H' b = some (.tup xs)
section
variable {L L' : List Addr} {H H1 H2 H' : Hp} {p l : Addr} {o : HO} {xs ys : List V}
theorem Keep.refl (L : List Addr) (H : Hp) : Keep L H H := fun _ _ _ h => h
theorem Keep.trans (a : Keep L H H1) (b : Keep L H1 H2) : Keep L H H2 := fun c o n h => b c o n (a c o n h)
theorem Keep.mono (a : Keep L H H1) (h : ∀ x ∈ L, x ∈ L') : Keep L' H H1 := fun c o n q => a c o (fun z => n (h c z)) q
theorem Keep.of_same (a : Same H H1) : Keep L H H1 := fun c o _ q => a c o q
theorem same_new (hp : H p = none) : Same H (upd H p o) := fun b u h => by rw [upd_ne (ne_of_none h hp)]; exact h
theorem keep_set (h : l ∈ L) : Keep L H (upd H l o) := fun b u n q => by
  rw [upd_ne (fun z => n (by rw [z]; exact h))]; exact q
theorem Tups.refl (H : Hp) : Tups H H := fun _ _ h => h
theorem Tups.trans (a : Tups H H1) (b : Tups H1 H2) : Tups H H2 := fun c o h => b c o (a c o h)
theorem Tups.of_same (a : Same H H1) : Tups H H1 := fun c _ h => a c _ h
theorem Keep.tups (a : Keep L H H1) (h : ∀ x ∈ L, ∃ ys, H x = some (.lst ys)) : Tups H H1 := fun c ys q => a c _ (fun z => by
  obtain ⟨zs, e⟩ := h c z
  rw [e] at q; cases q) q
theorem Keep.tup1 (a : Keep [l] H H1) (h : H l = some (.lst xs)) : Tups H H1 := a.tups fun x hx => ⟨xs, by rw [List.mem_singleton.mp hx]; exact h⟩
theorem Keep.at (a : Keep [l] H H1) {b : Addr} {u : HO} (h : H b = some u) (n : b ≠ l) : H1 b = some u := a b u (by simpa using n) h
theorem Keep.sub (a : Keep [l] H H1) (h : l ∈ L) : Keep L H H1 := a.mono fun x hx => by rw [List.mem_singleton.mp hx]; exact h
theorem same_keep {H0 : Hp} (s : Same H0 H) (k : Keep L H H1) (n : ∀ x ∈ L, H0 x = none) : Same H0 H1 := fun b o h => k b o (fun z => by rw [n b z] at h; cases h) (s b o h)
theorem same_keep1 {H0 : Hp} (s : Same H0 H) (k : Keep [l] H H1) (n : H0 l = none) : Same H0 H1 := same_keep s k fun x hx => by rw [List.mem_singleton.mp hx]; exact n
end

theorem ifT {c A B : Prop} [Decidable c] (hc : c) (h : A) : if decide c = true then A else B := by rw [decide_eq_true hc, if_pos rfl]; exact h
theorem ifF {c A B : Prop} [Decidable c] (hc : ¬ c) (h : B) : if decide c = true then A else B := by rw [decide_eq_false hc, if_neg Bool.false_ne_true]; exact h
theorem ifNT {c A B : Prop} [Decidable c] (hc : ¬ c) (h : A) : if (!decide c) = true then A else B := by rw [decide_eq_false hc]; exact h
theorem ifNF {c A B : Prop} [Decidable c] (hc : c) (h : B) : if (!decide c) = true then A else B := by rw [decide_eq_true hc]; exact h
theorem ifD {c A B : Prop} [Decidable c] (h1 : c -> A) (h2 : ¬ c -> B) : if decide c = true then A else B := by
  by_cases h : c
  · exact ifT h (h1 h)
  · exact ifF h (h2 h)
theorem ifB {b : Bool} {A B : Prop} (h1 : b = true -> A) (h2 : b = false -> B) : if b = true then A else B := by
  cases b with
  | true => exact h1 rfl
  | false => exact h2 rfl
theorem at0 {α : Type} {a : α} {r : List α} : atI (a :: r) 0 = some a := atI_nat (j := 0) rfl
theorem at1 {α : Type} {a b : α} {r : List α} : atI (a :: b :: r) 1 = some b := atI_nat (j := 1) rfl
theorem at2 {α : Type} {a b c : α} {r : List α} : atI (a :: b :: c :: r) 2 = some c := atI_nat (j := 2) rfl
theorem atL {α : Type} {xs : List α} {i : Int} (h0 : 0 <= i) (h1 : i < xs.length) : ∃ v, atI xs i = some v /\ v ∈ xs := by
  have hj : i.toNat < xs.length := by omega
  refine ⟨xs[i.toNat], ?_, List.getElem_mem hj⟩
  have e : ((i.toNat : Nat) : Int) = i := by omega
  have q := atI_nat (xs := xs) (j := i.toNat) (v := xs[i.toNat]) (by simp [hj])
  rw [e] at q
  exact q
theorem small {n : Nat} (h : n <= 1000000) : n < sizeLine := by rw [sizeLine_eq]; omega
theorem small' {n : Nat} (h : n <= 1000000) : n <= sizeLine := Nat.le_of_lt (small h)

abbrev Tm := T Str
inductive TermAt (H : Hp) : V -> Tm -> Prop where
  | name {a : Addr} {w : Str} (h : H a = some (.tup [.str "name", .str w])) : TermAt H (.ref a) (.name w)
  | place {a : Addr} {n : Nat} (h : H a = some (.tup [.str "place", .int n])) : TermAt H (.ref a) (.place n)
  | form {a : Addr} {v : V} {b : Tm} (h : H a = some (.tup [.str "form", v])) (hb : TermAt H v b) : TermAt H (.ref a) (.form b)
  | call {a : Addr} {v u : V} {x y : Tm} (h : H a = some (.tup [.str "call", v, u])) (hx : TermAt H v x) (hy : TermAt H u y) : TermAt H (.ref a) (.call x y)
theorem TermAt.mono {H H' : Hp} {v : V} {t : Tm} (h : TermAt H v t) (k : Tups H H') : TermAt H' v t := by
  induction h with
  | name h => exact .name (k _ _ h)
  | place h => exact .place (k _ _ h)
  | form h _ ih => exact .form (k _ _ h) ih
  | call h _ _ i1 i2 => exact .call (k _ _ h) i1 i2
theorem TermAt.same {H H' : Hp} {v : V} {t : Tm} (h : TermAt H v t) (k : Same H H') : TermAt H' v t := h.mono (.of_same k)
def tag : Tm -> Str
  | .name _ => "name"
  | .place _ => "place"
  | .form _ => "form"
  | .call _ _ => "call"
theorem TermAt.tup {H : Hp} {v : V} {t : Tm} (h : TermAt H v t) : ∃ a x r, v = .ref a /\ H a = some (.tup (.str (tag t) :: x :: r)) := by
  cases h with
  | name h => exact ⟨_, _, _, rfl, h⟩
  | place h => exact ⟨_, _, _, rfl, h⟩
  | form h _ => exact ⟨_, _, _, rfl, h⟩
  | call h _ _ => exact ⟨_, _, _, rfl, h⟩
theorem n_nf : ¬ (V.str "name" = V.str "form") := by decide +kernel
theorem n_nc : ¬ (V.str "name" = V.str "call") := by decide +kernel
theorem n_np : ¬ (V.str "name" = V.str "place") := by decide +kernel
theorem n_pf : ¬ (V.str "place" = V.str "form") := by decide +kernel
theorem n_pc : ¬ (V.str "place" = V.str "call") := by decide +kernel
theorem n_fc : ¬ (V.str "form" = V.str "call") := by decide +kernel
theorem n_fp : ¬ (V.str "form" = V.str "place") := by decide +kernel
theorem n_cf : ¬ (V.str "call" = V.str "form") := by decide +kernel
theorem n_cp : ¬ (V.str "call" = V.str "place") := by decide +kernel
theorem tag_form (t : Tm) : decide (V.str (tag t) = V.str "form") = t.isForm := by
  cases t with
  | name _ => exact decide_eq_false n_nf
  | place _ => exact decide_eq_false n_pf
  | form _ => exact decide_eq_true rfl
  | call _ _ => exact decide_eq_false n_cf

theorem paired_snoc_inv {α β : Type} {F : α -> β -> Prop} : ∀ {xs : List α} {ys : List β} {y : β}, Paired F xs (ys ++ [y]) -> ∃ xs' x, xs = xs' ++ [x] /\ Paired F xs' ys /\ F x y
  | [], [], _, h => nomatch h
  | [], _ :: _, _, h => nomatch h
  | x :: xs, [], y, .cons r t => by
    cases t
    exact ⟨[], x, rfl, .nil, r⟩
  | x :: xs, z :: ys, y, .cons r t => by
    obtain ⟨xs', x', e, p, q⟩ := paired_snoc_inv (xs := xs) (ys := ys) t
    exact ⟨x :: xs', x', by rw [e]; rfl, .cons r p, q⟩
theorem paired_snoc {α β : Type} {F : α -> β -> Prop} {x : α} {y : β} (q : F x y) : ∀ {xs : List α} {ys : List β}, Paired F xs ys -> Paired F (xs ++ [x]) (ys ++ [y])
  | _, _, .nil => .cons q .nil
  | _, _, .cons r t => .cons r (paired_snoc q t)
theorem snoc_of {α : Type} {xs : List α} (h : xs ≠ []) : ∃ ys y, xs = ys ++ [y] := ⟨xs.dropLast, xs.getLast h, (List.dropLast_concat_getLast h).symm⟩
theorem paired_nil {α β : Type} {F : α -> β -> Prop} {xs : List α} (p : Paired F xs ([] : List β)) : xs = [] := by cases p; rfl
theorem paired_get {α β : Type} {F : α -> β -> Prop} : ∀ {xs : List α} {ys : List β} {i : Nat} {x : α}, Paired F xs ys -> xs[i]? = some x -> ∃ y, ys[i]? = some y /\ F x y
  | _, _, _, _, .nil, e => by simp at e
  | _, _, 0, _, .cons r _, e => by simp at e; subst e; exact ⟨_, rfl, r⟩
  | _, _, i + 1, x, .cons _ t, e => by
    obtain ⟨u, h1, h2⟩ := paired_get (i := i) (x := x) t (by simpa using e)
    exact ⟨u, by simpa using h1, h2⟩
theorem paired_imp {α β : Type} {F G : α -> β -> Prop} (f : ∀ a b, F a b -> G a b) : ∀ {xs : List α} {ys : List β}, Paired F xs ys -> Paired G xs ys
  | _, _, .nil => .nil
  | _, _, .cons r t => .cons (f _ _ r) (paired_imp f t)

def plainE : Expr -> Bool
  | .Starred .. => false
  | _ => true
theorem star_plain {e : Expr} {es : List Expr} {env : Env} (h : plainE e = true) : starEach (e :: es) env = (false, eval e env) :: starEach es env := by
  cases e <;> first | rfl | exact (Bool.false_ne_true h).elim
theorem star_any {pos : Pos} {env : Env} : ∀ {es : List Expr}, es.all plainE = true -> (backTo pos (starEach es env)).any (·.1) = false
  | [], _ => rfl
  | e :: es, h => by
    rw [List.all_cons, Bool.and_eq_true] at h
    rw [star_plain h.1]
    show (false || (backTo pos (starEach es env)).any (·.1)) = false
    rw [star_any h.2]
    rfl
theorem star_all {pos : Pos} {env : Env} : ∀ {es : List Expr}, es.all plainE = true -> (backTo pos (starEach es env)).all (fun x => !x.1) = true
  | [], _ => rfl
  | e :: es, h => by
    rw [List.all_cons, Bool.and_eq_true] at h
    rw [star_plain h.1]
    show (true && (backTo pos (starEach es env)).all (fun x => !x.1)) = true
    rw [star_all h.2]
    rfl
theorem pa_c {X : Cx} {e : Expr} {es : List Expr} {te : TE} {t : TA} (ha : PE X e te) (hr : PA X es t) (h : plainE e = true := by rfl) : PA X (e :: es) (tCons te t) := pa_cons ha hr (star_plain h)
section
variable {X : Cx} {x : Str} {p pos : Pos} {e : Expr} {es : List Expr} {t : TA} {id T : String} {r : List V -> Hp -> VK -> Prop}
theorem pCB (hc : CallR X (.builtin id) r) (hg : Gl X x) (hm : X.mg x = none) (hv : bootBuiltins x = some (.builtin id)) (ha : PA X (e :: es) t) (h : (e :: es).all plainE = true := by rfl) (hn : x ≠ "__name__" := by decide) (hdb : (x == ("__debug__" : Str)) = false := by decide) :
    PE X (.Call (.Name x p) (e :: es) [] pos) (tCB r t) := by
  rw [List.all_cons, Bool.and_eq_true] at h
  exact pe_callB hc hg hm hv ha hn hdb (star_plain h.1) (star_any h.2)
theorem pCT (hc : CallR X (.type T) r) (hg : Gl X x) (hm : X.mg x = none) (hv : bootBuiltins x = some (.type T)) (ha : PA X (e :: es) t) (h : (e :: es).all plainE = true := by rfl) (hn : x ≠ "__name__" := by decide) (hdb : (x == ("__debug__" : Str)) = false := by decide) :
    PE X (.Call (.Name x p) (e :: es) [] pos) (tCB r t) := by
  rw [List.all_cons, Bool.and_eq_true] at h
  exact pe_callTy hc hg hm hv ha hn hdb (star_plain h.1) (star_any h.2)
end

def GF (P : Program) (w : World) (K : PySem.W.Frag) (mg : Str -> Option Value) (base : Heap) (CX : CXT) (k : Nat) (x : Str) (ps : List Str) (sp : Sp) : Prop :=
  ∃ f fd, FnOk P w K mg base CX k f fd ps sp /\ mg x = some (.ref f) /\ PySem.W.keepIn K (.ref f) = true /\ Binds K fd ps []
section
variable {X : Cx} {CX : CXT} {k : Nat} {ps : List Str} {sp : Sp} {E : XK} {x : Str} {p pos : Pos} {e : Expr} {es : List Expr} {t : TA}
theorem pe_gf (G : GF X.prog X.w X.K X.mg X.base CX k x ps sp) (hr : Room k X.A) (hg : Gl X x) (hx : Passes CX X E) (ha : PA X (e :: es) t) (h : (e :: es).all plainE = true := by rfl) (hdb : (x == ("__debug__" : Str)) = false := by decide) :
    PE X (.Call (.Name x p) (e :: es) [] pos) (tCall sp [] E t) := by
  obtain ⟨f, fd, F, hm, hk, hb⟩ := G
  rw [List.all_cons, Bool.and_eq_true] at h
  exact pe_call F hr hg hm hk hb .nil hx ha hdb (star_plain h.1) (star_any h.2)
end
section
variable {X : Cx}
theorem OpR.imp {f : Value -> Value -> Sem Value} {r r' : R2} (h : OpR X f r) (m : ∀ x y H Q, r' x y H Q -> r x y H Q) : OpR X f r' := fun pins s σ H x y v u Q I rx ry q => h pins s σ H x y v u Q I rx ry (m _ _ _ _ q)
theorem CallR.imp {f : Value} {r r' : List V -> Hp -> VK -> Prop} (h : CallR X f r) (m : ∀ xs H Q, r' xs H Q -> r xs H Q) : CallR X f r' := fun pins s σ H xs us Q I rx q => h pins s σ H xs us Q I rx (m _ _ _ q)
theorem MtM.imp {id : String} {r r' : V -> List V -> Hp -> VK -> Prop} (h : MtM X id r) (m : ∀ x xs H Q, r' x xs H Q -> r x xs H Q) : MtM X id r' := fun pins s σ H x xs v us Q I rx rs q => h pins s σ H x xs v us Q I rx rs (m _ _ _ _ q)
inductive RAppI (x : V) (vs : List V) (H : Hp) (Q : VK) : Prop where
  | mk (l : _) (xs : _) (y : _) (c1 : x = .ref l) (c2 : vs = [y]) (c3 : H l = some (.lst xs)) (c4 : xs.length < sizeLine) (c5 : ∀ H', Keep [l] H H' -> H' l = some (.lst (xs ++ [y])) -> Q .non H')
def rApp : V -> List V -> Hp -> VK -> Prop := fun x vs H Q => RAppI x vs H Q
theorem mt_app : MtM X "list.append" rApp := MtM.imp mt_append fun _ _ _ _ ⟨l, xs, y, e1, e2, h1, h2, q⟩ => ⟨l, xs, y, e1, e2, h1, h2, q _ (keep_set (by simp)) upd_same⟩
inductive RPpI (x : V) (vs : List V) (H : Hp) (Q : VK) : Prop where
  | mk (l : _) (xs : _) (y : _) (c1 : x = .ref l) (c2 : vs = []) (c3 : H l = some (.lst (xs ++ [y]))) (c4 : ∀ H', Keep [l] H H' -> H' l = some (.lst xs) -> Q y H')
def rPp : V -> List V -> Hp -> VK -> Prop := fun x vs H Q => RPpI x vs H Q
theorem mt_pp : MtM X "list.pop" rPp := MtM.imp mt_pop fun _ _ _ _ ⟨l, xs, y, e1, e2, h1, q⟩ => ⟨l, _, y, e1, e2, h1, by simp, by
  have e : (xs ++ [y]).dropLast = xs := by simp
  rw [e]
  exact q _ (keep_set (by simp)) upd_same⟩
variable {o e : Expr} {to te : TE} {apos cpos : Pos}
def tApp (K : PySem.W.Frag) (to te : TE) : TE := tBM K "list" rApp to (tCons te tNil)
theorem pApp (ho : PE X o to) (he : PE X e te) (h : plainE e = true := by rfl) (hbase : attributeBase o "append" X.env (eval o X.env) = eval o X.env := by rfl) (hline : (apos.endLine == cpos.line) = true := by rfl) :
    PE X (.Call (.Attribute o "append" apos) [e] [] cpos) (tApp X.K to te) :=
  pe_bm PySem.F.plainAttrs_list PySem.F.slot_list_append PySem.F.type_list_append mt_app ho (pa_c he pa_nil h) hbase (by
    rw [star_all (es := [e]) (by simp [h])]
    rfl) hline (star_plain h) rfl
def tPp (K : PySem.W.Frag) (to : TE) : TE := tBM0 K "list" rPp to
theorem pPop (ho : PE X o to) (hbase : attributeBase o "pop" X.env (eval o X.env) = eval o X.env := by rfl) (hline : (apos.endLine == cpos.line) = true := by rfl) : PE X (.Call (.Attribute o "pop" apos) [] [] cpos) (tPp X.K to) :=
  pe_bm0 PySem.F.plainAttrs_list PySem.F.slot_list_pop PySem.F.type_list_pop mt_pp ho hbase hline
variable {es : List Expr} {t : TA} {pos : Pos}
inductive TTpI (xs : List V) (H1 : Hp) (Q : VK) : Prop where
  | mk (c1 : xs.length <= sizeLine) (c2 : ∀ p H', H1 p = none -> Same H1 H' -> H' p = some (.tup xs) -> Q (.ref p) H')
def tTp (t : TA) : TE := fun σ H Q => t σ H fun xs H1 => TTpI xs H1 Q
inductive TLsI (xs : List V) (H1 : Hp) (Q : VK) : Prop where
  | mk (c1 : xs.length <= sizeLine) (c2 : ∀ p H', H1 p = none -> Same H1 H' -> H' p = some (.lst xs) -> Q (.ref p) H')
def tLs (t : TA) : TE := fun σ H Q => t σ H fun xs H1 => TLsI xs H1 Q
theorem pTup {x1} (h : PA X es t) : PE X (.Tuple es x1 pos) (tTp t) := by
  intro pins s σ H Q I hq
  refine wpAny_Tuple_spliced (thn (h pos pins s σ H _ I hq) fun us s1 ⟨xs, H1, I1, r, z, q⟩ => ⟨by rw [<- r.length]; exact z, ?_⟩)
  have hf : H1 s1.heap.objs.size = none := I1.hok.fresh (Nat.le_refl _)
  exact ⟨.ref s1.heap.objs.size, upd H1 s1.heap.objs.size (.tup xs), I1.laid (t' := s1.toks) (fun b u e => Heap.get?_push_of_some _ e) (Nat.le_refl _) ⟨z, us, r, ⟨_, Heap.get?_push_size _ rfl, rfl, _, rfl⟩⟩, rfl, q _ _ hf (same_new hf) upd_same⟩
theorem pLst (h : PA X es t) : PE X (.List es pos) (tLs t) := by
  intro pins s σ H Q I hq
  refine wpAny_List_spliced (thn (h pos pins s σ H _ I hq) fun us s1 ⟨xs, H1, I1, r, z, q⟩ => ⟨by rw [<- r.length]; exact z, ?_⟩)
  have hf : H1 s1.heap.objs.size = none := I1.hok.fresh (Nat.le_refl _)
  exact ⟨.ref s1.heap.objs.size, upd H1 s1.heap.objs.size (.lst xs), I1.laid (t' := s1.toks) (fun b u e => Heap.get?_push_of_some _ e) (Nat.le_refl _) ⟨z, us, 0, r, Heap.get?_push_size _ rfl⟩, rfl, q _ _ hf (same_new hf) upd_same⟩
inductive RCtI (x : V) (y : V) (H : Hp) (Q : VK) : Prop where
  | mk (l : _) (b : _) (xs : _) (zs : _) (c1 : x = .ref l) (c2 : y = .ref b) (c3 : H l = some (.lst xs)) (c4 : H b = some (.lst zs)) (c5 : xs.length + zs.length <= sizeLine) (c6 : ∀ p H', H p = none -> Same H H' -> H' p = some (.lst (xs ++ zs)) -> Q (.ref p) H')
def rCt : R2 := fun x y H Q => RCtI x y H Q
theorem op_ct : OpR X (binaryOp .Add) rCt := OpR.imp op_cat fun _ _ _ _ ⟨l, b, xs, zs, e1, e2, h1, h2, h3, q⟩ => ⟨l, b, xs, zs, e1, e2, h1, h2, h3, fun p hp => q p _ hp (same_new hp) upd_same⟩
inductive RSlI (K : PySem.W.Frag) (x : V) (lo : Option Int) (hi : Option Int) (H : Hp) (Q : VK) : Prop where
  | mk (a : _) (xs : _) (c1 : x = .ref a) (c2 : SqL K H a xs) (c3 : ∀ p H', H p = none -> Same H H' -> H' p = some (.lst (cutV xs lo hi)) -> Q (.ref p) H')
def rSl (K : PySem.W.Frag) : V -> Option Int -> Option Int -> Hp -> VK -> Prop := fun x lo hi H Q => RSlI K x lo hi H Q
theorem sl_ls : SlR X (rSl X.K) := fun pins s σ H x v vl vu lo hi sl Q I rx h1 h2 h3 ⟨a, xs, e, hx, q⟩ => sl_list pins s σ H x v vl vu lo hi sl Q I rx h1 h2 h3 ⟨a, xs, e, hx, fun p hp => q p _ hp (same_new hp) upd_same⟩
theorem call_lo : CallR X (.type "list") (fun xs H Q => ∃ p ys, xs = [.ref p] /\ (SqL X.K H p ys ∨ SqT X.K H p ys) /\ ∀ l H', H l = none -> Same H H' -> H' l = some (.lst ys) -> Q (.ref l) H') :=
  CallR.imp call_list_of fun _ _ _ ⟨p, ys, e, h, q⟩ => ⟨p, ys, e, h, fun l hl => q l _ hl (same_new hl) upd_same⟩
end

section
variable {X : Cx}
inductive RNilI (K : PySem.W.Frag) (ne : Bool) (x : V) (y : V) (H : Hp) (Q : VK) : Prop where
  | mk (a : _) (b : _) (xs : _) (c1 : x = .ref a) (c2 : y = .ref b) (c3 : SqL K H a xs) (c4 : SqL K H b []) (c5 : Q (.bl (if ne then !xs.isEmpty else xs.isEmpty)) H)
def rNil (K : PySem.W.Frag) (ne : Bool) : R2 := fun x y H Q => RNilI K ne x y H Q
theorem op_eqNil (hu : X.A.units < cLine) : OpR X (compareOp .Eq) (rNil X.K false) := by
  intro pins s σ H x y v u Q I rx ry h
  obtain ⟨a, b, xs, rfl, rfl, h1, h2, q⟩ := h
  cases rx; cases ry
  obtain ⟨its, r, pl, hz⟩ := I.list h1
  obtain ⟨its2, r2, pl2, _⟩ := I.list h2
  cases r2
  cases r with
  | nil => exact SeqAt.eq_listAt (e := fun _ => true) pl.isList pl2.isList rfl hu (fun j j1 => absurd j1 (by simp)) ⟨.bl true, H, I, rfl, q⟩
  | cons r1 rt => exact SeqAt.eq_list_lengthsAt pl.isList pl2.isList (by simp) hu ⟨.bl false, H, I, rfl, q⟩
theorem op_neNil (hu : X.A.units < cLine) : OpR X (compareOp .NotEq) (rNil X.K true) := by
  intro pins s σ H x y v u Q I rx ry h
  obtain ⟨a, b, xs, rfl, rfl, h1, h2, q⟩ := h
  cases rx; cases ry
  obtain ⟨its, r, pl, hz⟩ := I.list h1
  obtain ⟨its2, r2, pl2, _⟩ := I.list h2
  cases r2
  cases r with
  | nil => exact SeqAt.RcNeAt.lists (e := fun _ => true) pl.isList pl2.isList rfl hu (fun j j1 => absurd j1 (by simp)) X.prog X.w _ _ ⟨.bl false, H, I, rfl, q⟩
  | cons r1 rt => exact SeqAt.RcNeAt.lists_lengths pl.isList pl2.isList (by simp) hu X.prog X.w _ _ ⟨.bl true, H, I, rfl, q⟩
end

inductive Dt where
  | int (i : Int)
  | str (x : Str)
  | tup (ds : List Dt)
  | lst (ds : List Dt)
mutual
def DAt (K : PySem.W.Frag) (H : Hp) : Dt -> V -> Prop
  | .int i, v => v = .int i
  | .str x, v => v = .str x
  | .tup ds, v => ∃ a xs, v = .ref a /\ SqT K H a xs /\ DsAt K H ds xs
  | .lst ds, v => ∃ a xs, v = .ref a /\ SqL K H a xs /\ DsAt K H ds xs
def DsAt (K : PySem.W.Frag) (H : Hp) : List Dt -> List V -> Prop
  | [], xs => xs = []
  | d :: ds, xs => ∃ x r, xs = x :: r /\ DAt K H d x /\ DsAt K H ds r
end
mutual
def Dt.Lim : Nat -> Dt -> Prop
  | _, .int _ => True
  | _, .str _ => True
  | 0, .tup _ => False
  | 0, .lst _ => False
  | n + 1, .tup ds => Dt.Lims n ds
  | n + 1, .lst ds => Dt.Lims n ds
def Dt.Lims : Nat -> List Dt -> Prop
  | _, [] => True
  | n, d :: ds => Dt.Lim n d /\ Dt.Lims n ds
end
theorem DsAt.len {K : PySem.W.Frag} {H : Hp} : ∀ {ds : List Dt} {xs : List V}, DsAt K H ds xs -> xs.length = ds.length
  | [], _, h => by
    have e : _ = [] := h
    rw [e]; rfl
  | d :: ds, _, h => by
    obtain ⟨x, r, e, _, h2⟩ := h
    rw [e, List.length_cons, List.length_cons, DsAt.len h2]
theorem DsAt.get {K : PySem.W.Frag} {H : Hp} : ∀ {ds : List Dt} {xs : List V} {j : Nat} {d : Dt}, DsAt K H ds xs -> ds[j]? = some d -> ∃ x, xs[j]? = some x /\ DAt K H d x
  | [], _, _, _, _, e => by simp at e
  | d :: ds, _, 0, d', h, e => by
    obtain ⟨x, r, e1, h1, _⟩ := h
    simp at e
    subst e
    exact ⟨x, by rw [e1]; rfl, h1⟩
  | d :: ds, _, j + 1, d', h, e => by
    obtain ⟨x, r, e1, _, h2⟩ := h
    obtain ⟨y, e2, h3⟩ := DsAt.get (j := j) h2 (by simpa using e)
    exact ⟨y, by rw [e1]; simpa using e2, h3⟩
theorem Lims.get : ∀ {n : Nat} {ds : List Dt} {j : Nat} {d : Dt}, Dt.Lims n ds -> ds[j]? = some d -> Dt.Lim n d
  | _, [], _, _, _, e => by simp at e
  | _, d :: ds, 0, d', h, e => by
    simp at e
    subst e
    exact h.1
  | _, d :: ds, j + 1, d', h, e => Lims.get (j := j) h.2 (by simpa using e)
section
variable {X : Cx} {pins : List (Addr × Obj)} {σ : L2.St} {H : Hp} {s : Shared}
theorem not_both (I : Inv X pins σ H s) {a : Addr} {b c : List V} (q1 : SqL X.K H a b) (q2 : SqT X.K H a c) : False := by
  obtain ⟨_, _, pl, _⟩ := I.list q1
  obtain ⟨_, _, pt, _⟩ := I.tuple q2
  obtain ⟨o, n, h1, c, _⟩ := pl
  obtain ⟨o', h1', c', _⟩ := pt
  rw [h1] at h1'
  cases h1'
  rw [c] at c'
  injection c' with z
  exact absurd z (by decide)
theorem ds_inj {n : Nat} (h : ∀ {d e : Dt} {x : V}, Dt.Lim n d -> DAt X.K H d x -> DAt X.K H e x -> d = e) : ∀ {ds es : List Dt} {xs : List V}, Dt.Lims n ds -> DsAt X.K H ds xs -> DsAt X.K H es xs -> ds = es
  | [], [], _, _, _, _ => rfl
  | [], e :: es, _, _, h1, h2 => by
    have e1 : _ = [] := h1
    obtain ⟨x, r, e2, _⟩ := h2
    rw [e1] at e2; cases e2
  | d :: ds, [], _, _, h1, h2 => by
    have e1 : _ = [] := h2
    obtain ⟨x, r, e2, _⟩ := h1
    rw [e1] at e2; cases e2
  | d :: ds, e :: es, _, l, h1, h2 => by
    obtain ⟨x, r, e1, a1, b1⟩ := h1
    obtain ⟨x', r', e2, a2, b2⟩ := h2
    rw [e1] at e2
    cases e2
    rw [h l.1 a1 a2, ds_inj h l.2 b1 b2]
theorem d_inj (I : Inv X pins σ H s) : ∀ (n : Nat) {d e : Dt} {x : V}, Dt.Lim n d -> DAt X.K H d x -> DAt X.K H e x -> d = e := by
  intro n
  induction n with
  | zero =>
    intro d e x l h1 h2
    cases d with
    | tup ds => exact l.elim
    | lst ds => exact l.elim
    | int i =>
      have e1 : x = _ := h1
      subst e1
      cases e with
      | int j => have e2 : V.int i = V.int j := h2; cases e2; rfl
      | str j => have e2 : V.int i = V.str j := h2; cases e2
      | tup es => obtain ⟨a, xs, e2, _⟩ := h2; cases e2
      | lst es => obtain ⟨a, xs, e2, _⟩ := h2; cases e2
    | str i =>
      have e1 : x = _ := h1
      subst e1
      cases e with
      | int j => have e2 : V.str i = V.int j := h2; cases e2
      | str j => have e2 : V.str i = V.str j := h2; cases e2; rfl
      | tup es => obtain ⟨a, xs, e2, _⟩ := h2; cases e2
      | lst es => obtain ⟨a, xs, e2, _⟩ := h2; cases e2
  | succ n ih =>
    intro d e x l h1 h2
    cases d with
    | int i =>
      have e1 : x = _ := h1
      subst e1
      cases e with
      | int j => have e2 : V.int i = V.int j := h2; cases e2; rfl
      | str j => have e2 : V.int i = V.str j := h2; cases e2
      | tup es => obtain ⟨a, xs, e2, _⟩ := h2; cases e2
      | lst es => obtain ⟨a, xs, e2, _⟩ := h2; cases e2
    | str i =>
      have e1 : x = _ := h1
      subst e1
      cases e with
      | int j => have e2 : V.str i = V.int j := h2; cases e2
      | str j => have e2 : V.str i = V.str j := h2; cases e2; rfl
      | tup es => obtain ⟨a, xs, e2, _⟩ := h2; cases e2
      | lst es => obtain ⟨a, xs, e2, _⟩ := h2; cases e2
    | tup ds =>
      obtain ⟨a, xs, rfl, q1, r1⟩ := h1
      cases e with
      | int j => have e2 : V.ref a = V.int j := h2; cases e2
      | str j => have e2 : V.ref a = V.str j := h2; cases e2
      | tup es =>
        obtain ⟨a', ys, e2, q2, r2⟩ := h2
        cases e2
        cases I.tuple_inj q1 q2
        rw [ds_inj (n := n) (fun l a b => ih l a b) l r1 r2]
      | lst es =>
        obtain ⟨a', ys, e2, q2, r2⟩ := h2
        cases e2
        exact (not_both I q2 q1).elim
    | lst ds =>
      obtain ⟨a, xs, rfl, q1, r1⟩ := h1
      cases e with
      | int j => have e2 : V.ref a = V.int j := h2; cases e2
      | str j => have e2 : V.ref a = V.str j := h2; cases e2
      | lst es =>
        obtain ⟨a', ys, e2, q2, r2⟩ := h2
        cases e2
        cases I.list_inj q1 q2
        rw [ds_inj (n := n) (fun l a b => ih l a b) l r1 r2]
      | tup es =>
        obtain ⟨a', ys, e2, q2, r2⟩ := h2
        cases e2
        exact (not_both I q1 q2).elim

theorem tupAt (I : Inv X pins σ H s) {a : Addr} {xs : List V} (q : SqT X.K H a xs) : ∃ its : List Value, Vals xs its /\ s.heap.IsTuple a its.toArray := let ⟨its, r, pt, _⟩ := I.tuple q; ⟨its, r, pt⟩
theorem lstAt (I : Inv X pins σ H s) {a : Addr} {xs : List V} (q : SqL X.K H a xs) : ∃ its : List Value, Vals xs its /\ s.heap.IsList a its.toArray := let ⟨its, r, pt, _⟩ := I.list q; ⟨its, r, pt.isList⟩
open PySem.SeqAt in
theorem d_eq_int (I : Inv X pins σ H s) {i : Int} {t : Tok} {e : Dt} {y : V} {u : Value} {A : Around} (hu : A.units < cLine) (h2 : DAt X.K H e y) (ry : RelV y u) : ∃ b : Bool, (b = true ↔ Dt.int i = e) /\ EqAt A s (.int i t) u b := by
  cases e with
  | int j =>
    have e2 : y = _ := h2
    subst e2
    obtain ⟨t', rfl⟩ := ry
    exact ⟨i == j, by simp, .int_int i t j t'⟩
  | str j =>
    have e2 : y = _ := h2
    subst e2
    obtain ⟨t', rfl⟩ := ry
    exact ⟨false, by simp, .int_str i t j t'⟩
  | tup es =>
    obtain ⟨a, xs, rfl, q, _⟩ := h2
    cases ry
    obtain ⟨_, _, pt⟩ := tupAt I q
    exact ⟨false, by simp, .int_tuple i t pt hu⟩
  | lst es =>
    obtain ⟨a, xs, rfl, q, _⟩ := h2
    cases ry
    obtain ⟨_, _, pt⟩ := lstAt I q
    exact ⟨false, by simp, .int_list i t pt hu⟩
open PySem.SeqAt in
theorem d_eq_str (I : Inv X pins σ H s) {i : Str} {t : Tok} {e : Dt} {y : V} {u : Value} {A : Around} (hu : A.units < cLine) (h2 : DAt X.K H e y) (ry : RelV y u) : ∃ b : Bool, (b = true ↔ Dt.str i = e) /\ EqAt A s (.str i t) u b := by
  cases e with
  | int j =>
    have e2 : y = _ := h2
    subst e2
    obtain ⟨t', rfl⟩ := ry
    exact ⟨false, by simp, .str_int i t j t'⟩
  | str j =>
    have e2 : y = _ := h2
    subst e2
    obtain ⟨t', rfl⟩ := ry
    exact ⟨i == j, by simp, .str_str i t j t'⟩
  | tup es =>
    obtain ⟨a, xs, rfl, q, _⟩ := h2
    cases ry
    obtain ⟨_, _, pt⟩ := tupAt I q
    exact ⟨false, by simp, .str_tuple i t pt hu⟩
  | lst es =>
    obtain ⟨a, xs, rfl, q, _⟩ := h2
    cases ry
    obtain ⟨_, _, pt⟩ := lstAt I q
    exact ⟨false, by simp, .str_list i t pt hu⟩
open Classical in
noncomputable def agree (ds es : List Dt) (j : Nat) : Bool := decide (ds[j]? = es[j]?)
open Classical in
theorem agree_all {ds es : List Dt} (h : ds.length = es.length) : ((List.range ds.length).all (agree ds es) = true) ↔ ds = es := by
  rw [List.all_eq_true]
  constructor
  · intro q
    refine List.ext_getElem? fun j => ?_
    by_cases hj : j < ds.length
    · exact of_decide_eq_true (q j (List.mem_range.mpr hj))
    · rw [List.getElem?_eq_none (by omega), List.getElem?_eq_none (by omega)]
  · intro e j _
    rw [e]
    exact decide_eq_true rfl
open Classical in
theorem d_each {n : Nat} {A : Around} (ih : ∀ {d e : Dt} {x y : V} {v u : Value}, Dt.Lim n d -> DAt X.K H d x -> DAt X.K H e y -> RelV x v -> RelV y u -> ∃ b : Bool, (b = true ↔ d = e) /\ PySem.SeqAt.EqAt A s v u b)
    {ds es : List Dt} {xs ys : List V} {its its2 : List Value} (l : Dt.Lims n ds) (h1 : DsAt X.K H ds xs) (h2 : DsAt X.K H es ys) (r1 : Vals xs its) (r2 : Vals ys its2) :
    ∀ j (j1 : j < its.toArray.size) (j2 : j < its2.toArray.size), PySem.SeqAt.EqAt A s its.toArray[j] its2.toArray[j] (agree ds es j) := by
  intro j j1 j2
  have a1 : j < its.length := by simpa using j1
  have a2 : j < its2.length := by simpa using j2
  have b1 : j < ds.length := by rw [<- h1.len, r1.length]; exact a1
  have b2 : j < es.length := by rw [<- h2.len, r2.length]; exact a2
  have c1 : ds[j]? = some ds[j] := by simp [b1]
  have c2 : es[j]? = some es[j] := by simp [b2]
  obtain ⟨x, ex, hx⟩ := h1.get c1
  obtain ⟨y, ey, hy⟩ := h2.get c2
  obtain ⟨v, ev, rv⟩ := r1.get ex
  obtain ⟨u, eu, ru⟩ := r2.get ey
  obtain ⟨b, hb, q⟩ := ih (Lims.get l c1) hx hy rv ru
  have ev' : its.toArray[j] = v := by
    have := (List.getElem?_eq_some_iff.mp ev).2
    simpa using this
  have eu' : its2.toArray[j] = u := by
    have := (List.getElem?_eq_some_iff.mp eu).2
    simpa using this
  rw [ev', eu']
  have e : agree ds es j = b := by
    unfold agree
    rw [c1, c2]
    cases b with
    | true => exact decide_eq_true (by rw [hb.mp rfl])
    | false => exact decide_eq_false fun z => Bool.false_ne_true (hb.mpr (Option.some.inj z))
  rw [e]
  exact q
theorem in1_units (A : Around) : A.in1.units = A.units + 1 := rfl
open PySem.SeqAt in
theorem d_rc (I : Inv X pins σ H s) {n : Nat} {A : Around} (hu0 : A.units < cLine)
    (ih : ∀ {d e : Dt} {x y : V} {v u : Value}, Dt.Lim n d -> DAt X.K H d x -> DAt X.K H e y -> RelV x v -> RelV y u -> ∃ b : Bool, (b = true ↔ d = e) /\ EqAt A.in1 s v u b)
    {d e : Dt} {a b : Addr} (l : Dt.Lim (n + 1) d) (h1 : DAt X.K H d (.ref a)) (h2 : DAt X.K H e (.ref b)) : ∃ k : Bool, (k = true ↔ d = e) /\ RcAt A s (.ref a) (.ref b) k /\ RcNeAt A s (.ref a) (.ref b) (!k) := by
  cases d with
  | int i => have e1 : V.ref a = V.int i := h1; cases e1
  | str i => have e1 : V.ref a = V.str i := h1; cases e1
  | tup ds =>
    obtain ⟨a', xs, e1, q1, r1⟩ := h1
    cases e1
    obtain ⟨its, v1, p1⟩ := tupAt I q1
    cases e with
    | int i => have e1 : V.ref b = V.int i := h2; cases e1
    | str i => have e1 : V.ref b = V.str i := h2; cases e1
    | lst es =>
      obtain ⟨b', ys, e2, q2, r2⟩ := h2
      cases e2
      obtain ⟨its2, v2, p2⟩ := lstAt I q2
      exact ⟨false, by simp, .tuple_list p1 p2 hu0, .tuple_list p1 p2 hu0⟩
    | tup es =>
      obtain ⟨b', ys, e2, q2, r2⟩ := h2
      cases e2
      obtain ⟨its2, v2, p2⟩ := tupAt I q2
      have he := d_each ih l r1 r2 v1 v2
      refine ⟨_, ?_, RcAt.tuples p1 p2 hu0 he, RcNeAt.tuples p1 p2 hu0 he⟩
      have z1 : its.toArray.size = ds.length := by rw [List.size_toArray, <- v1.length, r1.len]
      have z2 : its2.toArray.size = es.length := by rw [List.size_toArray, <- v2.length, r2.len]
      rw [z1, z2]
      by_cases hl : ds.length = es.length
      · rw [<- hl, Nat.min_self, show (ds.length == ds.length) = true by simp, Bool.and_true, agree_all hl]
        exact ⟨fun z => by rw [z], fun z => by injection z⟩
      · rw [show (ds.length == es.length) = false by simpa using hl, Bool.and_false]
        exact ⟨fun z => by (cases z), fun z => by injection z with z; rw [z] at hl; exact absurd rfl hl⟩
  | lst ds =>
    obtain ⟨a', xs, e1, q1, r1⟩ := h1
    cases e1
    obtain ⟨its, v1, p1⟩ := lstAt I q1
    cases e with
    | int i => have e1 : V.ref b = V.int i := h2; cases e1
    | str i => have e1 : V.ref b = V.str i := h2; cases e1
    | tup es =>
      obtain ⟨b', ys, e2, q2, r2⟩ := h2
      cases e2
      obtain ⟨its2, v2, p2⟩ := tupAt I q2
      exact ⟨false, by simp, .list_tuple p1 p2 hu0, .list_tuple p1 p2 hu0⟩
    | lst es =>
      obtain ⟨b', ys, e2, q2, r2⟩ := h2
      cases e2
      obtain ⟨its2, v2, p2⟩ := lstAt I q2
      have z1 : its.toArray.size = ds.length := by rw [List.size_toArray, <- v1.length, r1.len]
      have z2 : its2.toArray.size = es.length := by rw [List.size_toArray, <- v2.length, r2.len]
      by_cases hl : ds.length = es.length
      · have he := d_each ih l r1 r2 v1 v2
        refine ⟨_, ?_, RcAt.lists p1 p2 (by rw [z1, z2, hl]) hu0 he, RcNeAt.lists p1 p2 (by rw [z1, z2, hl]) hu0 he⟩
        rw [z1, agree_all hl]
        exact ⟨fun z => by rw [z], fun z => by injection z⟩
      · refine ⟨false, ?_, RcAt.lists_lengths p1 p2 (by rw [z1, z2]; simpa using hl) hu0, RcNeAt.lists_lengths p1 p2 (by rw [z1, z2]; simpa using hl) hu0⟩
        exact ⟨fun z => by (cases z), fun z => by injection z with z; rw [z] at hl; exact absurd rfl hl⟩
open PySem.SeqAt in
theorem d_eq (I : Inv X pins σ H s) : ∀ (n : Nat) {d e : Dt} {x y : V} {v u : Value} {A : Around}, Dt.Lim n d -> A.units + n < cLine -> DAt X.K H d x -> DAt X.K H e y -> RelV x v -> RelV y u -> ∃ b : Bool, (b = true ↔ d = e) /\ EqAt A s v u b := by
  have atom : ∀ (n : Nat) {d e : Dt} {x y : V} {v u : Value} {A : Around}, (∀ a, x ≠ .ref a) -> A.units < cLine -> DAt X.K H d x -> DAt X.K H e y -> RelV x v -> RelV y u -> ∃ b : Bool, (b = true ↔ d = e) /\ EqAt A s v u b := by
    intro n d e x y v u A hx hu h1 h2 rx ry
    cases d with
    | int i =>
      have e1 : x = _ := h1
      subst e1
      obtain ⟨t, rfl⟩ := rx
      exact d_eq_int I hu h2 ry
    | str i =>
      have e1 : x = _ := h1
      subst e1
      obtain ⟨t, rfl⟩ := rx
      exact d_eq_str I hu h2 ry
    | tup ds => obtain ⟨a, xs, e1, _⟩ := h1; exact absurd e1 (hx a)
    | lst ds => obtain ⟨a, xs, e1, _⟩ := h1; exact absurd e1 (hx a)
  intro n
  induction n with
  | zero =>
    intro d e x y v u A l hu h1 h2 rx ry
    refine atom 0 (fun a => ?_) (by omega) h1 h2 rx ry
    rintro rfl
    cases d with
    | int i => have e1 : V.ref a = V.int i := h1; cases e1
    | str i => have e1 : V.ref a = V.str i := h1; cases e1
    | tup ds => exact l.elim
    | lst ds => exact l.elim
  | succ n ih =>
    intro d e x y v u A l hu h1 h2 rx ry
    have hu0 : A.units < cLine := by omega
    by_cases hx : ∃ a, x = .ref a
    · obtain ⟨a, rfl⟩ := hx
      cases rx
      by_cases hy : ∃ b, y = .ref b
      · obtain ⟨b, rfl⟩ := hy
        cases ry
        by_cases hab : a = b
        · subst hab
          have e' := d_inj I (n + 1) l h1 h2
          exact ⟨true, by simp [e'], .same _⟩
        · obtain ⟨k, h3, h4, _⟩ := d_rc I hu0 (fun {d e x y v u} l a b c d' => ih (d := d) (e := e) (x := x) (y := y) (v := v) (u := u) l (by rw [in1_units]; omega) a b c d') l h1 h2
          exact ⟨k, h3, .of_refs hab h4⟩
      · have q : ∀ k : Bool, k = false -> (k = true ↔ d = e) := by
          intro k hk
          subst hk
          refine ⟨fun z => by (cases z), fun z => ?_⟩
          subst z
          cases d with
          | int i => have e1 : V.ref a = V.int i := h1; cases e1
          | str i => have e1 : V.ref a = V.str i := h1; cases e1
          | tup ds => obtain ⟨b, xs, e1, _⟩ := h2; exact absurd ⟨b, e1⟩ hy
          | lst ds => obtain ⟨b, xs, e1, _⟩ := h2; exact absurd ⟨b, e1⟩ hy
        cases e with
        | tup es => obtain ⟨b, xs, e1, _⟩ := h2; exact absurd ⟨b, e1⟩ hy
        | lst es => obtain ⟨b, xs, e1, _⟩ := h2; exact absurd ⟨b, e1⟩ hy
        | int j =>
          have e2 : y = _ := h2
          subst e2
          obtain ⟨t', rfl⟩ := ry
          cases d with
          | int i => have e1 : V.ref a = V.int i := h1; cases e1
          | str i => have e1 : V.ref a = V.str i := h1; cases e1
          | tup ds =>
            obtain ⟨a', xs, e1, q1, r1⟩ := h1
            cases e1
            obtain ⟨its, v1, p1⟩ := tupAt I q1
            exact ⟨false, q _ rfl, .tuple_int j t' p1 hu0⟩
          | lst ds =>
            obtain ⟨a', xs, e1, q1, r1⟩ := h1
            cases e1
            obtain ⟨its, v1, p1⟩ := lstAt I q1
            exact ⟨false, q _ rfl, .list_int j t' p1 hu0⟩
        | str j =>
          have e2 : y = _ := h2
          subst e2
          obtain ⟨t', rfl⟩ := ry
          cases d with
          | int i => have e1 : V.ref a = V.int i := h1; cases e1
          | str i => have e1 : V.ref a = V.str i := h1; cases e1
          | tup ds =>
            obtain ⟨a', xs, e1, q1, r1⟩ := h1
            cases e1
            obtain ⟨its, v1, p1⟩ := tupAt I q1
            exact ⟨false, q _ rfl, .tuple_str j t' p1 hu0⟩
          | lst ds =>
            obtain ⟨a', xs, e1, q1, r1⟩ := h1
            cases e1
            obtain ⟨its, v1, p1⟩ := lstAt I q1
            exact ⟨false, q _ rfl, .list_str j t' p1 hu0⟩
    · exact atom n (fun a z => hx ⟨a, z⟩) hu0 h1 h2 rx ry
end
section
variable {X : Cx}
inductive RDI (K : PySem.W.Frag) (A : Around) (ne : Bool) (x : V) (y : V) (H : Hp) (Q : VK) : Prop where
  | mk (n : _) (d : _) (e : _) (a : _) (b : _) (c1 : x = .ref a) (c2 : y = .ref b) (c3 : Dt.Lim (n + 1) d) (c4 : A.units + n + 1 < cLine) (c5 : DAt K H d x) (c6 : DAt K H e y) (c7 : ∀ k : Bool, (k = true ↔ d = e) -> Q (.bl (if ne then !k else k)) H)
def rD (K : PySem.W.Frag) (A : Around) (ne : Bool) : R2 := fun x y H Q => RDI K A ne x y H Q
theorem op_eqD : OpR X (compareOp .Eq) (rD X.K X.A false) := by
  intro pins s σ H x y v u Q I rx ry h
  obtain ⟨n, d, e, a, b, rfl, rfl, hl, hu, h1, h2, q⟩ := h
  cases rx; cases ry
  obtain ⟨k, h3, h4, _⟩ := d_rc I (A := X.A) (by omega) (fun {d e x y v u} l a b c d' => d_eq I n l (by rw [in1_units]; omega) a b c d') hl h1 h2
  exact h4 X.prog X.w _ _ ⟨.bl k, H, I, rfl, q k h3⟩
theorem op_neD : OpR X (compareOp .NotEq) (rD X.K X.A true) := by
  intro pins s σ H x y v u Q I rx ry h
  obtain ⟨n, d, e, a, b, rfl, rfl, hl, hu, h1, h2, q⟩ := h
  cases rx; cases ry
  obtain ⟨k, h3, _, h4⟩ := d_rc I (A := X.A) (by omega) (fun {d e x y v u} l a b c d' => d_eq I n l (by rw [in1_units]; omega) a b c d') hl h1 h2
  exact h4 X.prog X.w _ _ ⟨.bl (!k), H, I, rfl, q k h3⟩

theorem call_isi : CallR X (.builtin "isinstance") (fun xs H Q => ∃ x n t b, xs = [x, .ty n] /\ TyOf X.K H x t /\ PySem.W.kitOne X.K t (.type n) = some b /\ Q (.bl b) H) := by
  intro pins s σ H xs us Q I r h
  obtain ⟨x, n, t, b, rfl, h1, h2, q⟩ := h
  obtain ⟨u, w', rfl, r1, r2⟩ := vals2 r
  cases (show w' = Value.type n from r2)
  exact isinst_ok I r1 h1 h2 fun tk => ⟨.bl b, H, I.tok tk, rfl, q⟩
end
def PathV (H : Hp) (v : V) (p : List Int) : Prop := ∃ l, v = .ref l /\ H l = some (.lst (p.map V.int))
theorem PathV.same {H H' : Hp} {v : V} {p : List Int} (h : PathV H v p) (s : Same H H') : PathV H' v p := let ⟨l, e, q⟩ := h; ⟨l, e, s _ _ q⟩
theorem kit_ii (K : PySem.W.Frag) : PySem.W.kitOne K (.type "int") (.type "int") = some true := by rfl
theorem kit_ib (K : PySem.W.Frag) : PySem.W.kitOne K (.type "int") (.type "bool") = some false := by first | rfl | kernel_rfl
theorem kit_ll (K : PySem.W.Frag) : PySem.W.kitOne K (.type "list") (.type "list") = some true := by rfl
theorem kit_tt (K : PySem.W.Frag) : PySem.W.kitOne K (.type "tuple") (.type "tuple") = some true := by rfl
theorem kit_ss (K : PySem.W.Frag) : PySem.W.kitOne K (.type "str") (.type "str") = some true := by rfl
end NC
namespace NC
open PySem PySem.Spec PyProof.Rows L2
section
open PySem.W
variable {α : Type} {n : Nat} {lt : Nat -> Nat -> Bool} {cmp : Nat -> Nat -> (Bool -> Shared -> Prop) -> Shared -> Prop} {s : Shared}
theorem kasWp_of {R : α -> Prop} {Q : α -> Shared -> Prop} (ask : ∀ i j C, i < n -> j < n -> C (lt i j) s -> cmp i j C s) (fin : ∀ a, R a -> Q a s) : ∀ {t : KasT α}, KOk n lt t R -> t.kasWp cmp Q s
  | .ret a, h => fin a h
  | .ask i j k, h => ask i j _ h.1 h.2.1 (kasWp_of ask fin (t := k (lt i j)) h.2.2)
end
section
variable {prog : Program} {w : World} {A : Around} {E : Value -> Shared -> Prop} {s : Shared}
theorem lt_lists {a b : Addr} {xs ys : List Value} {ns ms : List Int} {Q : Bool -> Shared -> Prop} (hu : A.units < cLine) (ha : s.heap.IsList a xs.toArray) (hb : s.heap.IsList b ys.toArray) (hx : IntsAre xs ns) (hy : IntsAre ys ms)
    (h : Q (lex ns ms) s) : wpAny (model prog w) A (keyLt' oneType' (.ref a) (.ref b)) Q E s := by
  obtain ⟨⟨cls, dd, data, sl⟩, ho, hc, n, hd⟩ := id ha
  obtain ⟨⟨cls2, dd2, data2, sl2⟩, ho2, hc2, n2, hd2⟩ := id hb
  simp only at hc hd hc2 hd2
  subst hc hd hc2 hd2
  rw [keyLt'_oneType, oneLt'_eq]
  simp only [if_true]
  refine wpAny_bind (wpAny_cRoomFor hu (wpAny_bind (wpAny_callSpecialIfBound?_slot ⟨_, ho, rfl⟩ PySem.F.slot_list_lt
    (call_meets PySem.F.slot_list_lt ⟨_, ho, rfl⟩ PySem.F.entry_list_lt (PySem.F.args_list_lt_2 _ _) (list_lt a b xs.toArray ys.toArray n n2 dd dd2 sl sl2 ns ms (by simpa using hx) (by simpa using hy)) ⟨ho, ho2, ?_⟩))))
  exact wpAny_truthy_bool h
theorem snd_zip : ∀ vs : List Value, (vs.zip vs).map (·.2) = vs
  | [] => rfl
  | v :: r => by rw [List.zip_cons_cons, List.map_cons, snd_zip r]
theorem snd_pairs (vs : List Value) : (pairsOf vs).map (·.2) = vs.toArray := by
  apply Array.toList_inj.mp
  rw [Array.toList_map, pairsOf_toList, snd_zip]
theorem sorted_short {l : Addr} {vs : List Value} {Q : Value -> Shared -> Prop} (hl : s.heap.IsList l vs.toArray) (h2 : vs.length < 2) (h : Q (.ref (s.heap.objs.size + 1)) { s with heap := sortedAll s.heap vs vs.toArray }) :
    wpAny (model prog w) A (call (.builtin "sorted") [.ref l]) Q E s := by
  refine Calls.call_function_entry kind_sorted plain_sorted entry_sorted (args_sorted1 _) (show wpAny _ _ (Builtin.«sorted» _) _ _ _ from ?_)
  unfold Builtin.«sorted»
  refine wpAny_bind (m := checkCount "sorted" 1 1 _) (wpAny_pure (wpAny_bind (collect_list hl (wpAny_bind (wpAny_newList ?_ (by rw [sizeLine_eq]; omega))) (by rw [sizeLine_eq]; omega))))
  have z : ((s.heap.push (seqObj "list" #[] 0)).update s.heap.objs.size (Obj.mapSeq (· ++ vs.toArray))).objs.size = s.heap.objs.size + 1 := by rw [Heap.size_update, size_push']
  generalize hG : (s.heap.push (seqObj "list" #[] 0)).update s.heap.objs.size (Obj.mapSeq (· ++ vs.toArray)) = G at z
  have ho : (G.push (seqObj "list" vs.toArray 0)).get? (s.heap.objs.size + 1) = some (seqObj "list" vs.toArray 0) := by rw [<- z]; exact Heap.get?_push_size _ rfl
  show wpAny _ _ _ _ _ { s with heap := G.push (seqObj "list" vs.toArray 0) }
  rw [z]
  refine wpAny_bind (wpAny_holding (wpAny_call_entry slot_list_sort ⟨_, ho, rfl⟩ entry_list_sort ?_ (args_list_sort _)))
  rw [list_sort_plain]
  refine wpAny_bind (listItems_at ho rfl (wpAny_bind (listUpdate_at ho rfl ?_ (by rw [List.size_toArray, sizeLine_eq]; omega) (by show (#[] : Array Value).size <= _; simp))))
  obtain ⟨e1, ho1⟩ : ∃ e1, ((G.push (seqObj "list" vs.toArray 0)).update (s.heap.objs.size + 1) (Obj.mapSeq fun _ => #[])).get? (s.heap.objs.size + 1) = some (seqObj "list" #[] e1) := ⟨_, get?_update_seq ho (fun _ => #[])⟩
  refine wpAny_bind (seqEpoch_at ho1 rfl (wpAny_bind (wpAny_newTuple (wpAny_bind (wpAny_newList (wpAny_holding ?_))))))
  have hlt : s.heap.objs.size + 1 < (G.push (seqObj "list" vs.toArray 0)).objs.size := Heap.lt_size ho
  have ho6 : ((((G.push (seqObj "list" vs.toArray 0)).update (s.heap.objs.size + 1) (Obj.mapSeq fun _ => #[])).push (seqObj "tuple" vs.toArray 0)).push (seqObj "list" #[] 0)).get? (s.heap.objs.size + 1) = some (seqObj "list" #[] e1) := by
    rw [Heap.get?_push_ne _ _ _ (by rw [size_push', Heap.size_update]; exact Nat.ne_of_lt (Nat.lt_succ_of_lt hlt)), Heap.get?_push_ne _ _ _ (by rw [Heap.size_update]; exact Nat.ne_of_lt hlt)]
    exact ho1
  show wpAny (model prog w) _ _ _ _ { s with heap := (((G.push (seqObj "list" vs.toArray 0)).update (s.heap.objs.size + 1) (Obj.mapSeq fun _ => #[])).push (seqObj "tuple" vs.toArray 0)).push (seqObj "list" #[] 0) }
  dsimp only
  have hz2 : vs.toArray.size < 2 := by simpa using h2
  rw [if_pos hz2, if_pos hz2]
  refine wpAny_bind (wpAny_pure ?_)
  rw [StateT.run_pure]
  refine wpAny_bind (wpAny_pure ?_)
  dsimp only
  have hout : (arrOf (SortSt.mk' general' (vs.toArray.zip vs.toArray) #[] 7 none)).map (·.2) = vs.toArray := by
    show (pairsOf vs).map (·.2) = vs.toArray
    exact snd_pairs vs
  rw [hout]
  refine wpAny_bind (seqEpoch_at ho6 rfl (wpAny_bind (listUpdate_at ho6 rfl ?_ (by simp) (by rw [List.size_toArray, sizeLine_eq]; omega))))
  simp only [bne_self_eq_false, Bool.false_eq_true, if_false]
  refine wpAny_pure ⟨_, rfl, wpAny_pure ⟨_, rfl, ?_⟩⟩
  subst hG
  exact h
end
section
variable {P : Program} {w : World} {H : Hp} {h : Heap} {a : Addr} {o : HO}
theorem objok_there (x : ObjOk P w H h a o) : ∃ ob, h.get? a = some ob := by
  cases o with
  | lst xs => obtain ⟨_, _, _, _, e⟩ := x; exact ⟨_, e⟩
  | tup xs => obtain ⟨_, _, _, ob, e, _⟩ := x; exact ⟨_, e⟩
  | dK kvs => obtain ⟨_, _, _, _, ob, _, _, e, _⟩ := x; exact ⟨_, e⟩
  | dT kvs => obtain ⟨_, _, _, _, ob, _, _, e, _⟩ := x; exact ⟨_, e⟩
  | set S n => obtain ⟨ob, _, _, _, e, _⟩ := x; exact ⟨_, e⟩
  | ins C dx fs => obtain ⟨_, _, _, e, _⟩ := x; exact ⟨_, e⟩
  | own y => exact x
  | xd fs => obtain ⟨_, ⟨_, _, _, e, _⟩, _⟩ := x; exact ⟨_, e⟩
  | rng lo hi => obtain ⟨_, _, _, e⟩ := x; exact ⟨_, e⟩
  | frz ob u => obtain ⟨e, _⟩ := x; exact ⟨_, e⟩
  | tbl ps => exact ⟨_, show h.get? a = some _ from x⟩
  | met f y => exact ⟨_, show h.get? a = some _ from x⟩
  | ext φ => obtain ⟨_, e, _⟩ := x; exact e
end
section
variable {X : Cx} {pins : List (Addr × Obj)} {σ : L2.St} {H : Hp} {s : Shared}
theorem inv_laidN {h' : Heap} {D : Addr} {o : HO} {t' : Nat} (I : Inv X pins σ H s) (keep : ∀ b u, b ≠ X.env.locals -> s.heap.get? b = some u -> h'.get? b = some u) (ns : ∀ m, s.heap.Ns X.env.locals m -> h'.Ns X.env.locals m)
    (hn : s.heap.get? D = none) (new : ObjOk X.prog X.w (upd H D o) h' D o) : H D = none /\ Inv X pins σ (upd H D o) { s with heap := h', toks := t' } := by
  have hD : H D = none := by
    cases q : H D with
    | none => rfl
    | some u =>
      obtain ⟨ob, e⟩ := objok_there (I.hok D u q)
      rw [hn] at e; cases e
  have neD : ∀ b u, s.heap.get? b = some u -> b ≠ D := fun b u e z => by rw [z, hn] at e; cases e
  have trD : ∀ b u, H b = some u -> b ≠ D := fun b u e z => by rw [z, hD] at e; cases e
  have trL : ∀ b u, H b = some u -> b ≠ X.env.locals := fun b u e z => by rw [z, I.free] at e; cases e
  refine ⟨hD, I.step (g' := s.gens) (d' := s.drawn) (ch := []) (fun _ z => nomatch z) (fun b u nL _ _ e _ => keep b u nL e) (fun b u nL _ _ e _ => ⟨u.slots, keep b u nL e⟩) (fun b u _ e n => by rw [upd_ne (neD b u e)]; exact n)
    (fun b u _ e => ?_) (fun b xs e => by rw [upd_ne (trD b _ e)]; exact e) (fun b ob xs e => by rw [upd_ne (trD b _ e)]; exact e) (fun b qs e => ⟨#[], by rw [upd_ne (trD b _ e), e]; simp⟩) ns (fun b u e => ?_) I.bare⟩
  · by_cases hb : b = X.env.locals
    · obtain ⟨m, hm, _⟩ := I.loc
      obtain ⟨o', _, _, e', _⟩ := ns m hm
      rw [hb]
      exact ⟨o', e'⟩
    · exact ⟨u, keep b u hb e⟩
  · by_cases hb : b = D
    · subst hb
      rw [upd_same] at e
      cases e
      exact new
    · rw [upd_ne hb] at e
      refine (I.hok b u e).stay (fun c v hc q => keep c v ?_ q) (fun c q => by rw [upd_ne (trD c _ q)]; exact q) fun c xs q => by rw [upd_ne (trD c _ q)]; exact q
      rcases hc with rfl | hc
      · exact trL c u e
      · exact trL c _ hc
end
section
variable {X : Cx}
inductive RSortI (K : PySem.W.Frag) (xs : List V) (H : Hp) (Q : VK) : Prop where
  | mk (a : _) (vs : _) (ps : _) (c1 : xs = [.ref a]) (c2 : SqL K H a vs) (c3 : vs.length < 64) (c4 : Paired (PathV H) vs ps) (c5 : ∀ vs' ps' l H', ps'.Perm ps -> ps'.Pairwise (fun a b => lex b a = false) -> Paired (PathV H) vs' ps' -> H l = none -> Same H H' -> H' l = some (.lst vs') -> Q (.ref l) H')
def rSort (K : PySem.W.Frag) : List V -> Hp -> VK -> Prop := fun xs H Q => RSortI K xs H Q
theorem paired_pick {α β : Type} {F : α -> β -> Prop} {xs : List α} {ys : List β} (p : Paired F xs ys) {dx : α} {dy : β} : ∀ {is : List Nat}, (∀ i ∈ is, i < ys.length) -> Paired F (is.map fun i => xs.getD i dx) (is.map fun i => ys.getD i dy)
  | [], _ => .nil
  | i :: is, h => by
    refine .cons ?_ (paired_pick p fun j hj => h j (List.mem_cons_of_mem _ hj))
    have hi : i < ys.length := h i List.mem_cons_self
    have hx : i < xs.length := by rw [Paired.length p]; exact hi
    obtain ⟨y, e, q⟩ := paired_get p (show xs[i]? = some xs[i] by simp [hx])
    have e1 : xs.getD i dx = xs[i] := by simp [hx]
    have e2 : ys.getD i dy = y := by rw [List.getD_eq_getElem?_getD, e]; rfl
    show F (xs.getD i dx) (ys.getD i dy)
    rw [e1, e2]
    exact q
theorem map_getD_range {α : Type} (ys : List α) (d : α) : (List.range ys.length).map (fun i => ys.getD i d) = ys := by
  refine List.ext_getElem (by simp) fun i h1 h2 => ?_
  simp
  have : i < ys.length := by simpa using h1
  simp [this]
theorem call_sortP (hu : X.A.units + 8 < cLine) : CallR X (.builtin "sorted") (rSort X.K) := by
  intro pins s σ H xs us Q I r h
  obtain ⟨a, vs, ps, rfl, hq, hlen, hp, k⟩ := h
  obtain ⟨u, rfl, ru⟩ := vals1 r
  cases (show u = Value.ref a from ru)
  obtain ⟨its, rv, pl, hz⟩ := I.list hq
  have hl := pl.isList
  have hn : its.length = ps.length := by rw [<- rv.length]; exact Paired.length hp
  have hf : H (s.heap.objs.size + 1) = none := I.hok.fresh (Nat.le_succ _)
  by_cases h2 : its.length < 2
  · refine sorted_short hl h2 ?_
    obtain ⟨e, he⟩ := sortedAll_at s.heap its its.toArray
    have I' : Inv X pins σ (upd H (s.heap.objs.size + 1) (.lst vs)) { s with heap := sortedAll s.heap its its.toArray } :=
      I.laid (t' := s.toks) (fun b o q => sortedAll_old q) (Nat.le_succ _) ⟨hz, its, e, rv, he⟩
    have srt : ps.Pairwise (fun a b => lex b a = false) := by
      match ps, hn with
      | [], _ => exact List.Pairwise.nil
      | [_], _ => exact List.pairwise_singleton _ _
      | _ :: _ :: _, hn => simp at hn; omega
    exact ⟨.ref _, _, I', rfl, k vs ps _ _ (List.Perm.refl _) srt hp hf (same_new hf) upd_same⟩
  · obtain ⟨m, F⟩ := I.fr
    -- what stands at a path's list
    have items : ∀ (i : Nat) (v : Value), its[i]? = some v -> ∃ b xs p n, v = .ref b /\ ps[i]? = some p /\ IntsAre xs p /\ s.heap.get? b = some { cls := .type "list", data := .seq xs.toArray n } /\ b ≠ X.env.locals /\ X.base.get? b = none := by
      intro i v e
      have hi : i < vs.length := by rw [rv.length]; exact (List.getElem?_eq_some_iff.mp e).1
      obtain ⟨p, ep, b, eb, hb⟩ := paired_get hp (show vs[i]? = some vs[i] by simp [hi])
      obtain ⟨v', ev, rl⟩ := rv.get (show vs[i]? = some vs[i] by simp [hi])
      rw [e] at ev
      cases ev
      rw [eb] at rl
      cases (show v = Value.ref b from rl)
      obtain ⟨_, xs, n, r1, e1⟩ := (show ObjOk X.prog X.w H s.heap b (.lst (p.map V.int)) from I.hok b _ hb)
      refine ⟨b, xs, p, n, rfl, ep, intsAre_of r1, e1, ?_, ?_⟩
      · intro z; rw [z, I.free] at hb; cases hb
      · cases q : X.base.get? b with
        | none => rfl
        | some o => rw [(I.bs b o q).2] at hb; cases hb
    refine PySem.W.kas_sorted (T := .type "list") F news_all hl (by omega) (by rw [hn, <- Paired.length hp]; exact hlen) ?_ (by rfl) ?_
    · intro h' F' N' v hv
      obtain ⟨i, hi, e⟩ := List.getElem_of_mem hv
      obtain ⟨b, xs, p, n, rfl, _, _, e1, n1, n2⟩ := items i v (by rw [<- e]; simp [hi])
      exact PySem.W.kitAt_ty _ _ ⟨_, (N' _ (mem_allNews n1 n2 e1)).1, rfl⟩
    · intro D e1 h' F' N' hD
      have at' : ∀ (i : Nat) (v : Value), its[i]? = some v -> ∃ b xs p, v = .ref b /\ ps[i]? = some p /\ IntsAre xs p /\ h'.IsList b xs.toArray := by
        intro i v e
        obtain ⟨b, xs, p, n, e2, ep, hI, eo, n1, n2⟩ := items i v e
        exact ⟨b, xs, p, e2, ep, hI, _, (N' _ (List.mem_cons_of_mem _ (mem_allNews n1 n2 eo))).1, rfl, n, rfl⟩
      refine kasWp_of (n := its.length) (lt := ltK fun i => ps.getD i []) (R := fun p => Pm its.length p /\ Up (fun i => ps.getD i []) p its.length) ?_ ?_ (k_sort (by omega))
      · intro i j C hi hj hC
        obtain ⟨b, xs, p, e2, ep, hI, L1⟩ := at' i its[i] (by simp [hi])
        obtain ⟨b', xs', p', e2', ep', hI', L2⟩ := at' j its[j] (by simp [hj])
        have g1 : its.getD i Value.none = .ref b := by rw [<- e2]; simp [hi]
        have g2 : its.getD j Value.none = .ref b' := by rw [<- e2']; simp [hj]
        have q1 : ps.getD i [] = p := by rw [List.getD_eq_getElem?_getD, ep]; rfl
        have q2 : ps.getD j [] = p' := by rw [List.getD_eq_getElem?_getD, ep']; rfl
        show wpAny _ _ (keyLt' oneType' (its.getD i Value.none) (its.getD j Value.none)) _ _ _
        rw [g1, g2]
        refine lt_lists (s := { s with heap := h' }) (by show X.A.units + 1 + 1 < cLine; omega) L1 L2 hI hI' ?_
        have e : ltK (fun i => ps.getD i []) i j = lex p p' := by show lex (ps.getD i []) (ps.getD j []) = lex p p'; rw [q1, q2]
        rw [e] at hC
        exact hC
      · rintro p ⟨P1, P2⟩
        have hmem : ∀ i ∈ p.toList, i < ps.length := fun i hi => by
          have q : i ∈ List.range its.length := (Array.perm_iff_toList_perm.mp P1.perm).mem_iff.mp hi
          rw [<- hn]; exact List.mem_range.mp q
        have hDn : ∀ q ∈ allNews X.base s.heap X.env.locals, q.1 ≠ D := fun q hq => Nat.ne_of_lt (hD q hq)
        refine PySem.W.KasFin.intro F' N' (.head hDn) fun h2' c F2 N2 => ?_
        have hDm := N2 _ List.mem_cons_self
        have keep : ∀ b o, b ≠ X.env.locals -> s.heap.get? b = some o -> h2'.get? b = some o := fun b o nb e => by
          cases q : X.base.get? b with
          | some u =>
            have := I.bk b u q
            rw [e] at this; cases this
            exact F2.keep b _ q
          | none => exact (N2 _ (List.mem_cons_of_mem _ (mem_allNews nb q e))).1
        have hnD : s.heap.get? D = none := by
          cases q : s.heap.get? D with
          | none => rfl
          | some o => exact absurd rfl (hDn _ (mem_allNews hDm.2.1 hDm.2.2 q))
        have ns : ∀ m', s.heap.Ns X.env.locals m' -> h2'.Ns X.env.locals m' := fun m' hm => by
          have e : m' = m := hm.eq_nsMap.trans F.ns.eq_nsMap.symm
          rw [e]
          exact F2.ns
        have pick := paired_pick hp (dx := V.non) (dy := []) hmem
        have pickV : Vals (p.toList.map fun i => vs.getD i V.non) (p.toList.map fun i => its.getD i Value.none) := paired_pick rv (dx := V.non) (dy := Value.none) fun i hi => by rw [hn]; exact hmem i hi
        have hlenp : p.toList.length = its.length := by rw [Array.length_toList, P1.size]
        obtain ⟨hD', I'⟩ := inv_laidN (o := .lst (p.toList.map fun i => vs.getD i V.non)) (t' := s.toks) I keep ns hnD
          ⟨by rw [List.length_map, hlenp, <- rv.length]; exact hz, _, c, pickV, hDm.1⟩
        refine ⟨.ref D, _, I', rfl, k _ _ D _ ?_ ?_ pick hD' (same_new hD') upd_same⟩
        · have q := (Array.perm_iff_toList_perm.mp P1.perm).map fun i => ps.getD i []
          rw [hn, map_getD_range] at q
          exact q
        · rw [List.pairwise_map, List.pairwise_iff_getElem]
          intro i j hi hj hij
          have hj' : j < its.length := by rw [<- hlenp]; exact hj
          have q := P2 i j (Nat.le_of_lt hij) hj'
          have g : ∀ (x : Nat) (hx : x < p.toList.length), p.getD x 0 = p.toList[x] := fun x hx => by
            have : x < p.size := by simpa using hx
            simp [Array.getD, this]
          unfold le' Kp at q
          rw [g i hi, g j hj] at q
          exact q
end
end NC
namespace NC
open PySem PySem.Spec PyProof.Rows L2
theorem tseq_cut {t u : TS} {D : Ends} {σ : L2.St} {H : Hp} (h : ∀ K : L2.St -> Hp -> Prop, (∀ σ' H', u D σ' H' -> K σ' H') -> t { D with nx := K } σ H) : tSeq t u D σ H := h _ fun _ _ h => h
theorem len1 {us : List Value} (h : us.length = 1) : ∃ a, us = [a] := by
  rcases us with _ | ⟨a, _ | ⟨_, _⟩⟩
  · cases h
  · exact ⟨a, rfl⟩
  · cases h
theorem len2 {us : List Value} (h : us.length = 2) : ∃ a b, us = [a, b] := by
  rcases us with _ | ⟨a, us⟩
  · cases h
  · obtain ⟨b, rfl⟩ := len1 (Nat.succ.inj h)
    exact ⟨a, b, rfl⟩
theorem len3 {us : List Value} (h : us.length = 3) : ∃ a b c, us = [a, b, c] := by
  rcases us with _ | ⟨a, us⟩
  · cases h
  · obtain ⟨b, c, rfl⟩ := len2 (Nat.succ.inj h)
    exact ⟨a, b, c, rfl⟩
end NC
namespace NC
open PySem PySem.Spec PyProof.Rows L2

def BltAt (base : Heap) (mg : Str -> Option Value) : Prop := ∃ bm ob, mg "__builtins__" = some (.ref bm) /\ bm ≠ builtinsNs /\ base.get? bm = some ob /\ ob.cls = .type "module" /\ ob.dict = some builtinsNs /\ ob.data = .plain
theorem BltAt.mono {b b' : Heap} {mg : Str -> Option Value} (x : BltAt b mg) (k : ∀ a o, b.get? a = some o -> b'.get? a = some o) : BltAt b' mg := let ⟨bm, ob, h1, h2, h3, h4⟩ := x; ⟨bm, ob, h1, h2, k _ _ h3, h4⟩
def CodeX (c : Addr) (qual : Str) : HO := .ext fun h => h.CodeRec (.ref c) qual
abbrev fnObjX (name qual : Str) (params : Arguments) (body : List Stmt) (scope : Scope) (clos : List (Str × Addr)) (doc pm : Value) (c : Addr) (ctv : Value) : Obj :=
  { cls := .type "function", data := .func (PySem.W.fnX name qual params body scope clos .none .none doc pm none (.ref c) ctv) }
def FnObj (f c : Addr) (name qual : Str) (params : Arguments) (body : List Stmt) (scope : Scope) (clos : List (Str × Addr)) : HO := .ext fun h => ∃ doc pm ctv, h.get? f = some (fnObjX name qual params body scope clos doc pm c ctv)
def TabOk (H : Hp) (P : Addr) (pos : Pos) (qual : Str) : Prop := H P = some (.tbl #[]) ∨ ∃ c, H P = some (.tbl #[rawInt pos.line, rawInt pos.col, .ref c]) /\ H c = some (CodeX c qual)
def SameX (H H' : Hp) : Prop := ∀ b o, (∀ ps, o ≠ .tbl ps) -> H b = some o -> H' b = some o
section
variable {H H1 H2 H' : Hp} {b : Addr}
theorem SameX.of (s : Same H H') : SameX H H' := fun b o _ h => s b o h
theorem SameX.refl (H : Hp) : SameX H H := fun _ _ _ h => h
theorem SameX.trans (a : SameX H H1) (c : SameX H1 H2) : SameX H H2 := fun b o n h => c b o n (a b o n h)
theorem SameX.tups (s : SameX H H') : Tups H H' := fun b xs h => s b _ (fun _ z => by cases z) h
theorem SameX.lst {xs : List V} (s : SameX H H') (h : H b = some (.lst xs)) : H' b = some (.lst xs) := s b _ (fun _ z => by cases z) h
theorem SameX.tup {xs : List V} (s : SameX H H') (h : H b = some (.tup xs)) : H' b = some (.tup xs) := s b _ (fun _ z => by cases z) h
theorem SameX.free (s : SameX H H') (n : H' b = none) : H b = none ∨ ∃ ps, H b = some (.tbl ps) := by
  cases q : H b with
  | none => exact .inl rfl
  | some o =>
    cases o with
    | tbl ps => exact .inr ⟨ps, rfl⟩
    | _ => exact absurd (s b _ (fun _ z => by cases z) q) (by rw [n]; intro z; cases z)
end
theorem TabOk.same {H H' : Hp} {P : Addr} {pos : Pos} {qual : Str} (t : TabOk H P pos qual) (s : Same H H') : TabOk H' P pos qual := by
  rcases t with t | ⟨c, t1, t2⟩
  · exact .inl (s _ _ t)
  · exact .inr ⟨c, s _ _ t1, s _ _ t2⟩
def NL (H H' : Hp) : Prop := ∀ b o, (∀ xs, o ≠ .lst xs) -> H b = some o -> H' b = some o
theorem NL.of_same {H H' : Hp} (s : Same H H') : NL H H' := fun b o _ h => s b o h
theorem NL.of_keep {H H' : Hp} {l : Addr} {xs : List V} (k : Keep [l] H H') (h : H l = some (.lst xs)) : NL H H' := fun b o n q => k b o (fun z => by
  rw [List.mem_singleton.mp z, h] at q
  cases q
  exact n xs rfl) q
theorem TabOk.nl {H H' : Hp} {P : Addr} {pos : Pos} {qual : Str} (t : TabOk H P pos qual) (s : NL H H') : TabOk H' P pos qual := by
  rcases t with t | ⟨c, t1, t2⟩
  · exact .inl (s _ _ (fun _ z => by cases z) t)
  · exact .inr ⟨c, s _ _ (fun _ z => by cases z) t1, s _ _ (fun _ z => by cases z) t2⟩

section
variable {X : Cx} {pins : List (Addr × Obj)} {σ : L2.St} {H : Hp} {s : Shared}
theorem tbl_at (I : Inv X pins σ H s) {P : Addr} {ps : Array Value} (h : H P = some (.tbl ps)) : s.heap.get? P = some (PySem.W.tabObj ps) := I.hok P _ h
theorem codeX_ok {P : Program} {w : World} {H : Hp} {h : Heap} {c : Addr} {qual : Str} (x : h.CodeRec (.ref c) qual) : ObjOk P w H h c (CodeX c qual) := by
  obtain ⟨c', o, vs, t, e, g, r⟩ := id x
  cases e
  refine ⟨x, ⟨o, g⟩, fun h1 h2 x1 k => ?_⟩
  obtain ⟨c', o, vs, t, e, g, r⟩ := x1
  cases e
  exact ⟨_, o, vs, t, rfl, k _ g, r⟩
theorem fnObj_ok {P : Program} {w : World} {H : Hp} {h : Heap} {f c : Addr} {name qual : Str} {params : Arguments} {body : List Stmt} {scope : Scope} {clos : List (Str × Addr)} {doc pm ctv : Value}
    (x : h.get? f = some (fnObjX name qual params body scope clos doc pm c ctv)) : ObjOk P w H h f (FnObj f c name qual params body scope clos) :=
  ⟨⟨doc, pm, ctv, x⟩, ⟨_, x⟩, fun _ _ ⟨d, p, t, e⟩ k => ⟨d, p, t, k _ e⟩⟩
def tDef (P : Addr) (pos : Pos) (i : Nat) (name qual : Str) (params : Arguments) (body : List Stmt) (scope : Scope) (clos : List (Str × Addr)) : TS := fun D σ H =>
  TabOk H P pos qual /\ ∀ f c H', H f = none -> SameX H H' -> TabOk H' P pos qual -> H' c = some (CodeX c qual) -> H' f = some (FnObj f c name qual params body scope clos) ->
    (∀ Q : Addr, Q ≠ P -> ∀ ps, H Q = some (.tbl ps) -> H' Q = some (.tbl ps)) -> D.nx (σ.set i (some (.ref f))) H'
theorem among_hit (pos : Pos) (v : Value) : codeAmong pos [rawInt pos.line, rawInt pos.col, v] = some v := by
  show (if ((pos.line : Int) == pos.line && (pos.col : Int) == pos.col) = true then some v else _) = some v
  rw [if_pos (by simp)]
theorem ps_def {name qual : Str} {params : Arguments} {body : List Stmt} {scope : Scope} {pos : Pos} {i : Nat} {c0 P : Addr} {clos : List (Str × Addr)} (hcode : X.env.code = .ref c0) (hC : PySem.W.codeHdIn X.K c0 P = true) (BB : BltAt X.base X.mg)
    (hN : X.N.Nodup) (hi : X.N[i]? = some name) (hx : Loc X.env.scope name) (hcl : closureFor scope X.env = pure clos) (hq : qualnameIn X.env name name = qual) (hd0 : params.defaults = [] := by rfl) (hk0 : params.kw_defaults = [] := by rfl)
    (ha : annTrees params none X.env = [] := by rfl) (hf : X.fn name = true ∨ X.env.scope.names.lookup name = some .local := by first | exact .inl rfl | exact .inr rfl) :
    PS X (.FunctionDef name params body [] none [] scope none name pos) (tDef P pos i name qual params body scope clos) := by
  intro pins s σ H D I h
  obtain ⟨ht, k⟩ := h
  refine PySem.W.nestDef_K hd0 hk0 ha ?_
  rw [hq]
  have hg : s.heap.Ns mainGlobals X.mg := I.mod.glob.keeps I.bk
  have CH : PySem.W.CodeHd s.heap c0 P := PySem.W.codeHd_of_K I.kIn hC
  obtain ⟨bm, ob, b1, b2, b3, b4, b5, b6⟩ := BB
  have trk : ∃ ps, H P = some (.tbl ps) := by
    rcases ht with t | ⟨c, t, _⟩
    · exact ⟨_, t⟩
    · exact ⟨_, t⟩
  have nP : ∀ b o, X.base.get? b = some o -> b ≠ P := fun b o e z => by
    obtain ⟨ps, t⟩ := trk
    rw [z] at e
    rw [(I.bs P o e).2] at t
    cases t
  have hgP : mainGlobals ≠ P := by
    obtain ⟨o, es, ep, e, _⟩ := I.mod.glob
    exact nP _ _ e
  have hbG : bm ≠ mainGlobals := fun q => by
    obtain ⟨o, es, ep, e, hd, _⟩ := I.mod.glob
    rw [q, e] at b3
    cases b3
    rw [hd] at b6
    cases b6
  have hB : s.heap.BuiltinsAt X.mg P := ⟨bm, ob, b1, b2, hbG, nP _ _ b3, I.bk _ _ b3, b4, b5, b6⟩
  rcases ht with t | ⟨c, t, tc⟩
  · -- the first time
    have hP : s.heap.get? P = some (PySem.W.tabObj #[]) := tbl_at I t
    refine PySem.W.makeFunction_K (mg := X.mg) hcl I.ok.glob hg hcode CH hP True.intro rfl hgP hB fun c' ctv doc h' tk hx' hge hlt hrec htb => ?_
    have szf : s.heap.objs.size <= h'.objs.size := Nat.le_trans hge (Nat.le_of_lt hlt)
    have oldP : ∀ b o, b ≠ P -> s.heap.get? b = some o -> (h'.push (fnObjX name qual params body scope clos doc ((X.mg "__name__").getD .none) c' ctv)).get? b = some o := fun b o n e => Heap.get?_push_of_some _ (hx' b o n e)
    have nc : ∀ b o, s.heap.get? b = some o -> b ≠ c' := fun b o e => Nat.ne_of_lt (Nat.lt_of_lt_of_le (Heap.lt_size e) hge)
    have nf : ∀ b o, s.heap.get? b = some o -> b ≠ h'.objs.size := fun b o e => Nat.ne_of_lt (Nat.lt_of_lt_of_le (Heap.lt_size e) szf)
    have tr : ∀ b u, H b = some u -> ∃ o, s.heap.get? b = some o := fun b u e => objok_there (I.hok b u e)
    have hcf : c' ≠ h'.objs.size := Nat.ne_of_lt hlt
    have H'b : ∀ b o, b ≠ P -> (∃ ob, s.heap.get? b = some ob) -> H b = o -> (upd (upd (upd H P (.tbl #[rawInt pos.line, rawInt pos.col, .ref c'])) c' (CodeX c' qual)) h'.objs.size (FnObj h'.objs.size c' name qual params body scope clos)) b = o := fun b o n ⟨ob, e⟩ q => by
      rw [upd_ne (nf b ob e), upd_ne (nc b ob e), upd_ne n, q]
    have nfree : ∀ b, H b = none -> b ≠ P := fun b n z => by rw [z, t] at n; cases n
    have hPb : (∃ ob, s.heap.get? P = some ob) := ⟨_, hP⟩
    have eP : (upd (upd (upd H P (.tbl #[rawInt pos.line, rawInt pos.col, .ref c'])) c' (CodeX c' qual)) h'.objs.size (FnObj h'.objs.size c' name qual params body scope clos)) P = some (.tbl #[rawInt pos.line, rawInt pos.col, .ref c']) := by
      rw [upd_ne (nf P _ hP), upd_ne (nc P _ hP), upd_same]
    have eC : (upd (upd (upd H P (.tbl #[rawInt pos.line, rawInt pos.col, .ref c'])) c' (CodeX c' qual)) h'.objs.size (FnObj h'.objs.size c' name qual params body scope clos)) c' = some (CodeX c' qual) := by
      rw [upd_ne hcf, upd_same]
    have I' : Inv X pins σ (upd (upd (upd H P (.tbl #[rawInt pos.line, rawInt pos.col, .ref c'])) c' (CodeX c' qual)) h'.objs.size (FnObj h'.objs.size c' name qual params body scope clos))
        { s with heap := h'.push (fnObjX name qual params body scope clos doc ((X.mg "__name__").getD .none) c' ctv), toks := tk } := by
      refine I.step (g' := s.gens) (d' := s.drawn) (ch := []) (fun _ z => nomatch z) (fun b o _ _ _ e n => oldP b o (nfree b n) e) (fun b o _ _ _ e n => ⟨o.slots, oldP b o (nfree b n) e⟩) (fun b o _ e n => H'b b none (nfree b n) ⟨o, e⟩ n)
        (fun b o _ e => ?_) (fun b xs e => H'b b _ (fun z => by rw [z, t] at e; cases e) (tr b _ e) e) (fun b ob u e => H'b b _ (fun z => by rw [z, t] at e; cases e) (tr b _ e) e) (fun b qs e => ?_) (fun m hm => ?_) (fun b u e => ?_) I.bare
      · by_cases hb : b = P
        · subst hb
          exact ⟨_, Heap.get?_push_of_some _ htb⟩
        · exact ⟨o, oldP b o hb e⟩
      · by_cases hb : b = P
        · subst hb
          rw [t] at e
          cases e
          exact ⟨#[rawInt pos.line, rawInt pos.col, .ref c'], by rw [eP]; simp⟩
        · exact ⟨#[], by rw [H'b b _ hb (tr b _ e) e]; simp⟩
      · obtain ⟨o, es, ep, e, r⟩ := hm
        exact ⟨o, es, ep, oldP _ o (nfree _ I.free) e, r⟩
      · by_cases h1 : b = h'.objs.size
        · subst h1
          rw [upd_same] at e
          cases e
          exact fnObj_ok (Heap.get?_push_size _ rfl)
        · rw [upd_ne h1] at e
          by_cases h2 : b = c'
          · subst h2
            rw [upd_same] at e
            cases e
            exact codeX_ok (hrec.keeps fun b o q => Heap.get?_push_of_some _ q)
          · rw [upd_ne h2] at e
            by_cases h3 : b = P
            · subst h3
              rw [upd_same] at e
              cases e
              show (h'.push _).get? _ = some _
              exact Heap.get?_push_of_some _ htb
            · rw [upd_ne h3] at e
              refine (I.hok b u e).stay (fun d v hd q => oldP d v ?_ q) (fun d q => H'b d _ (fun z => by rw [z, t] at q; cases q) (tr d _ q) q) fun d xs q => H'b d _ (fun z => by rw [z, t] at q; cases q) (tr d _ q) q
              rcases hd with rfl | hd
              · exact h3
              · intro z; rw [z, t] at hd; cases hd
    refine store_ok I' hN hi hx (v := .ref h'.objs.size) rfl (fun s' I2 => ⟨_, _, I2, k h'.objs.size c' _ (I.hok.fresh szf) (fun b o n q => ?_) (.inr ⟨c', eP, eC⟩) eC upd_same fun Q hQ qs q => ?_⟩) hf
    · exact H'b b _ (fun z => by rw [z, t] at q; cases q; exact n _ rfl) (tr b _ q) q
    · exact H'b Q _ hQ (tr Q _ q) q
  · -- its code is there
    have hP : s.heap.get? P = some (PySem.W.tabObj #[rawInt pos.line, rawInt pos.col, .ref c]) := tbl_at I t
    refine PySem.W.makeFunction_hit (mg := X.mg) (cv := .ref c) hcl I.ok.glob hg hcode CH hP (by exact True.intro) (among_hit pos _) hB fun ctv doc h' tk hk hsz => ?_
    have hfr : H h'.objs.size = none := I.hok.fresh hsz
    have I' : Inv X pins σ (upd H h'.objs.size (FnObj h'.objs.size c name qual params body scope clos)) { s with heap := h'.push (fnObjX name qual params body scope clos doc ((X.mg "__name__").getD .none) c ctv), toks := tk } :=
      I.laid (fun b o e => Heap.get?_push_of_some _ (hk b o e)) hsz (fnObj_ok (Heap.get?_push_size _ rfl))
    have sm : Same H (upd H h'.objs.size (FnObj h'.objs.size c name qual params body scope clos)) := same_new hfr
    exact store_ok I' hN hi hx (v := .ref h'.objs.size) rfl (fun s' I2 => ⟨_, _, I2, k h'.objs.size c _ hfr (.of sm) (.inr ⟨c, sm _ _ t, sm _ _ tc⟩) (sm _ _ tc) upd_same fun Q _ qs q => sm _ _ q⟩) hf
end
end NC
namespace NC
open PySem PySem.Spec PyProof.Rows L2

structure CloScope (ps fs : List Str) (sc : Scope) : Prop where
  kind : sc.kind = .function
  co : sc.isCoroutine = false
  gen : sc.isGenerator = false
  nd : (ps ++ fs).Nodup
  par : ∀ x ∈ ps, sc.names.lookup x = some .local
  fre : ∀ x ∈ fs, sc.names.lookup x = some .free
  nocell : ∀ y ∈ sc.names, y.2 ≠ .cell
  all : ∀ y ∈ sc.names, y.2 = .free -> y.1 ∈ fs
def cxClo (CX : CXT) (P : Program) (w : World) (K : PySem.W.Frag) (mg : Str -> Option Value) (base : Heap) (N : List Str) (qual : Str) (scope : Scope) (f : Addr) (cd : Value) (clos : List (Str × Addr)) (A : Around) (outer : List Env) (s : Shared) (H : Hp) (E : XK) : Cx where
  prog := P
  w := w
  K := K
  mg := mg
  base := base
  A := A.deeper (PySem.W.envX qual scope s.heap.objs.size f cd clos)
  N := N
  s₀ := s
  H₀ := H
  env := PySem.W.envX qual scope s.heap.objs.size f cd clos
  outer := outer
  stack := PySem.W.envX qual scope s.heap.objs.size f cd clos :: outer
  ex := []
  calm := true
  fn := fun _ => false
  pn := []
  xe := fun e s' => wpAny (model P w) (A.deeper (PySem.W.envX qual scope s.heap.objs.size f cd clos)) (leaving (PySem.W.envX qual scope s.heap.objs.size f cd clos) e) (fun _ s'' => CX outer H s E e s'') (fun e' s'' => CX outer H s E e' s'') s'
def CellsAt (base : Heap) (clos : List (Str × Addr)) (fs : List Str) (fvs : List V) : Prop := Paired (fun (x : Str) (v : V) => ∃ c u, clos.lookup x = some c /\ base.IsCell c (some u) /\ RelV v u) fs fvs
theorem zip_rev_get : ∀ {ps : List Str} {us : List Value} {i : Nat} {x : Str} {u : Value}, ps.Nodup -> ps[i]? = some x -> us[i]? = some u -> (ps.zip us).reverse.lookup x = some u := by
  intro ps us i x u nd h1 h2
  have hm : (x, u) ∈ (ps.zip us).reverse := by
    rw [List.mem_reverse]
    have : (ps.zip us)[i]? = some (x, u) := by
      rw [List.getElem?_zip_eq_some]
      exact ⟨h1, h2⟩
    exact List.mem_of_getElem? this
  have nd2 : ((ps.zip us).reverse.map (·.1)).Nodup := by
    rw [List.map_reverse]
    have hs : List.Sublist ((ps.zip us).map (·.1)) ps := by
      clear h1 h2 hm nd
      induction ps generalizing us with
      | nil => simp
      | cons a r ih =>
        cases us with
        | nil => simp
        | cons b t => simpa using ih
    exact (List.reverse_perm _).nodup_iff.mpr (nd.sublist hs)
  generalize hl : (ps.zip us).reverse = l at hm nd2
  clear hl h1 h2 nd
  induction l with
  | nil => simp at hm
  | cons q r ih =>
    obtain ⟨y, w⟩ := q
    rw [List.map_cons, List.nodup_cons] at nd2
    rcases List.mem_cons.mp hm with e | hm'
    · cases e
      simp [List.lookup]
    · have hne : x ≠ y := fun z => nd2.1 (by rw [<- z]; exact List.mem_map.mpr ⟨(x, u), hm', rfl⟩)
      rw [List.lookup_cons]
      rw [show (x == y) = false by simpa using hne]
      exact ih hm' nd2.2
section
variable {CX : CXT} {P : Program} {w : World} {K : PySem.W.Frag} {mg : Str -> Option Value} {base : Heap} {k : Nat} {f c : Addr} {name qual : Str} {params : Arguments} {body : List Stmt} {scope : Scope} {clos : List (Str × Addr)} {doc pm ctv : Value} {ps fs : List Str} {fvs : List V} {sp : Sp}
end

def keepL (base : Heap) (L : List Addr) (a : Addr) : Bool := (base.get? a).isSome || L.contains a
def extB (h base : Heap) (L : List Addr) : Heap := PySem.W.hideAll h ((List.range h.objs.size).filter fun a => !keepL base L a)
theorem extB_get {h base : Heap} {L : List Addr} {b : Addr} {o : Obj} (e : h.get? b = some o) (k : keepL base L b = true) : (extB h base L).get? b = some o :=
  PySem.W.hideAll_get _ e fun z => by
    have := (List.mem_filter.mp z).2
    rw [k] at this
    exact absurd this (by decide)
theorem of_extB {h base : Heap} {L : List Addr} {b : Addr} {o : Obj} (e : (extB h base L).get? b = some o) : h.get? b = some o /\ keepL base L b = true := by
  have e1 := PySem.W.of_hideAll _ e
  refine ⟨e1, ?_⟩
  cases q : keepL base L b with
  | true => rfl
  | false =>
    have hm : b ∈ (List.range h.objs.size).filter fun a => !keepL base L a := List.mem_filter.mpr ⟨List.mem_range.mpr (Heap.lt_size e1), by rw [q]; rfl⟩
    rw [show (extB h base L).get? b = none from PySem.W.hideAll_none _ hm] at e
    cases e
def delH (H : Hp) (L : List Addr) : Hp := fun b => if b ∈ L then none else H b
def addH (H' H : Hp) (L : List Addr) : Hp := fun b => if b ∈ L then H b else H' b
theorem delH_ne {H : Hp} {L : List Addr} {b : Addr} (h : b ∉ L) : delH H L b = H b := if_neg h
theorem delH_in {H : Hp} {L : List Addr} {b : Addr} (h : b ∈ L) : delH H L b = none := if_pos h
theorem addH_ne {H' H : Hp} {L : List Addr} {b : Addr} (h : b ∉ L) : addH H' H L b = H' b := if_neg h
theorem addH_in {H' H : Hp} {L : List Addr} {b : Addr} (h : b ∈ L) : addH H' H L b = H b := if_pos h
def Goes (X : Cx) (H : Hp) (b : Addr) : Prop := (∃ φ, H b = some (.ext φ)) ∨ ∃ x, X.env.cells.lookup x = some b /\ X.fn x = true
section
variable {X : Cx} {pins : List (Addr × Obj)} {σ : L2.St} {H : Hp} {s : Shared} {L : List Addr}
theorem Goes.there (I : Inv X pins σ H s) {b : Addr} (g : Goes X H b) : ∃ o, s.heap.get? b = some o := by
  rcases g with ⟨φ, e⟩ | ⟨x, e, _⟩
  · exact objok_there (I.hok b _ e)
  · obtain ⟨v, o, h, _⟩ := I.cell x b e
    exact ⟨o, h⟩
theorem Goes.noframe (I : Inv X pins σ H s) {b : Addr} (g : Goes X H b) : b ∉ frs X.stack := fun z => by
  have hn := I.stkFree b z
  rcases g with ⟨φ, e⟩ | ⟨x, e, hf⟩
  · rw [hn] at e; cases e
  · rcases List.mem_cons.mp (I.stkSub b z) with q | q
    · exact I.cne x b e q
    · obtain ⟨_, o, ho, _⟩ := I.ok.funs.mem q
      exact absurd (Nat.lt_of_lt_of_le (Heap.lt_size ho) (I.ok.cab x b hf e)) (Nat.lt_irrefl _)
theorem Goes.notup (g : ∀ b ∈ L, Goes X H b) (I : Inv X pins σ H s) {b : Addr} {u : HO} (e : H b = some u) (n : ∀ φ, u ≠ .ext φ) : b ∉ L := fun z => by
  rcases g b z with ⟨φ, q⟩ | ⟨x, q, _⟩
  · rw [e] at q; cases q; exact n φ rfl
  · rw [I.freeC x b q] at e; cases e
theorem env0_ext (I : Inv X pins σ H s) (g : ∀ b ∈ L, Goes X H b) : Env0 X.prog X.w X.K X.mg (extB s.heap X.base L) X.A X.stack s (delH H L) := by
  have kb : ∀ b o, X.base.get? b = some o -> (extB s.heap X.base L).get? b = some o := fun b o e => extB_get (I.bk b o e) (by unfold keepL; rw [e]; rfl)
  have nb : ∀ b, (extB s.heap X.base L).get? b = none ∨ (X.base.get? b).isSome = true ∨ b ∈ L := fun b => by
    cases q : (extB s.heap X.base L).get? b with
    | none => exact .inl rfl
    | some o =>
      have := (of_extB q).2
      unfold keepL at this
      rw [Bool.or_eq_true] at this
      rcases this with z | z
      · exact .inr (.inl z)
      · exact .inr (.inr (by simpa using z))
  refine ⟨I.ok.frames, ⟨I.mod.kin.keeps kb, I.mod.glob.keeps kb, let ⟨mb, h1, h2⟩ := I.mod.blt; ⟨mb, h1.keeps kb, h2⟩, I.mod.nolimit.keeps kb⟩, fun b o e => ?_, Nat.le_of_eq (PySem.W.hideAll_size _ _), ?_, fun b hb => ?_, fun b u e => ?_, I.bare⟩
  · obtain ⟨e1, e2⟩ := of_extB e
    refine ⟨e1, ?_⟩
    by_cases hb : b ∈ L
    · exact delH_in hb
    · rw [delH_ne hb]
      unfold keepL at e2
      rw [Bool.or_eq_true] at e2
      rcases e2 with z | z
      · obtain ⟨o', q⟩ := Option.isSome_iff_exists.mp z
        exact (I.bs b o' q).2
      · exact absurd (by simpa using z) hb
  · have all : ∀ l : List Env, (∀ b ∈ frs l, b ∈ frs X.stack) -> s.heap.FunFrames X.base l -> s.heap.FunFrames (extB s.heap X.base L) l := by
      intro l
      induction l with
      | nil => intro _ _; trivial
      | cons env r ih =>
        intro hs hl
        obtain ⟨hk, ⟨L', o, hf, hn, ho, hd⟩, hr⟩ := hl
        have hm : L' ∈ frs X.stack := hs L' (by unfold frs; rw [List.filterMap_cons, hf]; exact List.mem_cons_self)
        refine ⟨hk, ⟨L', o, hf, ?_, ho, hd⟩, ih (fun b hb => hs b (by unfold frs; rw [List.filterMap_cons, hf]; exact List.mem_cons_of_mem _ hb)) hr⟩
        rcases nb L' with z | z | z
        · exact z
        · rw [hn] at z; cases z
        · exact absurd hm ((g L' z).noframe I)
    exact all X.stack (fun _ h => h) I.stack
  · unfold delH
    split
    · rfl
    · exact I.stkFree b hb
  · have hb : b ∉ L := fun z => by rw [delH_in z] at e; cases e
    rw [delH_ne hb] at e
    refine (I.hok b u e).stay (fun _ _ _ q => q) (fun c q => ?_) fun c xs q => ?_
    · rw [delH_ne (Goes.notup g I q fun _ z => by cases z)]; exact q
    · rw [delH_ne (Goes.notup g I q fun _ z => by cases z)]; exact q
theorem after_ext {Q : VK} {u : Value} {s' : Shared} (I : Inv X pins σ H s) (g : ∀ b ∈ L, Goes X H b) (h : CE X.stack X.prog X.w (delH H L) s (fun v H' => (∀ b ∈ L, H' b = none) -> Q v (addH H' H L)) u s') : EP X pins σ Q u s' := by
  obtain ⟨v, H', os, bare, un, hok, r, q⟩ := h
  have gone : ∀ b ∈ L, H' b = none := fun b hb => by
    obtain ⟨o, e⟩ := (g b hb).there I
    exact un.free b o e (delH_in hb) (by simp)
  have unt : ∀ b, H b = none -> delH H L b = none := fun b n => by
    unfold delH
    split
    · rfl
    · exact n
  refine ⟨v, addH H' H L, I.call' (ch := []) os ⟨fun b o e n hb hx => un.keep b o e (unt b n) hb hx, fun b o e n hb hx => un.slot b o e (unt b n) hb hx, fun b o e n hx => ?_, un.there, fun b xs e => ?_, fun b o xs e => ?_, fun b qs e => ?_⟩ (fun b w e => ?_) bare fun b z => absurd z (by simp), r, q gone⟩
  · by_cases hb : b ∈ L
    · rw [addH_in hb]; exact n
    · rw [addH_ne hb]; exact un.free b o e (unt b n) hx
  · have hb := Goes.notup g I e fun _ z => by cases z
    rw [addH_ne hb]
    exact un.tups b xs (by rw [delH_ne hb]; exact e)
  · have hb := Goes.notup g I e fun _ z => by cases z
    rw [addH_ne hb]
    exact un.frzs b o xs (by rw [delH_ne hb]; exact e)
  · have hb := Goes.notup g I e fun _ z => by cases z
    rw [addH_ne hb]
    exact un.tbls b qs (by rw [delH_ne hb]; exact e)
  · by_cases hb : b ∈ L
    · rw [addH_in hb] at e
      rcases g b hb with ⟨φ, e'⟩ | ⟨x, e', _⟩
      · rw [e] at e'
        cases e'
        obtain ⟨p, ⟨o, eo⟩, st⟩ := I.hok b _ e
        have k := un.keep b o eo (delH_in hb) ((g b hb).noframe I) (by simp)
        exact ⟨st _ _ p fun o' q' => by rw [eo] at q'; cases q'; exact k, ⟨o, k⟩, st⟩
      · rw [I.freeC x b e'] at e; cases e
    · rw [addH_ne hb] at e
      have nl : ∀ c y, H' c = some y -> c ∉ L := fun c y e z => by rw [gone c z] at e; cases e
      exact (hok b w e).stay (fun _ _ _ q => q) (fun c q => by rw [addH_ne (nl c _ q)]; exact q) fun c xs q => by rw [addH_ne (nl c _ q)]; exact q
end
def FV (P : Program) (w : World) (K : PySem.W.Frag) (mg : Str -> Option Value) (base : Heap) (CX : CXT) (k : Nat) (f : Addr) (ps : List Str) (sp : Sp) : Prop :=
  ∃ fd oc od sl, FnOk P w K mg base CX k f fd ps sp /\ base.get? f = some ⟨oc, od, .func fd, sl⟩ /\ Binds K fd ps []
section
variable {X : Cx} {CX : CXT} {k : Nat} {ps : List Str} {E : XK} {x : Str} {p pos : Pos} {e : Expr} {es : List Expr} {t : TA}
inductive TFvI (X : Cx) (CX : CXT) (k : Nat) (ps : List Str) (E : XK) (i : Nat) (t : TA) (σ : L2.St) (H : Hp) (Q : VK) : Prop where
  | mk (f : _) (sp : _) (c1 : σ[i]? = some (some (.ref f))) (c2 : FV X.prog X.w X.K X.mg X.base CX k f ps sp) (c3 : t σ H fun vs H1 => sp vs H1 Q E)
def tFv (X : Cx) (CX : CXT) (k : Nat) (ps : List Str) (E : XK) (i : Nat) (t : TA) : TE := fun σ H Q => TFvI X CX k ps E i t σ H Q
theorem pe_fv (i : Nat) (hr : Room k X.A) (hx : Passes CX X E) (ha : PA X (e :: es) t) (hN : X.N[i]? = some x := by rfl) (hv : Vis X.env.scope x := by first | exact Or.inl rfl | exact Or.inr (Or.inl rfl) | exact Or.inr (Or.inr rfl))
    (h : (e :: es).all plainE = true := by rfl) (hd : (x == ("__debug__" : Str)) = false := by decide) (hcd : (x == ("__classdict__" : Str)) = false := by decide) : PE X (.Call (.Name x p) (e :: es) [] pos) (tFv X CX k ps E i t) := by
  intro pins s σ H Q I hw
  obtain ⟨f, sp, hi, ⟨fd, oc, od, sl, F, ho, hb⟩, hw⟩ := hw
  rw [List.all_cons, Bool.and_eq_true] at h
  have hname : PE X (.Name x p) (tVar i) := pe_var hN hv hd hcd
  refine wpAny_Call_Name_kw (thn (hname pins s σ H (fun v H1 => v = .ref f /\ H1 = H) I ⟨_, hi, rfl, rfl⟩) fun u s1 ⟨v, H1, I1, rv, e1, e2⟩ => ?_)
  subst e1 e2
  cases (show u = Value.ref f from rv)
  refine PySem.W.callWith_F (first := []) ⟨_, _, _, _, I1.bk _ _ ho⟩ (thn (ha pos pins s1 σ H1 _ I1 hw) fun us s2 ⟨vs, H2, I2, r, q⟩ => ⟨⟨_, _, _, _, I2.bk _ _ ho⟩, ?_⟩) (star_plain h.1) (star_any h.2)
  exact run_fn F hr hb (dvs := []) (ds := []) .nil hx I2 r (by rw [List.append_nil]; exact q)
end
section
variable {X : Cx} {CX : CXT} {k : Nat} {ps : List Str} {E : XK} {x : Str} {p pos : Pos} {e : Expr} {es : List Expr} {t : TA}
def GB (P : Program) (w : World) (K : PySem.W.Frag) (mg : Str -> Option Value) (base : Heap) (CX : CXT) (k : Nat) (x : Str) (ps : List Str) (sp : Heap -> Sp) : Prop :=
  ∀ base', (∀ b o, base.get? b = some o -> base'.get? b = some o) -> GF P w K mg base' CX k x ps (sp base')
end
end NC
namespace NC
open PySem PySem.Spec PyProof.Rows L2
def Itv (K : PySem.W.Frag) (a : Addr) (n : Nat) : It :=
  ⟨fun i H => i < n /\ ∃ xs, SqL K H a xs /\ xs.length = n, fun i H x H' => H' = H /\ ∀ xs, SqL K H a xs -> xs.reverse[i]? = some x, fun i H => n <= i⟩
theorem turn_rev {P : Program} {w : World} {K : PySem.W.Frag} {tg : Expr} (a it : Addr) (n : Nat) : Turn P w K tg (Itv K a n) [it] it (fun i h => i <= n /\ h.IsRevIter it a ((n : Int) - 1 - (i : Int))) where
  mem := by simp
  obj := fun i h st b hb => by
    have e : b = it := by simpa using hb
    subst e
    obtain ⟨_, o, e, c, d⟩ := st
    exact ⟨o, e, fun v z => by rw [d] at z; cases z⟩
  keep := fun i h h' st k => ⟨st.1, st.2.at fun o e => k it (by simp) o e⟩
  item := by
    intro X hP hw hK hc i pins s σ H E I hf st hg
    subst hP hw hK
    obtain ⟨hi, xs, hq, hn⟩ := hg
    obtain ⟨its, rv, p, hz⟩ := I.list hq
    have hx : xs.reverse[i]? = some (xs.reverse[i]'(by rw [List.length_reverse]; omega)) := by simp [hi, hn]
    have hx2 : xs[n - 1 - i]? = some (xs.reverse[i]'(by rw [List.length_reverse]; omega)) := by
      rw [<- hx, List.getElem?_reverse (by omega), hn]
    obtain ⟨u, hu, ru⟩ := rv.get hx2
    obtain ⟨f0, f1, f2, f3, f4, f5⟩ := hf it (by simp)
    have e : (n : Int) - 1 - (i : Int) = ((n - 1 - i : Nat) : Int) := by omega
    have st2 := st.2
    rw [e] at st2
    refine wpAny_pyNext_rev_item st2 p.isList (x := u) (by simpa using hu) fun h' st' sb => ?_
    have I1 : Inv X pins σ H { s with heap := h' } := I.turned (t' := s.toks) (fun b o hb e => (sb.2 b hb).trans e) f0 f1 f3 f4 f5
    have e2 : ((n - 1 - i : Nat) : Int) - 1 = (n : Int) - 1 - ((i + 1 : Nat) : Int) := by omega
    rw [e2] at st'
    obtain ⟨o, eo, c, d⟩ := id st'
    exact ⟨u, rfl, go_of (s := { s with heap := h' }) eo c d (by decide) ⟨_, H, I1, ru, ⟨rfl, fun ys hy => by rw [I.list_inj hy hq]; exact hx⟩, ⟨by omega, st'⟩, fun b hb => (hf b hb).1⟩⟩
  done := by
    intro X hP hw hK hc i pins s σ H E I hf st hg
    subst hP hw hK
    have hni : n <= i := hg
    obtain ⟨f0, f1, f2, f3, f4, f5⟩ := hf it (by simp)
    have e : (n : Int) - 1 - (i : Int) = -1 := by have := st.1; omega
    have st2 := st.2
    rw [e] at st2
    exact wpAny_pyNext_rev_end (I.ok.hd hc) st2 fun h' eb => ⟨rfl, I.turned (t' := s.toks) (fun b o hb e => eb b o hb e) f0 f1 f3 f4 f5⟩
  self := fun _ _ _ _ _ st h => wpAny_pyIter_revIter st.2 h
section
variable {X : Cx} {tg : Expr}
inductive IRevI (K : PySem.W.Frag) (R : It -> Hp -> Prop) (vs : List V) (H1 : Hp) : Prop where
  | mk (a : _) (xs : _) (c1 : vs = [.ref a]) (c2 : SqL K H1 a xs) (c3 : R (Itv K a xs.length) H1)
def iRev (K : PySem.W.Frag) (tl : TE) : TI := fun σ H R => tCons tl tNil σ H fun vs H1 => IRevI K R vs H1
theorem pi_rev {l : Expr} {tl : TE} {p pos : Pos} (hg : Gl X "reversed") (hm : X.mg "reversed" = none) (hl : PE X l tl) (h : plainE l = true := by rfl) : PI X tg (.Call (.Name "reversed" p) [l] [] pos) (iRev X.K tl) := by
  intro pins s σ H R I hw
  have ha : PA X [l] (tCons tl tNil) := pa_c hl pa_nil h
  refine wpAny_Call_Name_kw (ld_blt I hg hm boot_reversed ?_)
  refine PyProof.Rows.callWith_type1 (thn (ha pos pins s σ H _ I hw) fun us s1 ⟨vs, H1, I1, r1, a, xs, e, hq, q1⟩ => ?_) (star_plain h) rfl
  subst e
  obtain ⟨u, rfl, ru⟩ := vals1 r1
  cases (show u = Value.ref a from ru)
  obtain ⟨its, rv, pl, hz⟩ := I1.list hq
  have hn : its.toArray.size = xs.length := by rw [List.size_toArray, rv.length]
  refine call_reversed_list pl.isList ?_
  have hit : (s1.heap.push (revObj a ((its.toArray.size : Int) - 1))).IsRevIter s1.heap.objs.size a ((xs.length : Int) - 1 - ((0 : Nat) : Int)) := by
    refine ⟨_, Heap.get?_push_size _ rfl, rfl, ?_⟩
    rw [hn]
    show Data.fields #[Value.ref a, rawInt ((xs.length : Int) - 1)] = _
    rw [show (xs.length : Int) - 1 - ((0 : Nat) : Int) = (xs.length : Int) - 1 by omega]
  refine wpAny_pyIter_revIter (s := { s1 with heap := s1.heap.push (revObj a ((its.toArray.size : Int) - 1)) }) hit ?_
  refine ⟨s1.heap.objs.size, [s1.heap.objs.size], _, _, H1, rfl, I1.kept (t' := s1.toks) fun b o e => Heap.get?_push_of_some _ e, turn_rev a _ xs.length, ⟨Nat.zero_le _, hit⟩, fun b hb => ?_, q1⟩
  have e : b = s1.heap.objs.size := by simpa using hb
  subst e
  exact I1.fpOk (Nat.le_refl _) (I1.hok.fresh (Nat.le_refl _))
end
theorem for_rev {K : PySem.W.Frag} {a : Addr} {xs : List V} {g : TG} {tb : TS} {D : Ends} {σ : L2.St} {H : Hp} (Pv : Nat -> L2.St -> Hp -> Prop) (h0 : Pv 0 σ H) (hl : ∀ i σ H, i <= xs.length -> Pv i σ H -> SqL K H a xs)
    (hs : ∀ i x σ H, xs.reverse[i]? = some x -> Pv i σ H -> g x σ H fun σ2 H2 => tb { D with nx := Pv (i + 1), ct := Pv (i + 1), bk := D.nx } σ2 H2) (hd : ∀ σ H, Pv xs.length σ H -> D.nx σ H) :
    ∃ W : Nat -> Nat -> L2.St -> Hp -> Prop, (∃ m, W 0 m σ H) /\ ∀ i m σ H, W i m σ H ->
      ((Itv K a xs.length).stop i H /\ D.nx σ H) ∨ ((Itv K a xs.length).go i H /\ ∃ N : L2.St -> Hp -> Prop, (∀ σ' H', N σ' H' -> ∃ m', m' < m /\ W (i + 1) m' σ' H') /\ ∀ x H', (Itv K a xs.length).yld i H x H' -> g x σ H' fun σ2 H2 => tb { D with nx := N, ct := N, bk := D.nx } σ2 H2) := by
  refine ⟨fun i m σ H => m = xs.length - i /\ i <= xs.length /\ Pv i σ H, ⟨xs.length, by simp, Nat.zero_le _, h0⟩, ?_⟩
  rintro i m σ H ⟨rfl, hi, p⟩
  have q := hl i σ H hi p
  by_cases hlt : i < xs.length
  · refine .inr ⟨⟨hlt, xs, q, rfl⟩, Pv (i + 1), fun σ' H' p' => ⟨xs.length - (i + 1), by omega, rfl, hlt, p'⟩, fun x H' y => ?_⟩
    obtain ⟨e, y⟩ := y
    subst e
    exact hs i x σ _ (y xs q) p
  · have e : i = xs.length := by omega
    subst e
    exact .inl ⟨Nat.le_refl _, hd σ H p⟩

theorem paired_rev {α β : Type} {F : α -> β -> Prop} : ∀ {xs : List α} {ys : List β}, Paired F xs ys -> Paired F xs.reverse ys.reverse
  | _, _, .nil => .nil
  | _, _, .cons r p => by rw [List.reverse_cons, List.reverse_cons]; exact paired_snoc r (paired_rev p)
theorem lri_no_len : typeLookup (.type "list_reverseiterator") "__len__" = pure none := by rw [typeLookup_type, builtinLookup_eq_fast]; kernel_rfl
theorem lri_hint : typeLookup (.type "list_reverseiterator") "__length_hint__" = pure (some (.builtin "list_reverseiterator.__length_hint__")) := by rw [typeLookup_type, builtinLookup_eq_fast]; kernel_rfl
section
variable {prog : Program} {w : World} {A : Around} {E : Value -> Shared -> Prop} {s : Shared}
theorem sub_lri : isSubtype (.type "list_reverseiterator") (.type "list_reverseiterator") = pure true := by rw [isSubtype_type]; kernel_rfl
theorem hint_lri {it l : Addr} {i : Int} {Q : Bool -> Shared -> Prop} (hit : s.heap.IsRevIter it l i) (h : Q false s) : wpAny (model prog w) A (Builtin.List.listLengthHint (.ref it)) Q E s := by
  unfold Builtin.List.listLengthHint
  refine wpAny_bind (wpAny_specialOf hit.typeIs lri_no_len ?_)
  show wpAny _ _ (specialOf (Value.ref it) (Str.ofString "__length_hint__") >>= _) _ _ _
  refine wpAny_bind (wpAny_specialOf hit.typeIs lri_hint ?_)
  generalize hid : ("list_reverseiterator.__length_hint__" : String) = id0
  wp_delta
  rw [show splitId id0 = some ("list_reverseiterator", "__length_hint__") from by subst hid; decide +kernel]
  subst hid
  refine wpAny_bind (wpAny_isInstance (b := true) hit.typeIs sub_lri ?_)
  exact wpAny_pure h
theorem lri_nl : (Value.type "list_reverseiterator" == Value.type "list") = false := by decide
theorem lri_nt : (Value.type "list_reverseiterator" == Value.type "tuple") = false := by decide
end
section
variable {prog : Program} {w : World} {A : Around} {s : Shared} {R : Result -> Shared -> Prop} {I l : Addr} {items : Array Value}
theorem ext_lri (hh : A.handled = none) (hne : l ≠ I) (S : Addr) (res : Value) (c₀ : Nat) (hit : s.heap.IsRevIter I l ((items.size : Int) - 1)) (hl : s.heap.IsList l items) (hSI : S ≠ I) (hSl : S ≠ l)
    (hS : s.heap.get? S = some { cls := .type "list", data := .seq #[] c₀ })
    (hR : ∀ s' acc' c', Moved (S :: [I]) (fun a b => b = a) s s' -> s'.heap.get? S = some { cls := .type "list", dict := none, data := .seq acc' c', slots := #[] } -> ItemsOf (fun i v => items[items.size - 1 - i]? = some v) acc' items.size -> R (.ok (.ret res)) s') (hn : items.size <= sizeLine) :
    wpAny (model prog w) A.in1 (Builtin.List.listExtendWith (.ref S) (.ref I) res)
      (fun fin s' => match fin with | .done f => R (.ok f) s' | .again c' => c'.quiet = true /\ codeAny (model prog w) A c' R s') (fun e s' => R (.error e) s') s := by
  have W := (Walks.listRev (prog := prog) (w := w) (A := A.in1) hh I l hne items).toS
  unfold Builtin.List.listExtendWith
  refine wpAny_bind (wpAny_typeOf hit.typeIs ?_)
  have h1 : Builtin.List.listSameRef (.ref S) (.ref I) = false := by simp [Builtin.List.listSameRef, hSI]
  simp only [h1, lri_nl, lri_nt, Bool.or_false, Bool.false_eq_true, if_false]
  refine wpAny_bind (wpAny_pyIter_revIter hit ?_)
  refine wpAny_bind (wpAny_holding (hint_lri hit ?_))
  rw [if_neg (by decide)]
  have hSf : S ∉ [I, l] := by simp [hSI, hSl]
  refine wpAny_pure ⟨plainId_quiet F.plain_extend_loop _, codeAny_extend_loopS W hn _ hSf _ items.size 0 _ _ _ rfl (Nat.zero_le _) ⟨Nat.zero_le _, by simpa using hit, hl⟩ hS (ItemsOf.nil _) fun s' acc' c' hm hS' hacc => ?_⟩
  exact hR s' acc' c' hm hS' hacc
theorem init_lri (hh : A.handled = none) (hne : l ≠ I) (S : Addr) (hit : s.heap.IsRevIter I l ((items.size : Int) - 1)) (hl : s.heap.IsList l items) (hSI : S ≠ I) (hSl : S ≠ l)
    (hS : s.heap.get? S = some { cls := .type "list", data := .seq #[] })
    (hR : ∀ s' acc' c', Moved (S :: [I]) (fun a b => b = a) s s' -> s'.heap.get? S = some { cls := .type "list", dict := none, data := .seq acc' c', slots := #[] } -> ItemsOf (fun i v => items[items.size - 1 - i]? = some v) acc' items.size -> R (.ok (.ret .none)) s') (hn : items.size <= sizeLine) :
    wpAny (model prog w) A.in1 (Builtin.«list.__init__» ⟨[.ref S, .ref I], []⟩)
      (fun fin s' => match fin with | .done f => R (.ok f) s' | .again c' => c'.quiet = true /\ codeAny (model prog w) A c' R s') (fun e s' => R (.error e) s') s := by
  show wpAny _ A.in1 (do let old <- Builtin.List.listItems (.ref S); Builtin.List.listUpdate (.ref S) (fun _ => #[]); letGo old.toList.reverse; Builtin.List.listExtendWith (.ref S) (.ref I) .none) _ _ s
  refine wpAny_bind ?_
  unfold Builtin.List.listItems
  refine wpAny_bind (wpAny_seqItems hS rfl (wpAny_pure ?_))
  show wpAny _ A.in1 (updateSeq S (fun _ => #[]) >>= fun _ => letGo (#[] : Array Value).toList.reverse >>= fun _ => Builtin.List.listExtendWith (.ref S) (.ref I) .none) _ _ s
  refine wpAny_bind (wpAny_updateSeq hS rfl ?_)
  have hS₂ := Heap.get?_update_self (Obj.mapSeq (fun _ => (#[] : Array Value))) hS rfl
  have oth : ∀ b o, b ≠ S -> s.heap.get? b = some o -> (s.heap.update S (Obj.mapSeq (fun _ => (#[] : Array Value)))).get? b = some o :=
    fun b o hb e => (Heap.get?_update_other _ _ (Ne.symm hb)).trans e
  refine wpAny_bind (wpAny_letGo ?_)
  refine ext_lri hh hne S .none _ (hit.at fun o e => oth I o hSI.symm e) (hl.at fun o e => oth l o hSl.symm e) hSI hSl hS₂ (fun s' acc' c' hm hS' hacc => ?_) hn
  exact hR s' acc' c' (Moved.trans (fun _ _ _ h1 h2 => h2.trans h1) ((Moved.refl (wr := S :: [I]) (G := fun a b => b = a) (fun _ => rfl)).then_heap (Nat.le_refl _) fun b o hb e => oth b o (fun h => hb (by rw [h]; exact List.mem_cons_self)) e) hm) hS' hacc
end
section
variable {prog : Program} {w : World} {A : Around} {E : Value -> Shared -> Prop} {s : Shared} {I l : Addr} {items : Array Value}
theorem list_lri {Q : Value -> Shared -> Prop} (hh : A.handled = none) (hne : l ≠ I) (hit : s.heap.IsRevIter I l ((items.size : Int) - 1)) (hl : s.heap.IsList l items)
    (hQ : ∀ h' tk c', (∀ b o, b ≠ I -> s.heap.get? b = some o -> h'.get? b = some o) -> h'.get? s.heap.objs.size = some { cls := .type "list", dict := none, data := .seq items.reverse c', slots := #[] } -> Q (.ref s.heap.objs.size) { s with heap := h', toks := tk }) (hn : items.size <= sizeLine) :
    wpAny (model prog w) A (call (.type "list") [.ref I]) Q E s := by
  have lI : I < s.heap.objs.size := by obtain ⟨o, ho, _⟩ := hit; exact Heap.lt_size ho
  have ll : l < s.heap.objs.size := by obtain ⟨o, ho, _⟩ := hl; exact Heap.lt_size ho
  refine callType_codes (Q₁ := fun obj s₁ => obj = .ref s.heap.objs.size /\ s₁ = { s with heap := s.heap.push { cls := .type "list", data := .seq #[] } }) F.called_list (F.typeCall_list_1 _) F.entry_list_init
    (code_list_new _ ⟨rfl, rfl⟩) fun obj s₁ h₁ => ?_
  obtain ⟨rfl, rfl⟩ := h₁
  have hS : (s.heap.push { cls := .type "list", data := .seq #[] }).get? s.heap.objs.size = some { cls := .type "list", data := .seq #[] } := Heap.get?_push_size _ rfl
  refine ⟨⟨_, hS, rfl⟩, F.args_list_init_2 _ _, init_lri (A := A.in1) hh hne _ (hit.at fun o e => Heap.get?_push_of_some _ e) (hl.at fun o e => Heap.get?_push_of_some _ e) (Nat.ne_of_gt lI) (Nat.ne_of_gt ll) hS (fun s' acc' c' hm hS' hacc => ?_) hn⟩
  refine ⟨rfl, ?_⟩
  rw [Moved.eq_with hm]
  have ea : acc' = items.reverse := by
    apply Array.ext
    · rw [hacc.1, Array.size_reverse]
    · intro j h1 h2
      have := hacc.2 j (acc'[j]) (by simp)
      rw [Array.getElem_reverse]
      rw [Array.size_reverse] at h2
      rw [Array.getElem?_eq_getElem (by omega)] at this
      exact (Option.some.inj this).symm
  refine hQ s'.heap s'.toks c' (fun b o hb e => hm.heap b o ?_ (Heap.get?_push_of_some _ e)) (ea ▸ hS')
  intro hmem
  rcases List.mem_cons.mp hmem with e' | hmem
  · exact absurd (Heap.lt_size e) (by rw [e']; exact Nat.lt_irrefl _)
  · exact hb (by simpa using hmem)
end
section
variable {X : Cx}
inductive TLRevI (K : PySem.W.Frag) (vs : List V) (H1 : Hp) (Q : VK) : Prop where
  | mk (a : _) (xs : _) (c1 : vs = [.ref a]) (c2 : SqL K H1 a xs) (c3 : ∀ p, H1 p = none -> Q (.ref p) (upd H1 p (.lst xs.reverse)))
def tLRev (K : PySem.W.Frag) (tl : TE) : TE := fun σ H Q => tCons tl tNil σ H fun vs H1 => TLRevI K vs H1 Q
theorem pe_lrev {l : Expr} {tl : TE} {p p2 pos pos2 : Pos} (hh : X.A.handled = none) (hg : Gl X "reversed") (hm : X.mg "reversed" = none) (hg2 : Gl X "list") (hm2 : X.mg "list" = none) (hl : PE X l tl) (h : plainE l = true := by rfl) :
    PE X (.Call (.Name "list" p2) [.Call (.Name "reversed" p) [l] [] pos] [] pos2) (tLRev X.K tl) := by
  intro pins s σ H Q I hw
  have ha : PA X [l] (tCons tl tNil) := pa_c hl pa_nil h
  refine wpAny_Call_Name_kw (ld_blt I hg2 hm2 boot_list ?_)
  refine PyProof.Rows.callWith_type1 (e := .Call (.Name "reversed" p) [l] [] pos) (rest := []) ?_ rfl rfl
  show wpAny _ _ (spliced ((false, eval (.Call (.Name "reversed" p) [l] [] pos) X.env) :: backTo pos2 (starEach [] X.env))) _ _ s
  refine Calls.spliced_cons ?_
  refine wpAny_Call_Name_kw (ld_blt I hg hm boot_reversed ?_)
  refine PyProof.Rows.callWith_type1 (thn (ha pos pins s σ H _ I hw) fun us s1 ⟨vs, H1, I1, r1, a, xs, e, hq, q1⟩ => ?_) (star_plain h) rfl
  subst e
  obtain ⟨u, rfl, ru⟩ := vals1 r1
  cases (show u = Value.ref a from ru)
  obtain ⟨its, rv, pl, hz⟩ := I1.list hq
  refine call_reversed_list pl.isList ?_
  refine wpAny_items_nil ?_
  have la : a < s1.heap.objs.size := by obtain ⟨o, ho, _⟩ := pl.isList; exact Heap.lt_size ho
  have hn : its.toArray.size <= sizeLine := by rw [List.size_toArray, <- rv.length]; exact hz
  have hit : (s1.heap.push (revObj a ((its.toArray.size : Int) - 1))).IsRevIter s1.heap.objs.size a ((its.toArray.size : Int) - 1) := ⟨_, Heap.get?_push_size _ rfl, rfl, rfl⟩
  have I2 : Inv X pins σ H1 { s1 with heap := s1.heap.push (revObj a ((its.toArray.size : Int) - 1)) } := I1.kept (t' := s1.toks) fun b o e => Heap.get?_push_of_some _ e
  refine list_lri (s := { s1 with heap := s1.heap.push (revObj a ((its.toArray.size : Int) - 1)) }) hh (Nat.ne_of_lt la) hit (pl.isList.at fun o e => Heap.get?_push_of_some _ e) (fun h' tk c' kp e => ?_) hn
  obtain ⟨f0, f1, f2, f3, f4, f5⟩ := I1.fpOk (b := s1.heap.objs.size) (Nat.le_refl _) (I1.hok.fresh (Nat.le_refl _))
  have hnew : H1 (s1.heap.push (revObj a ((its.toArray.size : Int) - 1))).objs.size = none := I2.hok.fresh (Nat.le_refl _)
  have rr : Vals xs.reverse its.reverse := paired_rev rv
  have I3 := I2.laid (a := (s1.heap.push (revObj a ((its.toArray.size : Int) - 1))).objs.size) (o := .lst xs.reverse) (t' := s1.toks) (h' := (s1.heap.push (revObj a ((its.toArray.size : Int) - 1))).push { cls := .type "list", dict := none, data := .seq its.toArray.reverse c', slots := #[] })
    (fun b o e => Heap.get?_push_of_some _ e) (Nat.le_refl _) ⟨by rw [List.length_reverse]; exact hz, its.reverse, c', rr, by rw [Heap.get?_push_size _ rfl]; simp⟩
  have I4 := I3.turned (t' := tk) (it := s1.heap.objs.size) (h' := h') (fun b o hb e' => ?_) ?_ f1 f3 f4 f5
  · exact ⟨.ref _, _, I4, rfl, q1 _ hnew⟩
  · by_cases hD : b = (s1.heap.push (revObj a ((its.toArray.size : Int) - 1))).objs.size
    · subst hD
      rw [Heap.get?_push_size _ rfl] at e'
      rw [e, e']
    · exact kp b o hb (by rw [Heap.get?_push_ne _ _ _ hD] at e'; exact e')
  · rw [upd_ne]
    · exact f0
    · rw [Heap.size_push]; exact Nat.ne_of_lt (Nat.lt_succ_self _)
end
end NC
namespace NC
open PySem PySem.Spec PyProof.Rows L2
def inDef (s : Stmt) (j : Nat) : Stmt := (defBody s).getD j (.Pass ⟨0, 0, 0, 0⟩)
def defPos (s : Stmt) : Pos := match s with
  | .FunctionDef _ _ _ _ _ _ _ _ _ p => p
  | _ => ⟨0, 0, 0, 0⟩
structure FunC (K : PySem.W.Frag) (x qual : Str) (st : Stmt) (f : Addr) (fd : FuncData) (c0 : Addr) : Prop where
  ex : ∃ (oc : Value) (od : Option Addr) (kV doc pm : Value) (an : Option Addr) (ct : Value) (osl : Array (Option Value)),
    fd = PySem.W.fnOf x qual (defArgs st) (defBody st) (defScope st) .none kV doc pm an (.ref c0) ct /\ K.lookup f = some ⟨oc, od, .func fd, osl⟩ /\ PySem.W.codeIn K (.ref c0) qual = true
theorem FunC.ok {P : Program} {w : World} {K : PySem.W.Frag} {mg : Str -> Option Value} {base : Heap} {x qual : Str} {st : Stmt} {f : Addr} {fd : FuncData} {c0 : Addr} {N ps : List Str} {k : Nat} {sp : Sp} (F : FunC K x qual st f fd c0) (S : FnScope N ps (defScope st)) (len : ∀ vs H Q E, sp vs H Q E -> vs.length = ps.length)
    (hbody : ∀ (A : Around) (outer : List Env) (s : Shared) (H : Hp) (vs : List V) (Q : VK) (E : XK), Room k (A.deeper (envOfC qual (defScope st) s.heap.objs.size f (.ref c0))) -> sp vs H Q E ->
      ∃ t, PSs (cxOf CX0 P w K mg base N qual (defScope st) f (.ref c0) A outer s H E).nox (defBody st) t /\ t { nx := fun _ H' => Q .non H', rt := Q } (start N vs) H) : FnOk P w K mg base CX0 (k + 1) f fd ps sp := by
  obtain ⟨oc, od, kV, doc, pm, an, ct, osl, rfl, lk, hcd⟩ := F.ex
  refine fn_of lk hcd S len fun A outer s H vs Q E hr hsp => ?_
  obtain ⟨t, h, q⟩ := hbody A outer s H vs Q E hr hsp
  exact ⟨t, h.nox, q⟩
theorem NL.trans {H H1 H2 : Hp} (a : NL H H1) (b : NL H1 H2) : NL H H2 := fun x o n h => b x o n (a x o n h)
theorem NL.refl (H : Hp) : NL H H := fun _ _ _ h => h
end NC
namespace NC
open PySem PySem.Spec PyProof.Rows L2
def GM (P : Program) (w : World) (K : PySem.W.Frag) (mg : Str -> Option Value) (base : Heap) (CX : CXT) (k : Nat) (C : Addr) (m : Str) (ps : List Str) (sp : Sp) : Prop :=
  ∃ f fd, FnOk P w K mg base CX k f fd ps sp /\ Meth K C m f /\ Binds K fd ps []
def GK (P : Program) (w : World) (K : PySem.W.Frag) (mg : Str -> Option Value) (base : Heap) (CX : CXT) (k : Nat) (C : Addr) (x : Str) (ps : List Str) (sp : Sp) : Prop :=
  ∃ f fd, FnOk P w K mg base CX k f fd ps sp /\ Mk K C f /\ mg x = some (.ref C) /\ Binds K fd ps []
section
variable {X : Cx} {CX : CXT} {k : Nat} {C : Addr} {m x : Str} {ps : List Str} {sp : Sp} {E : XK} {o e : Expr} {es : List Expr} {ta : TE} {t : TA} {apos pos p : Pos}
theorem pe_gm {pl : Sem Bool} (he : PE X o ta) (c : Cls X.K C) (G : GM X.prog X.w X.K X.mg X.base CX k C m ps sp) (hr : Room k X.A) (hx : Passes CX X E) (ha : PA X (e :: es) t) (h : (e :: es).all plainE = true := by rfl)
    (ht : eval (.Call (.Attribute o m apos) (e :: es) [] pos) X.env = (do
      let ov <- eval o X.env
      standAt apos.atName
      let (f, first) <- holding [ov] (getMethod ov m pl)
      callWith pos f first (backTo pos (starEach (e :: es) X.env)) (backToKw pos (keywordEach [] X.env))) := by rfl) : PE X (.Call (.Attribute o m apos) (e :: es) [] pos) (tMeth C m sp [] E ta t) := by
  obtain ⟨f, fd, F, M, hb⟩ := G
  rw [List.all_cons, Bool.and_eq_true] at h
  exact pe_meth he c M F hr hb .nil hx ha (star_plain h.1) (star_any h.2) ht
theorem pe_gk (G : GK X.prog X.w X.K X.mg X.base CX k C x ps sp) (hr : Room (k + 1) X.A) (hg : Gl X x) (hx : Passes CX X E) (ha : PA X (e :: es) t) (h : (e :: es).all plainE = true := by rfl) (hdb : (x == ("__debug__" : Str)) = false := by decide) :
    PE X (.Call (.Name x p) (e :: es) [] pos) (tMake C sp [] E t) := by
  obtain ⟨f, fd, F, M, hm, hb⟩ := G
  rw [List.all_cons, Bool.and_eq_true] at h
  exact pe_make M F hr hg hm hb .nil hx ha hdb (star_plain h.1) (star_any h.2)
end
theorem pig {κ : Type} [DecidableEq κ] (f : Nat -> κ) : ∀ (M : Nat) (l : List κ), l.Nodup -> (∀ k ∈ l, ∃ n : Nat, n < M /\ k = f n) -> l.length <= M
  | 0, l, _, h => by
    cases l with
    | nil => exact Nat.le_refl _
    | cons k r =>
      obtain ⟨n, hn, _⟩ := h k List.mem_cons_self
      exact absurd hn (Nat.not_lt_zero _)
  | M + 1, l, nd, h => by
    by_cases hm : f M ∈ l
    · have q := pig f M (l.erase (f M)) (nd.erase _) fun k hk => by
        obtain ⟨hne, hk2⟩ := (nd.mem_erase_iff).mp hk
        obtain ⟨n, hn, e⟩ := h k hk2
        refine ⟨n, ?_, e⟩
        have : n ≠ M := fun z => hne (by rw [e, z])
        omega
      rw [List.length_erase_of_mem hm] at q
      omega
    · have q := pig f M l nd fun k hk => by
        obtain ⟨n, hn, e⟩ := h k hk
        refine ⟨n, ?_, e⟩
        have : n ≠ M := fun z => hm (by rw [<- z, <- e]; exact hk)
        omega
      omega
theorem key_len (M : Nat) (l : List Key) (nd : l.Nodup) (h : ∀ k ∈ l, ∃ n : Nat, n < M /\ k = .inl (n : Int)) : l.length <= M := pig (fun n => (.inl (n : Int) : Key)) M l nd h
end NC
namespace NC
open PySem PySem.Spec PyProof.Rows L2
theorem law_callT {P : Program} {w : World} {K : PySem.W.Frag} {mg mb : Str -> Option Value} {k : Nat} {fa a : Addr} {fd : FuncData} {x : Str} {sp : Sp} {s₁ : Shared} {vs : List Value} {ns : List Int} {tabs : List (Addr × Addr)}
    (KX : K.In s₁.heap) (hns : s₁.heap.Ns mainGlobals mg) (hb : s₁.heap.Ns builtinsNs mb) (hbb : ∀ x : Str, x ≠ "__name__" -> mb x = bootBuiltins x) (hlim : s₁.heap.NoLimit) (hg : s₁.gens = #[]) (BB : BltAt s₁.heap mg)
    (ha : s₁.heap.get? a = some { cls := .type "list", data := .seq vs.toArray }) (hi : IntsAre vs ns) (hl : ns.length <= sizeLine) (hr : Room k callerA)
    (hT1 : ∀ q ∈ tabs, PySem.W.codeHdIn K q.1 q.2 = true) (hT2 : ∀ q ∈ tabs, K.lookup q.2 = none) (hT3 : ∀ q ∈ tabs, s₁.heap.get? q.2 = some (PySem.W.tabObj #[]))
    (F : ∀ base : Heap, K.In base -> base.Ns mainGlobals mg -> BltAt base mg -> FnOk P w K mg base CX0 k fa fd [x] sp) (hbind : ∀ (s : Shared) (u : Value), BindsTo s fd ⟨[u], []⟩ [(x, u)])
    (hsp : ∀ H : Hp, (∀ q ∈ tabs, H q.2 = some (.tbl #[])) -> SqL K H a (ns.map V.int) -> sp [.ref a] H (fun v _ => v = .bl true) fun _ _ _ => False) :
    codeAny (model P w) callerA (.call (.ref fa) ⟨[.ref a], []⟩) (fun r s' => r = .ok (.ret (.bool true)) /\ OldK s₁.heap s'.heap /\ s'.os = s₁.os /\ AllBare s'.gens) s₁ := by
  have rv := vals_ints hi
  have lenV := hi.length
  have aT : ∀ q ∈ tabs, a ≠ q.2 := fun q hq z => by
    have e := hT3 q hq
    rw [<- z, ha] at e
    cases e
  have core : ∀ H : Hp, (∀ q ∈ tabs, H q.2 = some (.tbl #[])) -> SqL K H a (ns.map V.int) -> HOk P w H s₁.heap ->
      (∀ b u, H b = some u -> (b = a /\ ∃ xs, u = .frz { cls := .type "list", data := .seq vs.toArray } (.lst xs)) ∨ ((∃ q ∈ tabs, b = q.2) /\ u = .tbl #[])) -> (H a ≠ none -> K.lookup a = none) ->
      codeAny (model P w) callerA (.call (.ref fa) ⟨[.ref a], []⟩) (fun r s' => r = .ok (.ret (.bool true)) /\ OldK s₁.heap s'.heap /\ s'.os = s₁.os /\ AllBare s'.gens) s₁ := by
    intro H hH hS hok hA hK
    have off : ∀ {b : Addr} {o : Obj}, s₁.heap.get? b = some o -> o.cls ≠ .type "list" -> o.cls ≠ .none -> H b = none := fun {b o} e n1 n2 => by
      cases q : H b with
      | none => rfl
      | some u =>
        rcases hA b u q with ⟨z, _⟩ | ⟨⟨p, hp, z⟩, _⟩
        · rw [z, ha] at e; cases e; exact absurd rfl n1
        · rw [z, hT3 p hp] at e; cases e; exact absurd rfl n2
    have noA : ∀ {b : Addr} {o : Obj} {es : Array DictEntry} {ep : Nat}, s₁.heap.get? b = some o -> o.data = .dict es ep -> H b = none := fun {b o es ep} e d => by
      cases q : H b with
      | none => rfl
      | some u =>
        rcases hA b u q with ⟨z, _⟩ | ⟨⟨p, hp, z⟩, _⟩
        · rw [z, ha] at e; cases e; cases d
        · rw [z, hT3 p hp] at e; cases e; cases d
    have nsK : ∀ {b : Addr} {m : Str -> Option Value}, s₁.heap.Ns b m -> (hidT s₁.heap H).Ns b m := fun {b m} ⟨o, es, ep, e, d, r⟩ => ⟨o, es, ep, hidT_get e (noA e d), d, r⟩
    have hKb : K.In (hidT s₁.heap H) := fun b o e => hidT_get (KX b o e) (by
      cases q : H b with
      | none => rfl
      | some u =>
        rcases hA b u q with ⟨z, _⟩ | ⟨⟨p, hp, z⟩, _⟩
        · subst z
          rw [hK (by rw [q]; simp)] at e; cases e
        · rw [z, hT2 p hp] at e; cases e)
    have hBB : BltAt (hidT s₁.heap H) mg := by
      obtain ⟨bm, ob, h1, h2, h3, h4, h5, h6⟩ := BB
      exact ⟨bm, ob, h1, h2, hidT_get h3 (off h3 (by rw [h4]; decide) (by rw [h4]; decide)), h4, h5, h6⟩
    have hM : Mod K mg (hidT s₁.heap H) := ⟨hKb, nsK hns, ⟨mb, nsK hb, hbb⟩, let ⟨mc, h1, h2⟩ := hlim; ⟨mc, nsK h1, h2⟩⟩
    have e0 : Env0 P w K mg (hidT s₁.heap H) callerA [] s₁ H := ⟨rfl, hM, fun b o e => of_hidT e, Nat.le_of_eq (hidT_size _ _), trivial, fun b hb => absurd (show b ∈ ([] : List Addr) from hb) (by simp), hok, .of_eq hg⟩
    refine codeAny_mono ((F _ hKb (nsK hns) hBB).run callerA [] s₁ H ⟨[.ref a], []⟩ [.ref a] [.ref a] _ _ hr e0 (hbind s₁ (.ref a)) (.cons rfl .nil) (hsp H hH hS)) fun r s' h => ?_
    cases r with
    | error e => exact h.elim
    | ok fl =>
      cases fl with
      | next => exact False.elim h
      | brk => exact False.elim h
      | cont => exact False.elim h
      | ret u =>
        obtain ⟨v, H', os, bare, un, hok', r', q⟩ := h
        have q' : v = .bl true := q
        subst q'
        obtain rfl : u = Value.bool true := r'
        refine ⟨rfl, ⟨fun b o e => ?_, fun b o e => un.there b o e (by simp)⟩, os, bare⟩
        cases q : H b with
        | none => exact .inl (un.keep b o e q (by intro z; exact absurd (show b ∈ ([] : List Addr) from z) (by simp)) (by simp))
        | some u =>
          rcases hA b u q with ⟨_, xs, z⟩ | ⟨⟨p, hp, z⟩, zu⟩
          · subst z
            obtain ⟨e1, _⟩ := hok b _ q
            obtain ⟨e2, _⟩ := hok' b _ (un.frzs b _ _ q)
            rw [e] at e1; cases e1
            exact .inl e2
          · subst zu
            obtain ⟨more, z2⟩ := un.tbls b _ q
            have e1 : s₁.heap.get? b = some (PySem.W.tabObj #[]) := hok b _ q
            have e2 : s'.heap.get? b = some (PySem.W.tabObj (#[] ++ more)) := hok' b _ z2
            rw [e] at e1; cases e1
            have hc := (PySem.W.codeHd_of_K KX (hT1 p hp)).tab (hT3 p hp)
            rw [<- z] at hc
            exact .inr (.inl ⟨hc.isCodeTable, rfl, #[], more, rfl, e2⟩)
  have tabOk : ∀ b, (∃ q ∈ tabs, b = q.2) -> s₁.heap.get? b = some (PySem.W.tabObj #[]) := fun b ⟨q, hq, z⟩ => by rw [z]; exact hT3 q hq
  classical
  cases hk : K.lookup a with
  | some o =>
    have e := KX a o hk
    rw [ha] at e
    cases e
    refine core (fun b => if (∃ q ∈ tabs, b = q.2) then some (.tbl #[]) else none) (fun q hq => if_pos ⟨q, hq, rfl⟩) (.inr ⟨_, vs.toArray, _, hk, rfl, rfl, rfl, by rw [List.size_toArray, lenV]; exact hl, by simpa using rv⟩) (fun b u z => ?_) (fun b u z => ?_) fun z => absurd (if_neg fun ⟨q, hq, e⟩ => aT q hq e) z
    · by_cases hb : ∃ q ∈ tabs, b = q.2
      · have z' := (if_pos hb).symm.trans z
        cases z'
        exact tabOk b hb
      · have z' := (if_neg hb).symm.trans z
        cases z'
    · by_cases hb : ∃ q ∈ tabs, b = q.2
      · have z' := (if_pos hb).symm.trans z
        cases z'
        exact .inr ⟨hb, rfl⟩
      · have z' := (if_neg hb).symm.trans z
        cases z'
  | none =>
    have na : ¬ ∃ q ∈ tabs, a = q.2 := fun ⟨q, hq, e⟩ => aT q hq e
    refine core (fun b => if (∃ q ∈ tabs, b = q.2) then some (.tbl #[]) else if b = a then some (.frz { cls := .type "list", data := .seq vs.toArray } (.lst (ns.map V.int))) else none) (fun q hq => if_pos ⟨q, hq, rfl⟩)
      (.inl (.inr ⟨{ cls := .type "list", data := .seq vs.toArray }, (if_neg na).trans (if_pos rfl)⟩)) (fun b u z => ?_) (fun b u z => ?_) fun _ => hk
    · by_cases hb : ∃ q ∈ tabs, b = q.2
      · have z' := (if_pos hb).symm.trans z
        cases z'
        exact tabOk b hb
      · have z := (if_neg hb).symm.trans z
        by_cases hba : b = a
        · have z' := (if_pos hba).symm.trans z
          cases z'
          subst hba
          exact ⟨ha, by rw [List.length_map]; exact hl, vs, _, rv, ha⟩
        · have z' := (if_neg hba).symm.trans z
          cases z'
    · by_cases hb : ∃ q ∈ tabs, b = q.2
      · have z' := (if_pos hb).symm.trans z
        cases z'
        exact .inr ⟨hb, rfl⟩
      · have z := (if_neg hb).symm.trans z
        by_cases hba : b = a
        · have z' := (if_pos hba).symm.trans z
          cases z'
          exact .inl ⟨hba, _, rfl⟩
        · have z' := (if_neg hba).symm.trans z
          cases z'
theorem walk_T {l : PySem.W.OpenLaw} {k : Nat} {q : Program} {loose : List Str} {XP : (Str -> Option Value) -> Heap -> Prop} {YP : World -> Heap -> Prop} {d : DefRec} {K : Params -> PySem.W.Frag} {sp : PySem.W.Frag -> Sp} {x : Str} {tabs : List (Addr × Addr)}
    (hn : l.most = some 63) (hdf : d.params.defaults = []) (hr : Room k callerA) (hY : ∀ (w : World) (h : Heap), YP w h -> (K w.params).In h) (hYT : ∀ (w : World) (h : Heap), YP w h -> ∀ q ∈ tabs, h.get? q.2 = some (PySem.W.tabObj #[]))
    (hT1 : ∀ P, ∀ q ∈ tabs, PySem.W.codeHdIn (K P) q.1 q.2 = true) (hT2 : ∀ P, ∀ q ∈ tabs, (K P).lookup q.2 = none)
    (F : ∀ (w : World) (mg : Str -> Option Value) (fa : Addr) (h : Heap), (K w.params).In h -> h.Ns mainGlobals mg -> mg d.name = some (.ref fa) ->
      ∃ fd : FuncData, (∀ (s : Shared) (u : Value), BindsTo s fd ⟨[u], []⟩ [(x, u)]) /\
        ∀ base : Heap, (K w.params).In base -> base.Ns mainGlobals mg -> BltAt base mg -> FnOk l.prog w (K w.params) mg base CX0 k fa fd [x] (sp (K w.params)))
    (hsp : ∀ (K : PySem.W.Frag) (H : Hp) (a : Addr) (ns : List Int), ns.length <= 63 -> (∀ q ∈ tabs, H q.2 = some (.tbl #[])) -> SqL K H a (ns.map V.int) -> sp K [.ref a] H (fun v _ => v = .bl true) fun _ _ _ => False) :
    PySem.W.WalkO q loose XP YP l.row.toRowW d [] (fun f vs => PySem.call f vs) := by
  refine Att.attach_call hn hdf fun w s₀ s₁ mg mb fa o pm cd doc a vs ns G Y ho hd hcd hmg hobj hints hlen hg => ?_
  have KX := hY w _ Y
  obtain ⟨fd, hb, hF⟩ := F w mg fa _ KX G.T.g hmg
  exact law_callT KX G.T.g G.T.b G.T.builtins G.T.nolimit hg G.T.bmain hobj hints (Nat.le_trans hlen (by decide)) hr (hT1 _) (hT2 _) (hYT w _ Y) hF hb fun H hO hS => hsp _ H a ns hlen hO hS
end NC
namespace NC
open PySem PySem.Spec PyProof.Rows L2
section
variable {prog : Program} {w : World} {A : Around} {R : Result -> Shared -> Prop} {s : Shared}
theorem compLoop_any {elt target iter : Expr} {ifs : List Expr} {scope : Scope} {pos : Pos} {it acc : Value} {env : Env} (I : Nat -> Shared -> Prop)
    (turn : ∀ n s, I n s -> wpAny (model prog w) A (pyNext it) (fun r s₁ => match r with
      | none => R (.ok .next) s₁
      | some v => wpAny (model prog w) A (letOwnedTupleGo target it v) (fun _ s₁' => wpAny (model prog w) A (assign target env v) (fun _ s₂ =>
          wpAny (model prog w) A (forIn ifs true fun c r => if r = true then do let ok <- isTrue c env (eval c env); pure (ForInStep.yield ok) else pure (ForInStep.yield r)) (fun ok s₃ =>
            if ok = true then wpAny (model prog w) A (eval elt env) (fun x s₄ =>
              wpAny (model prog w) A (call (.builtin "list.append") [acc, x]) (fun _ s₅ => ∃ m, m < n /\ I m s₅) (fun _ _ => False) s₄) (fun _ _ => False) s₃
            else ∃ m, m < n /\ I m s₃) (fun _ _ => False) s₂) (fun _ _ => False) s₁') (fun _ _ => False) s₁) (fun _ _ => False) s)
    (n : Nat) (h : I n s) : codeAny (model prog w) A (.compLoop (.ListComp elt [⟨target, iter, ifs, 0⟩] scope pos) 0 it acc env) R s := by
  refine codeAny_loop rfl I (fun n s hI => ?_) n h
  show wpAny _ A ((compTurn (.ListComp elt [⟨target, iter, ifs, 0⟩] scope pos) 0 it acc env).onRaise (fun x => do noteFrame x env; theTreesLotGoes x)) _ _ s
  refine wpAny_noted ?_
  rw [compTurn_list]
  refine wpAny_bind (wpAny_standAt (wpAny_bind (wpAny_mono (turn n s hI) (fun r s₁ h₁ => ?_) fun _ _ h' => h'.elim)))
  cases r with
  | none => exact wpAny_pure h₁
  | some v =>
    refine wpAny_bind (wpAny_mono h₁ (fun _ s₁' h₁' => ?_) fun _ _ h' => h'.elim)
    refine wpAny_bind (wpAny_mono h₁' (fun _ s₂ h₂ => wpAny_bind (wpAny_mono h₂ (fun ok s₃ h₃ => ?_) fun _ _ h' => h'.elim)) fun _ _ h' => h'.elim)
    cases ok with
    | false => exact wpAny_pure ⟨rfl, h₃⟩
    | true =>
      exact wpAny_bind (wpAny_bind (wpAny_mono h₃ (fun x s₄ h₄ => wpAny_bind (wpAny_mono h₄ (fun _ s₅ h₅ => wpAny_pure (wpAny_pure ⟨rfl, h₅⟩)) fun _ _ h' => h'.elim)) fun _ _ h' => h'.elim))
end
def compCx (X : Cx) (N : List Str) (scope : Scope) (C : Addr) (s : Shared) (H : Hp) : Cx where
  prog := X.prog
  w := X.w
  K := X.K
  mg := X.mg
  base := X.base
  A := X.A
  N := N
  s₀ := s
  H₀ := H
  env := compEnv scope C X.env
  outer := X.stack
  stack := X.stack
  ex := []
  calm := X.calm
  fn := fun _ => false
  pn := []
  xe := fun _ _ => False
def PF (X : Cx) (ifs : List Expr) (t : TT) : Prop := ∀ (pins : List (Addr × Obj)) (s : Shared) (σ : L2.St) (H : Hp) (Q : Bool -> Hp -> Prop), Inv X pins σ H s -> t σ H Q ->
  wpAny (model X.prog X.w) X.A (forIn ifs true fun c r => if r = true then do let ok <- isTrue c X.env (eval c X.env); pure (ForInStep.yield ok) else pure (ForInStep.yield r)) (TP X pins σ Q) X.xe s
def tYes : TT := fun _ H Q => Q true H
theorem pf_nil {X : Cx} : PF X [] tYes := fun pins s σ H Q I h => wpAny_tests_nil ⟨H, I, h⟩
end NC
namespace NC
open PySem PySem.Spec PyProof.Rows L2
def Itz (K : PySem.W.Frag) (l1 l2 : Addr) : It :=
  ⟨fun i H => ∃ xs ys x y, SqL K H l1 xs /\ SqL K H l2 ys /\ xs[i]? = some x /\ ys[i]? = some y,
   fun i H v H' => ∃ p x y, v = .ref p /\ H p = none /\ H' = upd H p (.tup [x, y]) /\ (∀ xs, SqL K H l1 xs -> xs[i]? = some x) /\ ∀ ys, SqL K H l2 ys -> ys[i]? = some y,
   fun i H => ∃ xs ys, SqL K H l1 xs /\ SqL K H l2 ys /\ (xs.length <= i ∨ ys.length <= i)⟩
structure ZipOwn (z TI TO i1 i2 : Addr) : Prop where
  TIz : TI ≠ z
  TOz : TO ≠ z
  i1z : i1 ≠ z
  i2z : i2 ≠ z
  TITO : TI ≠ TO
  TIi1 : TI ≠ i1
  TIi2 : TI ≠ i2
  TOi1 : TO ≠ i1
  TOi2 : TO ≠ i2
  i12 : i1 ≠ i2
theorem list_apart {h : Heap} {l b : Addr} {xs : Array Value} {o : Obj} (p : h.IsList l xs) (e : h.get? b = some o) (n : o.cls ≠ .type "list") : l ≠ b := fun z => by
  obtain ⟨o', e', c, _⟩ := p
  rw [z, e] at e'
  cases e'
  exact n c
def ZipTn (z TI TO i1 i2 l1 l2 : Addr) (i : Nat) (h : Heap) : Prop := IsZip h z TI TO .none /\ IsPair h TI (.ref i1) (.ref i2) /\ (∃ a b, IsPair h TO a b) /\ h.IsListIter i1 l1 i /\ h.IsListIter i2 l2 i
theorem ZipTn.apart {z TI TO i1 i2 l1 l2 : Addr} {i : Nat} {h : Heap} {xs ys : Array Value} (D : ZipOwn z TI TO i1 i2) (t : ZipTn z TI TO i1 i2 l1 l2 i h) (p1 : h.IsList l1 xs) (p2 : h.IsList l2 ys) : ZipApart z TI TO i1 i2 l1 l2 := by
  obtain ⟨hz, hTI, ⟨a, b, hTO⟩, ⟨o1, e1, c1, _⟩, ⟨o2, e2, c2, _⟩⟩ := t
  have n1 : o1.cls ≠ .type "list" := by rw [c1]; simp
  have n2 : o2.cls ≠ .type "list" := by rw [c2]; simp
  exact ⟨D.TIz, D.TOz, D.i1z, D.i2z, D.TITO, D.TIi1, D.TIi2, D.TOi1, D.TOi2, D.i12, list_apart p1 hz (by simp), list_apart p1 hTO (by simp), list_apart p1 e1 n1, list_apart p1 e2 n2, list_apart p2 hz (by simp), list_apart p2 hTO (by simp), list_apart p2 e1 n1, list_apart p2 e2 n2⟩
section
variable {X : Cx} {pins : List (Addr × Obj)} {σ : L2.St} {H : Hp} {s : Shared} {h' : Heap}
theorem turned_new {t' : Nat} {ch : List Addr} {p : Addr} {xs : List V} (I : Inv X pins σ H s) (hf : ∀ b ∈ ch, FpOk X pins H b) (k : ∀ b o, b ∉ ch -> s.heap.get? b = some o -> h'.get? b = some o) (hp : s.heap.objs.size <= p) (new : ObjOk X.prog X.w (upd H p (.tup xs)) h' p (.tup xs)) :
    Inv X pins σ (upd H p (.tup xs)) { s with heap := h', toks := t' } := by
  have hn := I.hok.fresh hp
  have nch : ∀ b u, H b = some u -> b ∉ ch := fun b u e z => by rw [(hf b z).1] at e; cases e
  refine I.step (g' := s.gens) (d' := s.drawn) (ch := ch) (fun b hb => ?_) (fun b o _ _ hc e _ => k b o hc e) (fun b o _ _ hc e _ => ⟨o.slots, k b o hc e⟩) (fun b o _ e n => ?_)
    (fun b o hc e => ⟨o, k b o hc e⟩) (fun b xs e => by rw [upd_ne (ne_of_none e hn)]; exact e) (fun b o u e => by rw [upd_ne (ne_of_none e hn)]; exact e) (fun b ps e => ⟨#[], by rw [upd_ne (ne_of_none e hn), e]; simp⟩) (fun m hm => ?_) (fun b u e => ?_) I.bare
  · obtain ⟨_, f1, f2, f3, f4, f5⟩ := hf b hb
    exact ⟨f3, f1, f4, f5⟩
  · rw [upd_ne fun z => by rw [z] at e; exact absurd (Nat.lt_of_lt_of_le (Heap.lt_size e) hp) (Nat.lt_irrefl _)]
    exact n
  · obtain ⟨o, es, ep, ho, r⟩ := hm
    exact ⟨o, es, ep, k _ o (fun z => (hf _ z).2.1 rfl) ho, r⟩
  · by_cases hb : b = p
    · subst hb
      rw [upd_same] at e
      cases e
      exact new
    · rw [upd_ne hb] at e
      refine (I.hok b u e).stay (fun c v hc q => k c v ?_ q) (fun c q => by rw [upd_ne (ne_of_none q hn)]; exact q) fun c xs q => by rw [upd_ne (ne_of_none q hn)]; exact q
      rcases hc with z | z
      · rw [z]; exact nch b u e
      · exact nch c _ z
theorem turned_all {t' : Nat} {ch : List Addr} (I : Inv X pins σ H s) (hf : ∀ b ∈ ch, FpOk X pins H b) (k : ∀ b o, b ∉ ch -> s.heap.get? b = some o -> h'.get? b = some o) : Inv X pins σ H { s with heap := h', toks := t' } := by
  have nch : ∀ b u, H b = some u -> b ∉ ch := fun b u e z => by rw [(hf b z).1] at e; cases e
  refine I.step (g' := s.gens) (d' := s.drawn) (ch := ch) (fun b hb => ?_) (fun b o _ _ hc e _ => k b o hc e) (fun b o _ _ hc e _ => ⟨o.slots, k b o hc e⟩) (fun _ _ _ _ n => n)
    (fun b o hc e => ⟨o, k b o hc e⟩) (fun _ _ e => e) (fun _ _ _ e => e) (fun b ps e => ⟨#[], by rw [e]; simp⟩) (fun m hm => ?_) (fun b u e => ?_) I.bare
  · obtain ⟨_, f1, f2, f3, f4, f5⟩ := hf b hb
    exact ⟨f3, f1, f4, f5⟩
  · obtain ⟨o, es, ep, ho, r⟩ := hm
    exact ⟨o, es, ep, k _ o (fun z => (hf _ z).2.1 rfl) ho, r⟩
  · refine (I.hok b u e).stay (fun c v hc q => k c v ?_ q) (fun _ q => q) fun _ _ q => q
    rcases hc with z | z
    · rw [z]; exact nch b u e
    · exact nch c _ z
end
theorem turn_zip {P : Program} {w : World} {K : PySem.W.Frag} {elts : List Expr} {x1} {pos : Pos} {z TI TO i1 i2 : Addr} (l1 l2 : Addr) (D : ZipOwn z TI TO i1 i2) :
    Turn P w K (.Tuple elts x1 pos) (Itz K l1 l2) [z, TI, TO, i1, i2] z (ZipTn z TI TO i1 i2 l1 l2) where
  mem := by simp
  obj := fun i h st b hb => by
    obtain ⟨hz, hTI, ⟨a, c, hTO⟩, ⟨o1, e1, c1, d1⟩, ⟨o2, e2, c2, d2⟩⟩ := st
    simp only [List.mem_cons, List.not_mem_nil, or_false] at hb
    rcases hb with rfl | rfl | rfl | rfl | rfl
    · exact ⟨_, hz, fun v q => by have q' : Data.fields _ = Data.cell v := q; cases q'⟩
    · exact ⟨_, hTI, fun v q => by have q' : Data.seq _ _ = Data.cell v := q; cases q'⟩
    · exact ⟨_, hTO, fun v q => by have q' : Data.seq _ _ = Data.cell v := q; cases q'⟩
    · exact ⟨_, e1, fun v q => by rw [d1] at q; cases q⟩
    · exact ⟨_, e2, fun v q => by rw [d2] at q; cases q⟩
  keep := fun i h h' st k => by
    obtain ⟨hz, hTI, ⟨a, c, hTO⟩, h1, h2⟩ := st
    exact ⟨k z (by simp) _ hz, k TI (by simp) _ hTI, ⟨a, c, k TO (by simp) _ hTO⟩, h1.at fun o e => k i1 (by simp) o e, h2.at fun o e => k i2 (by simp) o e⟩
  item := by
    intro X hP hw hK hc i pins s σ H E I hf st hg
    subst hP hw hK
    obtain ⟨xs, ys, x, y, q1, q2, hx, hy⟩ := hg
    obtain ⟨its1, rv1, p1, hz1⟩ := I.list q1
    obtain ⟨its2, rv2, p2, hz2⟩ := I.list q2
    obtain ⟨u1, hu1, ru1⟩ := rv1.get hx
    obtain ⟨u2, hu2, ru2⟩ := rv2.get hy
    have DA := st.apart D p1.isList p2.isList
    obtain ⟨hz, hTI, ⟨a, b, hTO⟩, h1, h2⟩ := st
    refine wpAny_pyNext_zip_item DA hz hTI hTO h1 h2 p1.isList p2.isList (x := u1) (y := u2) (by simpa using hu1) (by simpa using hu2) fun h' a1 a2 a3 a4 a5 a6 a7 => ?_
    have lt : ∀ {c o}, s.heap.get? c = some o -> s.heap.objs.size ≠ c := fun e => Nat.ne_of_gt (Heap.lt_size e)
    have ltz := lt hz
    refine ⟨_, rfl, wpAny_letOwnedTupleGo_zip a1 fun h'' hz' hs' => ?_⟩
    have k : ∀ b o, b ∉ [z, TI, TO, i1, i2] -> s.heap.get? b = some o -> h''.get? b = some o := fun b o hb e => by
      simp only [List.mem_cons, List.not_mem_nil, or_false, not_or] at hb
      exact hs'.extBut _ _ hb.1 (a7 b o hb.1 hb.2.2.1 hb.2.2.2.1 hb.2.2.2.2 e)
    have I2 : Inv X pins σ (upd H s.heap.objs.size (.tup [x, y])) { s with heap := h'', toks := s.toks } := turned_new I hf k (Nat.le_refl _) ⟨by show 2 <= sizeLine; exact small' (by decide), [u1, u2], .cons ru1 (.cons ru2 .nil), ⟨_, hs'.extBut _ _ ltz a5, rfl, _, rfl⟩⟩
    have hn := I.hok.fresh (Nat.le_refl _)
    refine ⟨.ref s.heap.objs.size, _, I2, rfl, ⟨_, x, y, rfl, hn, rfl, fun zs hz => by rw [I.list_inj hz q1]; exact hx, fun zs hz => by rw [I.list_inj hz q2]; exact hy⟩, ⟨hz', hs'.extBut _ _ D.TIz (a7 _ _ D.TIz D.TITO D.TIi1 D.TIi2 hTI), ⟨_, _, hs'.extBut _ _ D.TOz a2⟩, a3.extBut hs'.extBut D.i1z, a4.extBut hs'.extBut D.i2z⟩, fun b hb => ?_⟩
    rw [upd_ne ?_]
    · exact (hf b hb).1
    · obtain ⟨o1, e1, _⟩ := h1
      obtain ⟨o2, e2, _⟩ := h2
      simp only [List.mem_cons, List.not_mem_nil, or_false] at hb
      rcases hb with rfl | rfl | rfl | rfl | rfl
      · exact (lt hz).symm
      · exact (lt hTI).symm
      · exact (lt hTO).symm
      · exact (lt e1).symm
      · exact (lt e2).symm
  done := by
    intro X hP hw hK hc i pins s σ H E I hf st hg
    subst hP hw hK
    obtain ⟨xs, ys, q1, q2, hend⟩ := hg
    obtain ⟨its1, rv1, p1, hz1⟩ := I.list q1
    obtain ⟨its2, rv2, p2, hz2⟩ := I.list q2
    have DA := st.apart D p1.isList p2.isList
    obtain ⟨hz, hTI, ⟨a, b, hTO⟩, h1, h2⟩ := st
    have l1' := rv1.length
    have l2' := rv2.length
    refine wpAny_pyNext_zip_end (I.ok.hd hc) DA hz hTI hTO h1 h2 p1.isList p2.isList ?_ fun h' k => ⟨rfl, turned_all (t' := s.toks) I hf fun b o hb e => ?_⟩
    · rcases hend with h | h
      · exact .inl (by simp; omega)
      · exact .inr (by simp; omega)
    · simp only [List.mem_cons, List.not_mem_nil, or_false, not_or] at hb
      exact k b o hb.1 hb.2.2.1 hb.2.2.2.1 hb.2.2.2.2 e
  self := fun _ _ _ _ _ st h => wpAny_pyIter_zip st.1 h
section
variable {X : Cx}
end
def compCxI (X : Cx) (N : List Str) (scope : Scope) (C : Addr) (s : Shared) (H : Hp) (fp : List Addr) : Cx := { compCx X N scope C s H with ex := fp }
end NC
namespace NC
open PySem PySem.Spec PyProof.Rows L2

def lamArgs (e : Expr) : Arguments := match e with
  | .Lambda a _ _ _ => a
  | _ => defArgs (.Pass ⟨0, 0, 0, 0⟩)
def lamBody (e : Expr) : Expr := match e with
  | .Lambda _ b _ _ => b
  | x => x
def lamScope (e : Expr) : Scope := match e with
  | .Lambda _ _ s _ => s
  | _ => defScope (.Pass ⟨0, 0, 0, 0⟩)
def lamPos (e : Expr) : Pos := match e with
  | .Lambda _ _ _ p => p
  | _ => ⟨0, 0, 0, 0⟩
def retArg (s : Stmt) (i j : Nat) : Expr := match (defBody s).getD i (.Pass ⟨0, 0, 0, 0⟩) with
  | .Return (some (.Call f es _ _)) _ => es.getD j f
  | _ => .Name "" ⟨0, 0, 0, 0⟩
def FnObjL (f c : Addr) (qual : Str) (params : Arguments) (body : Expr) (scope : Scope) (clos : List (Str × Addr)) : HO := .ext fun h => ∃ pm ctv, h.get? f = some (PySem.W.kla_obj "<lambda>" qual params body scope clos pm c ctv)
theorem fnObjL_ok {P : Program} {w : World} {H : Hp} {h : Heap} {f c : Addr} {qual : Str} {params : Arguments} {body : Expr} {scope : Scope} {clos : List (Str × Addr)} {pm ctv : Value}
    (x : h.get? f = some (PySem.W.kla_obj "<lambda>" qual params body scope clos pm c ctv)) : ObjOk P w H h f (FnObjL f c qual params body scope clos) :=
  ⟨⟨pm, ctv, x⟩, ⟨_, x⟩, fun _ _ ⟨p, t, e⟩ k => ⟨p, t, k _ e⟩⟩
section
variable {X : Cx} {pins : List (Addr × Obj)} {σ : L2.St} {H : Hp} {s : Shared}
def tLam (P : Addr) (pos : Pos) (qual : Str) (params : Arguments) (body : Expr) (scope : Scope) (clos : List (Str × Addr)) : TE := fun _ H Q =>
  TabOk H P pos qual /\ ∀ f c H', H f = none -> SameX H H' -> TabOk H' P pos qual -> H' c = some (CodeX c qual) -> H' f = some (FnObjL f c qual params body scope clos) ->
    (∀ Q : Addr, Q ≠ P -> ∀ ps, H Q = some (.tbl ps) -> H' Q = some (.tbl ps)) -> Q (.ref f) H'
theorem pe_lam {qual : Str} {params : Arguments} {body : Expr} {scope : Scope} {pos : Pos} {c0 P : Addr} {clos : List (Str × Addr)} (hcode : X.env.code = .ref c0) (hC : PySem.W.codeHdIn X.K c0 P = true) (BB : BltAt X.base X.mg)
    (hcl : closureFor scope X.env = pure clos) (hq : X.env.qual ++ "<lambda>" = qual) (hdef : defaultsOf params X.env = ([], []) := by rfl) :
    PE X (.Lambda params body scope pos) (tLam P pos qual params body scope clos) := by
  intro pins s σ H Q I h
  obtain ⟨ht, k⟩ := h
  refine PySem.W.kla_eval hdef ?_
  rw [hq]
  have hg : s.heap.Ns mainGlobals X.mg := I.mod.glob.keeps I.bk
  have CH : PySem.W.CodeHd s.heap c0 P := PySem.W.codeHd_of_K I.kIn hC
  obtain ⟨bm, ob, b1, b2, b3, b4, b5, b6⟩ := BB
  have trk : ∃ ps, H P = some (.tbl ps) := by
    rcases ht with t | ⟨c, t, _⟩
    · exact ⟨_, t⟩
    · exact ⟨_, t⟩
  have nP : ∀ b o, X.base.get? b = some o -> b ≠ P := fun b o e z => by
    obtain ⟨ps, t⟩ := trk
    rw [z] at e
    rw [(I.bs P o e).2] at t
    cases t
  have hgP : mainGlobals ≠ P := by
    obtain ⟨o, es, ep, e, _⟩ := I.mod.glob
    exact nP _ _ e
  have hbG : bm ≠ mainGlobals := fun q => by
    obtain ⟨o, es, ep, e, hd, _⟩ := I.mod.glob
    rw [q, e] at b3
    cases b3
    rw [hd] at b6
    cases b6
  have hB : s.heap.BuiltinsAt X.mg P := ⟨bm, ob, b1, b2, hbG, nP _ _ b3, I.bk _ _ b3, b4, b5, b6⟩
  rcases ht with t | ⟨c, t, tc⟩
  · -- the first time
    have hP : s.heap.get? P = some (PySem.W.tabObj #[]) := tbl_at I t
    refine PySem.W.kla_makeFunction (mg := X.mg) hcl I.ok.glob hg hcode CH hP True.intro rfl hgP hB fun c' ctv h' tk hx' hge hlt hrec htb => ?_
    have szf : s.heap.objs.size <= h'.objs.size := Nat.le_trans hge (Nat.le_of_lt hlt)
    have oldP : ∀ b o, b ≠ P -> s.heap.get? b = some o -> (h'.push (PySem.W.kla_obj "<lambda>" qual params body scope clos ((X.mg "__name__").getD .none) c' ctv)).get? b = some o := fun b o n e => Heap.get?_push_of_some _ (hx' b o n e)
    have nc : ∀ b o, s.heap.get? b = some o -> b ≠ c' := fun b o e => Nat.ne_of_lt (Nat.lt_of_lt_of_le (Heap.lt_size e) hge)
    have nf : ∀ b o, s.heap.get? b = some o -> b ≠ h'.objs.size := fun b o e => Nat.ne_of_lt (Nat.lt_of_lt_of_le (Heap.lt_size e) szf)
    have tr : ∀ b u, H b = some u -> ∃ o, s.heap.get? b = some o := fun b u e => objok_there (I.hok b u e)
    have hcf : c' ≠ h'.objs.size := Nat.ne_of_lt hlt
    have H'b : ∀ b o, b ≠ P -> (∃ ob, s.heap.get? b = some ob) -> H b = o -> (upd (upd (upd H P (.tbl #[rawInt pos.line, rawInt pos.col, .ref c'])) c' (CodeX c' qual)) h'.objs.size (FnObjL h'.objs.size c' qual params body scope clos)) b = o := fun b o n ⟨ob, e⟩ q => by
      rw [upd_ne (nf b ob e), upd_ne (nc b ob e), upd_ne n, q]
    have nfree : ∀ b, H b = none -> b ≠ P := fun b n z => by rw [z, t] at n; cases n
    have eP : (upd (upd (upd H P (.tbl #[rawInt pos.line, rawInt pos.col, .ref c'])) c' (CodeX c' qual)) h'.objs.size (FnObjL h'.objs.size c' qual params body scope clos)) P = some (.tbl #[rawInt pos.line, rawInt pos.col, .ref c']) := by
      rw [upd_ne (nf P _ hP), upd_ne (nc P _ hP), upd_same]
    have eC : (upd (upd (upd H P (.tbl #[rawInt pos.line, rawInt pos.col, .ref c'])) c' (CodeX c' qual)) h'.objs.size (FnObjL h'.objs.size c' qual params body scope clos)) c' = some (CodeX c' qual) := by
      rw [upd_ne hcf, upd_same]
    have I' : Inv X pins σ (upd (upd (upd H P (.tbl #[rawInt pos.line, rawInt pos.col, .ref c'])) c' (CodeX c' qual)) h'.objs.size (FnObjL h'.objs.size c' qual params body scope clos))
        { s with heap := h'.push (PySem.W.kla_obj "<lambda>" qual params body scope clos ((X.mg "__name__").getD .none) c' ctv), toks := tk } := by
      refine I.step (g' := s.gens) (d' := s.drawn) (ch := []) (fun _ z => nomatch z) (fun b o _ _ _ e n => oldP b o (nfree b n) e) (fun b o _ _ _ e n => ⟨o.slots, oldP b o (nfree b n) e⟩) (fun b o _ e n => H'b b none (nfree b n) ⟨o, e⟩ n)
        (fun b o _ e => ?_) (fun b xs e => H'b b _ (fun z => by rw [z, t] at e; cases e) (tr b _ e) e) (fun b ob u e => H'b b _ (fun z => by rw [z, t] at e; cases e) (tr b _ e) e) (fun b qs e => ?_) (fun m hm => ?_) (fun b u e => ?_) I.bare
      · by_cases hb : b = P
        · subst hb
          exact ⟨_, Heap.get?_push_of_some _ htb⟩
        · exact ⟨o, oldP b o hb e⟩
      · by_cases hb : b = P
        · subst hb
          rw [t] at e
          cases e
          exact ⟨#[rawInt pos.line, rawInt pos.col, .ref c'], by rw [eP]; simp⟩
        · exact ⟨#[], by rw [H'b b _ hb (tr b _ e) e]; simp⟩
      · obtain ⟨o, es, ep, e, r⟩ := hm
        exact ⟨o, es, ep, oldP _ o (nfree _ I.free) e, r⟩
      · by_cases h1 : b = h'.objs.size
        · subst h1
          rw [upd_same] at e
          cases e
          exact fnObjL_ok (Heap.get?_push_size _ rfl)
        · rw [upd_ne h1] at e
          by_cases h2 : b = c'
          · subst h2
            rw [upd_same] at e
            cases e
            exact codeX_ok (hrec.keeps fun b o q => Heap.get?_push_of_some _ q)
          · rw [upd_ne h2] at e
            by_cases h3 : b = P
            · subst h3
              rw [upd_same] at e
              cases e
              show (h'.push _).get? _ = some _
              exact Heap.get?_push_of_some _ htb
            · rw [upd_ne h3] at e
              refine (I.hok b u e).stay (fun d v hd q => oldP d v ?_ q) (fun d q => H'b d _ (fun z => by rw [z, t] at q; cases q) (tr d _ q) q) fun d xs q => H'b d _ (fun z => by rw [z, t] at q; cases q) (tr d _ q) q
              rcases hd with rfl | hd
              · exact h3
              · intro z; rw [z, t] at hd; cases hd
    refine ⟨.ref h'.objs.size, _, I', rfl, k h'.objs.size c' _ (I.hok.fresh szf) (fun b o n q => ?_) (.inr ⟨c', eP, eC⟩) eC upd_same fun Q hQ qs q => ?_⟩
    · exact H'b b _ (fun z => by rw [z, t] at q; cases q; exact n _ rfl) (tr b _ q) q
    · exact H'b Q _ hQ (tr Q _ q) q
  · -- its code is there
    have hP : s.heap.get? P = some (PySem.W.tabObj #[rawInt pos.line, rawInt pos.col, .ref c]) := tbl_at I t
    refine PySem.W.kla_makeFunctionHit (mg := X.mg) (cv := .ref c) hcl I.ok.glob hg hcode CH hP (by exact True.intro) (among_hit pos _) hB fun ctv h' tk hk hsz => ?_
    have hfr : H h'.objs.size = none := I.hok.fresh hsz
    have I' : Inv X pins σ (upd H h'.objs.size (FnObjL h'.objs.size c qual params body scope clos)) { s with heap := h'.push (PySem.W.kla_obj "<lambda>" qual params body scope clos ((X.mg "__name__").getD .none) c ctv), toks := tk } :=
      I.laid (fun b o e => Heap.get?_push_of_some _ (hk b o e)) hsz (fnObjL_ok (Heap.get?_push_size _ rfl))
    have sm : Same H (upd H h'.objs.size (FnObjL h'.objs.size c qual params body scope clos)) := same_new hfr
    exact ⟨.ref h'.objs.size, _, I', rfl, k h'.objs.size c _ hfr (.of sm) (.inr ⟨c, sm _ _ t, sm _ _ tc⟩) (sm _ _ tc) upd_same fun Q _ qs q => sm _ _ q⟩
end
theorem made_free {H H' : Hp} {P : Addr} {pos : Pos} {qual : Str} (sx : SameX H H') (tp : TabOk H' P pos qual) (oth : ∀ Q : Addr, Q ≠ P -> ∀ ps, H Q = some (.tbl ps) -> H' Q = some (.tbl ps)) {b : Addr} (n : H' b = none) : H b = none := by
  rcases sx.free n with e | ⟨ps, e⟩
  · exact e
  · by_cases hb : b = P
    · subst hb
      rcases tp with t | ⟨c, t, _⟩
      · rw [n] at t; cases t
      · rw [n] at t; cases t
    · have := oth b hb ps e
      rw [n] at this; cases this

section
variable {CX : CXT} {P : Program} {w : World} {K : PySem.W.Frag} {mg : Str -> Option Value} {base : Heap} {k : Nat} {f c : Addr} {name qual : Str} {params : Arguments} {body : List Stmt} {bodyE : Expr} {scope : Scope} {clos : List (Str × Addr)} {doc pm ctv : Value} {ps fs : List Str} {fvs : List V} {sp : Sp}
theorem clo_inv {A : Around} {outer : List Env} {s : Shared} {H : Hp} {E : XK} {h₁ : Heap} {us : List Value} {vs : List V} {tk : Tok} (S : CloScope ps fs scope) (hc : CellsAt base clos fs fvs)
    (hclos : ∀ x c, clos.lookup x = some c -> x ∈ fs) (inj : ∀ x y c, clos.lookup x = some c -> clos.lookup y = some c -> x = y) (hl : vs.length = ps.length) (hr : A.handled = none) (e0 : Env0 P w K mg base A outer s H) (r : Vals vs us)
    (hns : h₁.Ns s.heap.objs.size (fun x => (ps.zip us).reverse.lookup x)) (hk : ∀ b o, s.heap.get? b = some o -> h₁.get? b = some o) :
    Inv (cxClo CX P w K mg base (ps ++ fs) qual scope f (.ref c) clos A outer s H E) [] ((vs ++ fvs).map some) H { s with heap := h₁, toks := tk } := by
  have ndP : ps.Nodup := (List.nodup_append.mp S.nd).1
  have noA : ∀ b : Addr, b ∉ ([] : List Addr) := fun b z => absurd z (by simp)
  have cellIn : ∀ x c, clos.lookup x = some c -> ∃ u, base.IsCell c (some u) := fun x c e => by
    obtain ⟨i, hi, ex⟩ := List.getElem_of_mem (hclos x c e)
    obtain ⟨v, _, c', u, e1, e2, _⟩ := paired_get hc (show fs[i]? = some x by simp [hi, ex])
    rw [e] at e1
    cases e1
    exact ⟨u, e2⟩
  refine ⟨⟨e0.mod, S.kind, rfl, rfl, Nat.le_refl _, inj, fun y hy => ?_, fun y c h => (nomatch h), fun _ => hr, Around.frames_deeper e0.frames, .inr ⟨rfl, rfl⟩, fun b z => absurd z (noA b), e0.bs, e0.bsz, fun b _ _ => noA b, fun b z => absurd z (noA b), e0.funs, e0.frf⟩,
    rfl, e0.bare, Un.kept hk, ⟨_, hns, fun i y v h1 h2 h3 => ?_⟩, fun y c h => ?_, e0.hok.fresh (Nat.le_refl _), fun y c h => ?_, fun p hp => absurd (show p ∈ ([] : List (Addr × Obj)) from hp) (by simp), e0.hok.kept hk, ?_⟩
  · have hy' : scope.names.lookup y = some .cell ∨ scope.names.lookup y = some .free := hy
    rcases hy' with hy' | hy'
    · exact absurd rfl (S.nocell _ (PySem.mem_of_lookup hy'))
    · have hm := S.all _ (PySem.mem_of_lookup hy') rfl
      obtain ⟨i, hi, ex⟩ := List.getElem_of_mem hm
      obtain ⟨v, _, c', u, e1, _⟩ := paired_get hc (show fs[i]? = some y by simp [hi, ex])
      exact ⟨c', e1⟩
  · have h1 : (ps ++ fs)[i]? = some y := h1
    by_cases hi : i < ps.length
    · rw [List.getElem?_append_left hi] at h1
      rw [List.getElem?_map, List.getElem?_append_left (by omega)] at h2
      obtain ⟨v', ev, e2⟩ : ∃ v', vs[i]? = some v' /\ some v' = some v := by
        cases q : vs[i]? with
        | none => rw [q] at h2; cases h2
        | some v' => rw [q] at h2; exact ⟨v', rfl, Option.some.inj h2⟩
      cases e2
      obtain ⟨u, eu, ru⟩ := r.get ev
      exact ⟨u, ru, .inl ⟨S.par y (List.mem_of_getElem? h1), zip_rev_get ndP h1 eu⟩⟩
    · rw [List.getElem?_append_right (by omega)] at h1
      rw [List.getElem?_map, List.getElem?_append_right (by omega)] at h2
      obtain ⟨v', ev, c', u, e1, e2, e3⟩ := paired_get hc h1
      rw [hl, ev] at h2
      cases (Option.some.inj h2)
      exact ⟨u, e3, .inr ⟨.inr (S.fre y (List.mem_of_getElem? h1)), c', e1, e2.keeps fun b o e => hk b o (e0.bs b o e).1⟩⟩
  · obtain ⟨u, o, e, d⟩ := cellIn y c h
    exact ⟨some u, o, hk _ _ (e0.bs _ _ e).1, d⟩
  · obtain ⟨u, o, e, d⟩ := cellIn y c h
    exact (e0.bs _ _ e).2
  · show ((vs ++ fvs).map some).length = (ps ++ fs).length
    rw [List.length_map, List.length_append, List.length_append, hl, Paired.length hc]
theorem fn_cloT (ho : base.get? f = some (fnObjX name qual params body scope clos doc pm c ctv)) (S : CloScope ps fs scope) (hc : CellsAt base clos fs fvs)
    (hclos : ∀ x c, clos.lookup x = some c -> x ∈ fs) (inj : ∀ x y c, clos.lookup x = some c -> clos.lookup y = some c -> x = y)
    (len : ∀ vs H Q E, sp vs H Q E -> vs.length = ps.length) (hcd : ∀ vs H Q E, sp vs H Q E -> H c = some (CodeX c qual))
    (hbody : ∀ (A : Around) (outer : List Env) (s : Shared) (H : Hp) (vs : List V) (Q : VK) (E : XK), Room k (A.deeper (PySem.W.envX qual scope s.heap.objs.size f (.ref c) clos)) -> sp vs H Q E ->
      ∃ t, PSs (cxClo CX P w K mg base (ps ++ fs) qual scope f (.ref c) clos A outer s H E) body t /\ t { nx := fun _ H' => Q .non H', rt := Q } ((vs ++ fvs).map some) H) :
    FnOk P w K mg base CX (k + 1) f (PySem.W.fnX name qual params body scope clos .none .none doc pm none (.ref c) ctv) ps sp := by
  refine ⟨len, fun A outer s H args us vs Q E hr e0 hb r hsp => ?_⟩
  have hl := len _ _ _ _ hsp
  have lim : s.heap.NoLimit := e0.mod.nolimit.keeps fun b o e => (e0.bs b o e).1
  have hcr : s.heap.CodeRec (.ref c) qual := (e0.hok c _ (hcd _ _ _ _ hsp)).1
  refine PySem.codeAny_call_def (fd := PySem.W.fnX name qual params body scope clos .none .none doc pm none (.ref c) ctv) (body := body) (binds := ps.zip us) hr.depth (e0.bs _ _ ho).1 rfl lim hcr rfl hb S.nocell
    (fun y hy => S.par y.1 (List.of_mem_zip hy).1) (fun h₁ hns hk => ?_) S.co S.gen S.kind
  obtain ⟨t, ht, hq⟩ := hbody A outer s H vs Q E (hr.deeper _) hsp
  have I : Inv (cxClo CX P w K mg base (ps ++ fs) qual scope f (.ref c) clos A outer s H E) [] ((vs ++ fvs).map some) H { s with heap := h₁, toks := s.toks + (ps.zip us).length } := clo_inv S hc hclos inj hl hr.hd e0 r hns hk
  refine wpAny_mono (ht [] _ _ H _ I hq) (fun fl s' hs => ?_) fun e s' hs => hs
  have fin : ∀ {σ' : L2.St} {H' : Hp} {v : V} {u : Value}, Inv (cxClo CX P w K mg base (ps ++ fs) qual scope f (.ref c) clos A outer s H E) [] σ' H' s' -> RelV v u -> Q v H' -> CE outer P w H s Q u s' :=
    fun {σ' H' v u} J rv q => ⟨v, H', J.os, J.bare, J.base, J.hok, rv, q⟩
  cases fl with
  | ret u =>
    obtain ⟨v, σ', H', J, rv, q⟩ := hs
    exact fin J rv q
  | next =>
    obtain ⟨σ', H', J, q⟩ := hs
    exact fin (v := V.non) (u := Value.none) J rfl q
  | brk =>
    obtain ⟨_, _, _, q⟩ := hs
    exact False.elim q
  | cont =>
    obtain ⟨_, _, _, q⟩ := hs
    exact False.elim q
theorem fn_lamT (ho : base.get? f = some (PySem.W.kla_obj "<lambda>" qual params bodyE scope clos pm c ctv)) (S : CloScope ps fs scope) (hc : CellsAt base clos fs fvs)
    (hclos : ∀ x c, clos.lookup x = some c -> x ∈ fs) (inj : ∀ x y c, clos.lookup x = some c -> clos.lookup y = some c -> x = y)
    (len : ∀ vs H Q E, sp vs H Q E -> vs.length = ps.length) (hcd : ∀ vs H Q E, sp vs H Q E -> H c = some (CodeX c qual))
    (hbody : ∀ (A : Around) (outer : List Env) (s : Shared) (H : Hp) (vs : List V) (Q : VK) (E : XK), Room k (A.deeper (PySem.W.envX qual scope s.heap.objs.size f (.ref c) clos)) -> sp vs H Q E ->
      ∃ t, PE (cxClo CX P w K mg base (ps ++ fs) qual scope f (.ref c) clos A outer s H E) bodyE t /\ t ((vs ++ fvs).map some) H Q) :
    FnOk P w K mg base CX (k + 1) f (PySem.W.kla_fn "<lambda>" qual params bodyE scope clos pm (.ref c) ctv) ps sp := by
  refine ⟨len, fun A outer s H args us vs Q E hr e0 hb r hsp => ?_⟩
  have hl := len _ _ _ _ hsp
  have lim : s.heap.NoLimit := e0.mod.nolimit.keeps fun b o e => (e0.bs b o e).1
  have hcr : s.heap.CodeRec (.ref c) qual := (e0.hok c _ (hcd _ _ _ _ hsp)).1
  refine PySem.W.kla_callFunE hr.depth (e0.bs _ _ ho).1 rfl S.co S.gen rfl hcr (hb _ _ _ _ ?_)
  refine wpAny_newFunctionEnv S.nocell (fun y hy => S.par y.1 (List.of_mem_zip hy).1) (fun h₁ hns hsb => ⟨lim.fresh _ hsb, ?_⟩) S.kind
  have hk : ∀ b o, s.heap.get? b = some o -> h₁.get? b = some o := fun b o e => hsb.extBut b o (Nat.ne_of_lt (Heap.lt_size e)) (Heap.get?_push_of_some _ e)
  obtain ⟨t, ht, hq⟩ := hbody A outer s H vs Q E (hr.deeper _) hsp
  have I : Inv (cxClo CX P w K mg base (ps ++ fs) qual scope f (.ref c) clos A outer s H E) [] ((vs ++ fvs).map some) H { s with heap := h₁, toks := s.toks + (ps.zip us).length } := clo_inv S hc hclos inj hl hr.hd e0 r hns hk
  show codeAny _ _ (.expr bodyE (PySem.W.envX qual scope s.heap.objs.size f (.ref c) clos)) _ _
  refine PySem.W.kla_codeExpr (wpAny_mono (ht [] _ _ H _ I hq) (fun u s' hs => ?_) fun e s' hs => hs)
  obtain ⟨v, H', J, rv, q⟩ := hs
  exact ⟨v, H', J.os, J.bare, J.base, J.hok, rv, q⟩
end

structure Larger (K : PySem.W.Frag) (mg : Str -> Option Value) (base base' : Heap) : Prop where
  get : ∀ b o, base.get? b = some o -> base'.get? b = some o
  sz : base.objs.size <= base'.objs.size
  mod : Mod K mg base
theorem FV.larger {P : Program} {w : World} {K : PySem.W.Frag} {mg : Str -> Option Value} {base base' : Heap} {CX : CXT} {k : Nat} {f : Addr} {ps : List Str} {sp : Sp} (F : FV P w K mg base CX k f ps sp) (L : Larger K mg base base') : FV P w K mg base' CX k f ps sp := by
  obtain ⟨fd, oc, od, sl, F, ho, hb⟩ := F
  refine ⟨fd, oc, od, sl, ⟨F.len, fun A outer s H args us vs Q E hr e0 => F.run A outer s H args us vs Q E hr ⟨e0.frames, L.mod, fun b o e => e0.bs b o (L.get b o e), Nat.le_trans L.sz e0.bsz, ?_, e0.frf, e0.hok, e0.bare⟩⟩, L.get _ _ ho, hb⟩
  have all : ∀ l : List Env, s.heap.FunFrames base' l -> s.heap.FunFrames base l := by
    intro l
    induction l with
    | nil => intro _; trivial
    | cons env r ih =>
      intro hl
      obtain ⟨hk, ⟨L', o, hf, hn, ho, hd⟩, hr⟩ := hl
      refine ⟨hk, ⟨L', o, hf, ?_, ho, hd⟩, ih hr⟩
      cases q : base.get? L' with
      | none => rfl
      | some u => rw [L.get _ _ q] at hn; cases hn
  exact all outer e0.funs
section
variable {X : Cx} {CX : CXT} {k : Nat} {ps : List Str} {E : XK} {x : Str} {p pos : Pos} {e : Expr} {es : List Expr} {t : TA}
inductive TFvEI (X : Cx) (CX : CXT) (k : Nat) (E : XK) (i : Nat) (t : TA) (σ : L2.St) (H : Hp) (Q : VK) : Prop where
  | mk (f : _) (ps : _) (sp : _) (c1 : σ[i]? = some (some (.ref f))) (c2 : FV X.prog X.w X.K X.mg X.base CX k f ps sp) (c3 : t σ H fun vs H1 => sp vs H1 Q E)
def tFvE (X : Cx) (CX : CXT) (k : Nat) (E : XK) (i : Nat) (t : TA) : TE := fun σ H Q => TFvEI X CX k E i t σ H Q
theorem pe_fvE (i : Nat) (hr : Room k X.A) (hx : Passes CX X E) (ha : PA X (e :: es) t) (hN : X.N[i]? = some x := by rfl) (hv : Vis X.env.scope x := by first | exact Or.inl rfl | exact Or.inr (Or.inl rfl) | exact Or.inr (Or.inr rfl))
    (h : (e :: es).all plainE = true := by rfl) (hd : (x == ("__debug__" : Str)) = false := by decide) (hcd : (x == ("__classdict__" : Str)) = false := by decide) : PE X (.Call (.Name x p) (e :: es) [] pos) (tFvE X CX k E i t) := by
  intro pins s σ H Q I hw
  obtain ⟨f, ps, sp, hi, hF, hw⟩ := hw
  exact pe_fv (ps := ps) i hr hx ha hN hv h hd hcd pins s σ H Q I ⟨f, sp, hi, hF, hw⟩
def Goes2 (X : Cx) (H : Hp) (b : Addr) : Prop := (∃ φ, H b = some (.ext φ) /\ ∀ h, φ h -> ∃ o fd, h.get? b = some o /\ o.data = .func fd) ∨ ∃ x, X.env.cells.lookup x = some b /\ X.fn x = true
theorem Goes2.goes {H : Hp} {b : Addr} (g : Goes2 X H b) : Goes X H b := by
  rcases g with ⟨φ, e, _⟩ | g
  · exact .inl ⟨φ, e⟩
  · exact .inr g
theorem goes_fn {H : Hp} {f c : Addr} {name qual : Str} {params : Arguments} {body : List Stmt} {scope : Scope} {clos : List (Str × Addr)} (h : H f = some (FnObj f c name qual params body scope clos)) : Goes2 X H f :=
  .inl ⟨_, h, fun _ ⟨_, _, _, e⟩ => ⟨_, _, e, rfl⟩⟩
theorem goes_lam {H : Hp} {f c : Addr} {qual : Str} {params : Arguments} {body : Expr} {scope : Scope} {clos : List (Str × Addr)} (h : H f = some (FnObjL f c qual params body scope clos)) : Goes2 X H f :=
  .inl ⟨_, h, fun _ ⟨_, _, e⟩ => ⟨_, _, e, rfl⟩⟩
structure Lg (X : Cx) (σ : L2.St) (H : Hp) (L : List Addr) (base' : Heap) : Prop where
  lg : Larger X.K X.mg X.base base'
  ext : ∀ b ∈ L, ∀ φ, H b = some (.ext φ) -> φ base'
  cell : ∀ (i : Nat) (y : Str) (v : V) (c : Addr), X.N[i]? = some y -> σ[i]? = some (some v) -> X.env.scope.names.lookup y = some .cell -> X.env.cells.lookup y = some c -> c ∈ L -> ∃ u, base'.IsCell c (some u) /\ RelV v u
  only : ∀ b ∈ L, ∀ o, H b = some o -> ∃ φ, o = .ext φ
  nocode : ∀ b ∈ L, ∀ q, H b ≠ some (CodeX b q)
inductive TExI (X : Cx) (sp : Heap -> Sp) (E : XK) (σ : L2.St) (vs : List V) (H1 : Hp) (Q : VK) : Prop where
  | mk (L : _) (c1 : (∀ b ∈ L, Goes2 X H1 b)) (c2 : ∀ base', Lg X σ H1 L base' -> sp base' vs (delH H1 L) (fun v H' => (∀ b ∈ L, H' b = none) -> Q v (addH H' H1 L)) E)
def tEx (X : Cx) (sp : Heap -> Sp) (E : XK) (t : TA) : TE := fun σ H Q => t σ H fun vs H1 => TExI X sp E σ vs H1 Q
theorem pe_ex {sp : Heap -> Sp} (G : GB X.prog X.w X.K X.mg X.base CX k x ps sp) (hr : Room k X.A) (hg : Gl X x) (hx : ∀ (L : List Addr) (pins : List (Addr × Obj)) (σ : L2.St) (H : Hp) (s : Shared) (e : Value) (s' : Shared), Inv X pins σ H s -> CX X.stack (delH H L) s E e s' -> X.xe e s')
    (ha : PA X (e :: es) t) (h : (e :: es).all plainE = true := by rfl) (hdb : (x == ("__debug__" : Str)) = false := by decide) : PE X (.Call (.Name x p) (e :: es) [] pos) (tEx X sp E t) := by
  intro pins s σ H Q I hw
  rw [List.all_cons, Bool.and_eq_true] at h
  obtain ⟨f, fd0, F0, hm, hk, hb0⟩ := G X.base fun _ _ e => e
  refine wpAny_Call_Name_kw (ld_glob I hg hm ?_ hdb)
  refine PySem.W.callWith_K (h₀ := X.base) I.ok.mod.kin hk (thn (ha pos pins s σ H _ I hw) fun us s1 ⟨vs, H1, I1, r, q⟩ => ⟨I1.kIn, ?_⟩) (star_plain h.1) (star_any h.2)
  obtain ⟨L, g2, q⟩ := q
  have g : ∀ b ∈ L, Goes X H1 b := fun b hb => (g2 b hb).goes
  have kb : ∀ b o, X.base.get? b = some o -> (extB s1.heap X.base L).get? b = some o := fun b o e => extB_get (I1.bk b o e) (by unfold keepL; rw [e]; rfl)
  have inL : ∀ b o, b ∈ L -> s1.heap.get? b = some o -> (extB s1.heap X.base L).get? b = some o := fun b o hb e => extB_get e (by unfold keepL; rw [show L.contains b = true by simpa using hb, Bool.or_true])
  obtain ⟨f', fd, F, hm', hk', hb⟩ := G _ kb
  rw [hm] at hm'
  cases hm'
  have hs := q (extB s1.heap X.base L) ⟨⟨kb, by rw [show (extB s1.heap X.base L).objs.size = s1.heap.objs.size from PySem.W.hideAll_size _ _]; exact Nat.le_trans I1.ok.bsz I1.sz, I1.ok.mod⟩, fun b hb φ e => by
    obtain ⟨p, ⟨o, eo⟩, st⟩ := I1.hok b _ e
    exact st _ _ p fun o' q' => inL b o' hb q', fun i y v c h1 h2 h3 h4 hc => by
    obtain ⟨m, hn, hl⟩ := I1.loc
    obtain ⟨u, ru, lk⟩ := hl i y v h1 h2 (.inr (.inl h3))
    rcases lk with ⟨z, _⟩ | ⟨_, c', e1, o, e2, e3⟩
    · have z' : X.env.scope.names.lookup y = some .local := z
      rw [h3] at z'; cases z'
    · rw [h4] at e1
      cases e1
      exact ⟨u, ⟨o, inL c o hc e2, e3⟩, ru⟩, fun b hb o e => by
    cases o with
    | ext φ => exact ⟨φ, rfl⟩
    | _ => exact absurd hb (Goes.notup g I1 e fun _ z => by cases z), fun b hb q e => by
    rcases g2 b hb with ⟨φ, e', h'⟩ | ⟨y, e', _⟩
    · rw [e] at e'
      have hφ : φ = fun h => h.CodeRec (.ref b) q := (HO.ext.inj (Option.some.inj e')).symm
      obtain ⟨p, _, _⟩ := I1.hok b _ e
      have p : s1.heap.CodeRec (.ref b) q := p
      obtain ⟨o, fd, e1, e2⟩ := h' s1.heap (by rw [hφ]; exact p)
      obtain ⟨c, o', vs, t, a1, a2, a3, a4⟩ := p
      cases a1
      rw [e1] at a2
      cases a2
      rw [e2] at a3
      cases a3
    · rw [I1.freeC y b e'] at e; cases e⟩
  have hl : us.length = ps.length := by rw [<- r.length]; exact F.len _ _ _ _ hs
  have bnd := hb s1 us I1.kIn (by rw [List.append_nil]; exact hl)
  rw [List.append_nil] at bnd
  refine wpAny_call (codeAny_mono (F.run X.A X.stack s1 (delH H1 L) ⟨us, []⟩ us vs _ E hr (env0_ext I1 g) bnd r hs) fun r' s' hq => ?_)
  cases r' with
  | error e => exact hx L pins σ H1 s1 e s' I1 hq
  | ok fl =>
    cases fl with
    | ret u => exact after_ext I1 g hq
    | next => exact False.elim hq
    | brk => exact False.elim hq
    | cont => exact False.elim hq
end

theorem tups_del {H : Hp} {L : List Addr} (h : ∀ b ∈ L, ∀ o, H b = some o -> ∃ φ, o = .ext φ) : Tups H (delH H L) := fun b xs e => by
  rw [delH_ne fun z => by obtain ⟨φ, q⟩ := h b z _ e; cases q]
  exact e
theorem same_add {H H' : Hp} {L : List Addr} (s : Same (delH H L) H') : Same H (addH H' H L) := fun b o e => by
  by_cases hb : b ∈ L
  · rw [addH_in hb]; exact e
  · rw [addH_ne hb]; exact s b o (by rw [delH_ne hb]; exact e)
theorem tups_add {H H' : Hp} {L : List Addr} (g : ∀ b ∈ L, H' b = none) : Tups H' (addH H' H L) := fun b xs e => by
  rw [addH_ne fun z => by rw [g b z] at e; cases e]
  exact e

abbrev Tabs := List (Addr × Pos × Str)
def TO (L : Tabs) (H : Hp) : Prop := ∀ x ∈ L, TabOk H x.1 x.2.1 x.2.2
def TDis (L : Tabs) : Prop := ∀ x ∈ L, ∀ y ∈ L, x.1 = y.1 -> x = y
theorem tdis_of {L : Tabs} (h : (L.map (·.1)).Nodup) : TDis L := by
  induction L with
  | nil => intro x hx; cases hx
  | cons a r ih =>
    rw [List.map_cons, List.nodup_cons] at h
    intro x hx y hy e
    rcases List.mem_cons.mp hx with h1 | h1
    · rcases List.mem_cons.mp hy with h2 | h2
      · rw [h1, h2]
      · exact absurd (List.mem_map.mpr ⟨y, h2, by rw [<- e, h1]⟩) h.1
    · rcases List.mem_cons.mp hy with h2 | h2
      · exact absurd (List.mem_map.mpr ⟨x, h1, by rw [e, h2]⟩) h.1
      · exact ih h.2 x h1 y h2 e
def NLX (H H' : Hp) : Prop := ∀ b o, (∀ xs, o ≠ .lst xs) -> (∀ ps, o ≠ .tbl ps) -> H b = some o -> H' b = some o
def OthT (L : List Addr) (H H' : Hp) : Prop := ∀ Q : Addr, Q ∉ L -> ∀ ps, H Q = some (.tbl ps) -> H' Q = some (.tbl ps)
theorem OthT.of_same {L : List Addr} {H H' : Hp} (s : Same H H') : OthT L H H' := fun _ _ _ e => s _ _ e
theorem OthT.trans {L : List Addr} {H H1 H2 : Hp} (a : OthT L H H1) (b : OthT L H1 H2) : OthT L H H2 := fun Q n ps e => b Q n ps (a Q n ps e)
theorem OthT.of_oth {L : List Addr} {H H' : Hp} {P : Addr} (o : ∀ Q : Addr, Q ≠ P -> ∀ ps, H Q = some (.tbl ps) -> H' Q = some (.tbl ps)) (m : P ∈ L) : OthT L H H' := fun Q n ps e => o Q (fun z => n (by rw [z]; exact m)) ps e
structure ST (L : Tabs) (H H' : Hp) : Prop where
  sx : SameX H H'
  to : TO L H'
section
variable {L : Tabs} {H H1 H2 H' : Hp} {D : List Addr}
theorem TO.same (t : TO L H) (s : Same H H') : TO L H' := fun x hx => (t x hx).same s
theorem TO.nl (t : TO L H) (s : NL H H') : TO L H' := fun x hx => (t x hx).nl s
theorem TO.made {P : Addr} {pos : Pos} {q : Str} (t : TO L H) (dis : TDis L) (m : (P, pos, q) ∈ L) (sx : SameX H H') (tp : TabOk H' P pos q) (oth : ∀ Q : Addr, Q ≠ P -> ∀ ps, H Q = some (.tbl ps) -> H' Q = some (.tbl ps)) : TO L H' := fun x hx => by
  by_cases hP : x.1 = P
  · have e := dis x hx (P, pos, q) m hP
    rw [e]
    exact tp
  · rcases t x hx with a | ⟨c, a, b⟩
    · exact .inl (oth _ hP _ a)
    · exact .inr ⟨c, oth _ hP _ a, sx _ _ (fun _ z => by cases z) b⟩
theorem TO.del (t : TO L H) (only : ∀ b ∈ D, ∀ o, H b = some o -> ∃ φ, o = .ext φ) (nocode : ∀ b ∈ D, ∀ q, H b ≠ some (CodeX b q)) : TO L (delH H D) := fun x hx => by
  have nt : ∀ ps, H x.1 = some (.tbl ps) -> x.1 ∉ D := fun ps e z => by obtain ⟨φ, q⟩ := only _ z _ e; cases q
  rcases t x hx with a | ⟨c, a, b⟩
  · exact .inl (by rw [delH_ne (nt _ a)]; exact a)
  · exact .inr ⟨c, by rw [delH_ne (nt _ a)]; exact a, by rw [delH_ne fun z => nocode c z _ b]; exact b⟩
theorem TO.add (t : TO L H') (gone : ∀ b ∈ D, H' b = none) : TO L (addH H' H D) := fun x hx => by
  have nd : ∀ b o, H' b = some o -> b ∉ D := fun b o e z => by rw [gone b z] at e; cases e
  rcases t x hx with a | ⟨c, a, b⟩
  · exact .inl (by rw [addH_ne (nd _ _ a)]; exact a)
  · exact .inr ⟨c, by rw [addH_ne (nd _ _ a)]; exact a, by rw [addH_ne (nd _ _ b)]; exact b⟩
theorem SameX.addd (s : SameX (delH H D) H') : SameX H (addH H' H D) := fun b o n e => by
  by_cases hb : b ∈ D
  · rw [addH_in hb]; exact e
  · rw [addH_ne hb]; exact s b o n (by rw [delH_ne hb]; exact e)
theorem ST.refl (t : TO L H) : ST L H H := ⟨.refl _, t⟩
theorem ST.trans (a : ST L H H1) (b : ST L H1 H2) : ST L H H2 := ⟨a.sx.trans b.sx, b.to⟩
theorem ST.of_same (t : TO L H) (s : Same H H') : ST L H H' := ⟨.of s, t.same s⟩
theorem ST.same (a : ST L H H1) (s : Same H1 H2) : ST L H H2 := a.trans (.of_same a.to s)
theorem ST.tups (a : ST L H H') : Tups H H' := a.sx.tups
theorem ST.addd (a : ST L (delH H D) H') (gone : ∀ b ∈ D, H' b = none) : ST L H (addH H' H D) := ⟨a.sx.addd, a.to.add gone⟩
theorem NLX.refl (H : Hp) : NLX H H := fun _ _ _ _ h => h
theorem NLX.trans (a : NLX H H1) (b : NLX H1 H2) : NLX H H2 := fun x o n m h => b x o n m (a x o n m h)
theorem NLX.of_nl (n : NL H H') : NLX H H' := fun b o a _ h => n b o a h
theorem NLX.of_same (s : Same H H') : NLX H H' := fun b o _ _ h => s b o h
theorem NLX.of_sx (s : SameX H H') : NLX H H' := fun b o _ m h => s b o m h
theorem NLX.of_keep {l : Addr} {xs : List V} (k : Keep [l] H H') (h : H l = some (.lst xs)) : NLX H H' := .of_nl (.of_keep k h)
end
end NC
namespace NC
open PySem PySem.Spec PyProof.Rows L2
def KA (A : List Addr) (H H' : Hp) : Prop := ∀ b o, b ∉ A -> (∀ ps, o ≠ .tbl ps) -> H b = some o -> H' b = some o
section
variable {A D : List Addr} {L : Tabs} {H H1 H2 H' : Hp} {p : Addr}
theorem KA.refl (A : List Addr) (H : Hp) : KA A H H := fun _ _ _ _ h => h
theorem KA.trans (a : KA A H H1) (b : KA A H1 H2) : KA A H H2 := fun x o n m h => b x o n m (a x o n m h)
theorem KA.of_same (s : Same H H') : KA A H H' := fun b o _ _ h => s b o h
theorem KA.of_sx (s : SameX H H') : KA A H H' := fun b o _ m h => s b o m h
theorem KA.sx (a : KA [] H H') : SameX H H' := fun b o m h => a b o (by simp) m h
theorem KA.addd (s : KA A (delH H D) H') : KA A H (addH H' H D) := fun b o n m e => by
  by_cases hb : b ∈ D
  · rw [addH_in hb]; exact e
  · rw [addH_ne hb]; exact s b o n m (by rw [delH_ne hb]; exact e)
theorem KA.keep (a : KA A H H1) (k : Keep [p] H1 H2) (n : H p = none) : KA A H H2 := fun b o nb m h => k b o (fun z => by rw [List.mem_singleton.mp z, n] at h; cases h) (a b o nb m h)
def OwnD (A : List Addr) (H : Hp) : Prop := ∀ b ∈ A, ∃ kvs, H b = some (.dK kvs)
theorem KA.lst (a : KA A H H') (d : OwnD A H) {b : Addr} {xs : List V} (h : H b = some (.lst xs)) : H' b = some (.lst xs) := a b _ (fun z => by obtain ⟨_, q⟩ := d b z; rw [h] at q; cases q) (fun _ z => by cases z) h
theorem KA.tups (a : KA A H H') (d : OwnD A H) : Tups H H' := fun b xs h => a b _ (fun z => by obtain ⟨_, q⟩ := d b z; rw [h] at q; cases q) (fun _ z => by cases z) h
theorem nlx_add (gone : ∀ b ∈ D, H' b = none) : NLX H' (addH H' H D) := fun b o _ _ h => by
  rw [addH_ne fun z => by rw [gone b z] at h; cases h]
  exact h
theorem nlx_del (s : SameX H H1) (sx : SameX H1 H2) (n : ∀ b ∈ D, H1 b = none) : NLX H (delH H2 D) := fun b o _ m h => by
  have e := s b o m h
  rw [delH_ne fun z => by rw [n b z] at e; cases e]
  exact sx b o m e
end
end NC
namespace NC
open PySem PySem.Spec PyProof.Rows L2
inductive PathNI (L : List Addr) (H : Hp) (v : V) (p : List Int) : Prop where
  | mk (l : _) (c1 : v = .ref l) (c2 : l ∉ L) (c3 : H l = some (.lst (p.map V.int)))
def PathN (L : List Addr) (H : Hp) (v : V) (p : List Int) : Prop := PathNI L H v p
inductive ItemNI (L : List Addr) (H : Hp) (v : V) (q : Tm × List Int) : Prop where
  | mk (a : _) (tv : _) (pv : _) (c1 : v = .ref a) (c2 : H a = some (.tup [tv, pv])) (c3 : TermAt H tv q.1) (c4 : PathN L H pv q.2)
def ItemN (L : List Addr) (H : Hp) (v : V) (q : Tm × List Int) : Prop := ItemNI L H v q
def Lists (L : List Addr) (H : Hp) : Prop := ∀ x ∈ L, ∃ ys, H x = some (.lst ys)
theorem lists2 {H : Hp} {f d : Addr} {xs ys : List V} (h1 : H f = some (.lst xs)) (h2 : H d = some (.lst ys)) : Lists [f, d] H := fun x hx => by
  rcases List.mem_cons.mp hx with e | hx
  · exact ⟨xs, e ▸ h1⟩
  · exact ⟨ys, List.mem_singleton.mp hx ▸ h2⟩
theorem PathN.keep {L : List Addr} {H H' : Hp} {v : V} {p : List Int} (h : PathN L H v p) (k : Keep L H H') : PathN L H' v p := let ⟨l, e, n, q⟩ := h; ⟨l, e, n, k _ _ n q⟩
theorem ItemN.keep {L : List Addr} {H H' : Hp} {v : V} {q : Tm × List Int} (h : ItemN L H v q) (k : Keep L H H') (hL : Lists L H) : ItemN L H' v q :=
  let ⟨a, tv, pv, e, h1, h2, h3⟩ := h
  ⟨a, tv, pv, e, k.tups hL _ _ h1, h2.mono (k.tups hL), h3.keep k⟩
theorem PathN.path {L : List Addr} {H : Hp} {v : V} {p : List Int} (h : PathN L H v p) : PathV H v p := let ⟨l, e, _, q⟩ := h; ⟨l, e, q⟩
def pend (its : List (Tm × List Int)) : List (List Int) := its.reverse.flatMap fun q => under q.2 q.1
theorem pend_snoc (its : List (Tm × List Int)) (q : Tm × List Int) : pend (its ++ [q]) = under q.2 q.1 ++ pend its := by
  unfold pend
  rw [List.reverse_append]
  rfl
def sizes (its : List (Tm × List Int)) : Nat := (its.map fun q => q.1.size).sum
theorem sizes_snoc (its : List (Tm × List Int)) (q : Tm × List Int) : sizes (its ++ [q]) = sizes its + q.1.size := by
  unfold sizes
  rw [List.map_append, List.sum_append]
  simp
theorem len_sizes : ∀ its : List (Tm × List Int), its.length <= sizes its
  | [] => Nat.le_refl _
  | q :: r => by
    have := len_sizes r
    have h := q.1.size_pos
    show r.length + 1 <= q.1.size + sizes r
    omega
theorem rd_push {K : PySem.W.Frag} {σ : L2.St} {H : Hp} {Q : VK} {i2 i4 i5 : Nat} {d a l : Addr} {ys xs : List V} {bv : V} {j c : Int} {p : List Int} (h2 : σ[i2]? = some (some (.ref d))) (h4 : σ[i4]? = some (some (.ref a))) (h5 : σ[i5]? = some (some (.ref l)))
    (ha : H a = some (.tup ys)) (hj : atI ys j = some bv) (hl : H l = some (.lst (p.map V.int))) (hd : H d = some (.lst xs)) (hx : xs.length <= 900000) (hp : p.length <= 900000)
    (cont : ∀ b8 b9 H10, Keep [d] H H10 -> H10 d = some (.lst (xs ++ [.ref b9])) -> H b9 = none -> H b8 = none -> H10 b9 = some (.tup [bv, .ref b8]) -> H10 b8 = some (.lst ((p ++ [c]).map V.int)) -> Q .non H10) :
    tApp K (tVar i2) (tTp (tCons (tOp (rIxT K) (tVar i4) (tC (.int j))) (tCons (tOp rCt (tVar i5) (tLs (tCons (tC (.int c)) tNil))) tNil))) σ H Q := by
  refine ⟨_, h2, Or.inl ⟨rfl, _, SqL.of hd⟩, _, h4, _, _, _, _, rfl, rfl, SqT.of ha, hj, _, h5, small' (by show 1 <= 1000000; decide), fun b7 H7 n7 s7 h7 => ?_⟩
  refine ⟨_, _, _, _, rfl, rfl, s7 _ _ hl, h7, small' (by rw [List.length_map]; show p.length + 1 <= _; omega), fun b8 H8 n8 s8 h8 => ⟨small' (by show 2 <= 1000000; decide), fun b9 H9 n9 s9 h9 => ?_⟩⟩
  have S9 : Same H H9 := (s7.trans s8).trans s9
  refine ⟨_, _, _, rfl, rfl, S9 _ _ hd, small (by omega), fun H10 k10 h10 => ?_⟩
  have n8d : b8 ≠ d := (ne_of_none (s7 _ _ hd) n8).symm
  refine cont b8 b9 H10 ((Keep.of_same S9).trans k10) h10 ((s7.trans s8).free n9) (s7.free n8) (k10.tup1 (S9 _ _ hd) _ _ h9) ?_
  have q := k10.at (s9 _ _ h8) n8d
  rw [List.map_append]
  exact q
end NC
namespace NC
open PySem PySem.Spec PyProof.Rows L2
inductive PairAtI (H : Hp) (v : V) (q : Tm × Nat) : Prop where
  | mk (a : _) (tv : _) (c1 : v = .ref a) (c2 : H a = some (.tup [tv, .int (q.2 : Int)])) (c3 : TermAt H tv q.1)
def PairAt (H : Hp) (v : V) (q : Tm × Nat) : Prop := PairAtI H v q
theorem PairAt.mono {H H' : Hp} {v : V} {q : Tm × Nat} (h : PairAt H v q) (k : Tups H H') : PairAt H' v q := let ⟨a, tv, e, h1, h2⟩ := h; ⟨a, tv, e, k _ _ h1, h2.mono k⟩
def pendP (its : List (Tm × Nat)) : List (Tm × Nat) := its.reverse.flatMap fun q => q.1.parts q.2
theorem pendP_snoc (its : List (Tm × Nat)) (q : Tm × Nat) : pendP (its ++ [q]) = q.1.parts q.2 ++ pendP its := by
  unfold pendP
  rw [List.reverse_append]
  rfl
def pendL (its : List (Tm × Nat)) : List (Tm × Nat) := its.reverse.flatMap fun q => q.1.lparts q.2
theorem pendL_snoc (its : List (Tm × Nat)) (q : Tm × Nat) : pendL (its ++ [q]) = q.1.lparts q.2 ++ pendL its := by
  unfold pendL
  rw [List.reverse_append]
  rfl
def sizesP (its : List (Tm × Nat)) : Nat := (its.map fun q => q.1.size).sum
theorem sizesP_snoc (its : List (Tm × Nat)) (q : Tm × Nat) : sizesP (its ++ [q]) = sizesP its + q.1.size := by
  unfold sizesP
  rw [List.map_append, List.sum_append]
  simp
theorem len_sizesP : ∀ its : List (Tm × Nat), its.length <= sizesP its
  | [] => Nat.le_refl _
  | q :: r => by
    have := len_sizesP r
    have h := q.1.size_pos
    show r.length + 1 <= q.1.size + sizesP r
    omega
def LT (H H' : Hp) : Prop := (∀ b xs, H b = some (.lst xs) -> H' b = some (.lst xs)) /\ Tups H H'
theorem LT.refl (H : Hp) : LT H H := ⟨fun _ _ h => h, fun _ _ h => h⟩
theorem LT.trans {H H1 H2 : Hp} (a : LT H H1) (b : LT H1 H2) : LT H H2 := ⟨fun x xs h => b.1 _ _ (a.1 _ _ h), fun x xs h => b.2 _ _ (a.2 _ _ h)⟩
theorem LT.of {H H' : Hp} (s : Same H H') : LT H H' := ⟨fun b xs h => s _ _ h, fun b xs h => s _ _ h⟩
end NC
namespace NC
open PySem PySem.Spec PyProof.Rows L2
def termD : Tm -> Dt
  | .name w => .tup [.str "name", .str w]
  | .place n => .tup [.str "place", .int n]
  | .form b => .tup [.str "form", termD b]
  | .call a b => .tup [.str "call", termD a, termD b]
theorem term_dat {K : PySem.W.Frag} {H : Hp} {v : V} {t : Tm} (h : TermAt H v t) : DAt K H (termD t) v := by
  induction h with
  | name h => exact ⟨_, _, rfl, SqT.of h, _, _, rfl, rfl, _, _, rfl, rfl, rfl⟩
  | place h => exact ⟨_, _, rfl, SqT.of h, _, _, rfl, rfl, _, _, rfl, rfl, rfl⟩
  | form h _ ih => exact ⟨_, _, rfl, SqT.of h, _, _, rfl, rfl, _, _, rfl, ih, rfl⟩
  | call h _ _ ih1 ih2 => exact ⟨_, _, rfl, SqT.of h, _, _, rfl, rfl, _, _, rfl, ih1, _, _, rfl, ih2, rfl⟩
theorem term_lim : ∀ (t : Tm) (n : Nat), t.deep <= n -> Dt.Lim n (termD t)
  | .name _, n + 1, _ => ⟨by unfold Dt.Lim; trivial, by unfold Dt.Lim; trivial, trivial⟩
  | .place _, n + 1, _ => ⟨by unfold Dt.Lim; trivial, by unfold Dt.Lim; trivial, trivial⟩
  | .form b, n + 1, h => ⟨by unfold Dt.Lim; trivial, term_lim b n (by have h' : b.deep + 1 <= n + 1 := h; omega), trivial⟩
  | .call a b, n + 1, h => by
    have h' : max a.deep b.deep + 1 <= n + 1 := h
    exact ⟨by unfold Dt.Lim; trivial, term_lim a n (by omega), term_lim b n (by omega), trivial⟩
  | .name _, 0, h => by have h' : 1 <= 0 := h; omega
  | .place _, 0, h => by have h' : 1 <= 0 := h; omega
  | .form b, 0, h => by have h' : b.deep + 1 <= 0 := h; omega
  | .call a b, 0, h => by have h' : max a.deep b.deep + 1 <= 0 := h; omega
theorem TermAt.ref {H : Hp} {v : V} {t : Tm} (h : TermAt H v t) : ∃ a, v = .ref a := let ⟨a, _, _, e, _⟩ := h.tup; ⟨a, e⟩
theorem sql_same {K : PySem.W.Frag} {H H' : Hp} {a : Addr} {xs : List V} (h : SqL K H a xs) (s : Same H H') : SqL K H' a xs := by
  rcases h with (h | ⟨o, h⟩) | h
  · exact .inl (.inl (s _ _ h))
  · exact .inl (.inr ⟨o, s _ _ h⟩)
  · exact .inr h
theorem cut_atB {H : Hp} {p : Addr} {ns : List Int} (lo hi : Nat) (h : H p = some (.lst (cutV (ns.map V.int) (some (lo : Int)) (some (hi : Int))))) : ∃ ms : List Int, H p = some (.lst (ms.map V.int)) /\ ms.length <= hi - lo := by
  refine ⟨(ns.drop (HT.sIx (ns.map V.int).length 0 (some (lo : Int)))).take (HT.sIx (ns.map V.int).length (ns.map V.int).length (some (hi : Int)) - HT.sIx (ns.map V.int).length 0 (some (lo : Int))), ?_, ?_⟩
  · rw [h]
    unfold cutV
    rw [List.map_take, List.map_drop]
  · rw [List.length_take, HT.sIx_nat, HT.sIx_nat]
    omega
end NC
namespace NC
open PySem PySem.Spec PyProof.Rows L2
theorem ps_never {X : Cx} {st : Stmt} : PS X st (fun _ _ _ => False) := fun _ _ _ _ _ _ h => h.elim
section
variable {X : Cx}
end
def Its (x : Str) : It := ⟨fun i _ => i < x.cps.size, fun i H v H' => H' = H /\ ∃ c, x.cps[i]? = some c /\ v = .str ⟨#[c]⟩, fun i _ => x.cps.size <= i⟩
section
variable {X : Cx} {tg : Expr}
end
end NC
namespace NC
open PySem PySem.Spec PyProof.Rows L2
section
variable {X : Cx} {CX : CXT} {k : Nat} {C : Addr} {m : Str} {ps : List Str} {sp : Sp} {E : XK} {o : Expr} {ta : TE} {apos pos : Pos}
theorem pe_gm0 {pl : Sem Bool} (he : PE X o ta) (c : Cls X.K C) (G : GM X.prog X.w X.K X.mg X.base CX k C m ps sp) (hr : Room k X.A) (hx : Passes CX X E)
    (ht : eval (.Call (.Attribute o m apos) [] [] pos) X.env = (do
      let ov <- eval o X.env
      standAt apos.atName
      let (f, first) <- holding [ov] (getMethod ov m pl)
      callWith pos f first (backTo pos (starEach [] X.env)) (backToKw pos (keywordEach [] X.env))) := by rfl) : PE X (.Call (.Attribute o m apos) [] [] pos) (tMeth C m sp [] E ta tNil) := by
  obtain ⟨f, fd, F, M, hb⟩ := G
  exact pe_meth0 he c M F hr hb .nil hx ht
end
end NC
namespace NC
open PySem PySem.Spec PyProof.Rows L2
section
variable {X : Cx} {o e : Expr} {to te : TE} {apos cpos : Pos}
inductive RExI (x : V) (vs : List V) (H : Hp) (Q : VK) : Prop where
  | mk (l : _) (b : _) (xs : _) (zs : _) (c1 : x = .ref l) (c2 : vs = [.ref b]) (c3 : H l = some (.lst xs)) (c4 : H b = some (.lst zs)) (c5 : xs.length + zs.length <= sizeLine) (c6 : ∀ H', Keep [l] H H' -> H' l = some (.lst (xs ++ zs)) -> Q .non H')
def rEx : V -> List V -> Hp -> VK -> Prop := fun x vs H Q => RExI x vs H Q
theorem mt_ex : MtM X "list.extend" rEx := MtM.imp mt_extend fun _ _ _ _ ⟨l, b, xs, zs, e1, e2, h1, h2, h3, q⟩ => ⟨l, b, xs, zs, e1, e2, h1, h2, h3, q _ (keep_set (by simp)) upd_same⟩
theorem pExt (ho : PE X o to) (he : PE X e te) (h : plainE e = true := by rfl) (hbase : attributeBase o "extend" X.env (eval o X.env) = eval o X.env := by rfl) (hline : (apos.endLine == cpos.line) = true := by rfl) :
    PE X (.Call (.Attribute o "extend" apos) [e] [] cpos) (tBM X.K "list" rEx to (tCons te tNil)) :=
  pe_bm PySem.F.plainAttrs_list PySem.F.slot_list_extend PySem.F.type_list_extend mt_ex ho (pa_c he pa_nil h) hbase (by
    rw [star_all (es := [e]) (by simp [h])]
    rfl) hline (star_plain h) rfl
end
theorem cps_append (a b : Str) : (a ++ b).cps.toList = a.cps.toList ++ b.cps.toList := by
  show (a.cps ++ b.cps).toList = _
  simp
end NC
namespace NC
open PySem PySem.Spec PyProof.Rows L2
structure Fly (P : Program) (w : World) (outer : List Env) (H H' : Hp) (s s' : Shared) (e C : Addr) : Prop where
  os : s'.os = s.os
  bare : AllBare s'.gens
  un : Un (frs outer) [] H H' s.heap s'.heap
  hok : HOk P w H' s'.heap
  fl : ∃ B a0, Heap.FlyingW B outer e (.ref C) a0 s'.heap /\ (∀ b u, H' b = some u -> ∃ o, B.get? b = some o) /\ (∀ b o, s.heap.get? b = some o -> H b = none -> b ∉ frs outer -> B.get? b = some o) /\
    ∀ b o, s.heap.get? b = some o -> b ∉ frs outer -> ∃ o', B.get? b = some o'
def CXE (P : Program) (w : World) : CXT := fun outer H s E e s' => ∃ ea C H', e = .ref ea /\ Fly P w outer H H' s s' ea C /\ E e (some C) H'
structure Own (X : Cx) : Prop where
  stk : X.stack = X.env :: X.outer
  fr : X.env.frame = some X.env.locals
  ex : X.ex = []
section
variable {X : Cx} {pins : List (Addr × Obj)} {σ : L2.St} {H1 : Hp} {s1 : Shared}
def noFrames (X : Cx) (h : Heap) : Heap := PySem.W.hideAll h (frs X.stack)
theorem stk_ne (I : Inv X pins σ H1 s1) (O : Own X) {b : Addr} {o : Obj} (e : X.s₀.heap.get? b = some o) (hb : b ∉ X.fs) : b ∉ frs X.stack := fun z => by
  rcases List.mem_cons.mp (I.stkSub b z) with q | q
  · rw [q] at e
    exact absurd (Nat.lt_of_lt_of_le (Heap.lt_size e) I.ok.above) (Nat.lt_irrefl _)
  · exact hb q
theorem frs_stack (O : Own X) : frs X.stack = X.env.locals :: X.fs := by
  rw [O.stk]
  unfold frs
  rw [List.filterMap_cons, O.fr]
  rfl
theorem fly_made {h2 : Heap} {e C : Addr} {vs : List Value} {M : Model} {E : Value -> Shared -> Prop} (I : Inv X pins σ H1 s1) (O : Own X) (hx : Heap.MadeExcOf s1.heap h2 e (.ref C) vs) :
    wpAny M X.A (leaving X.env (.ref e)) (fun _ s'' => Fly X.prog X.w X.outer X.H₀ H1 X.s₀ s'' e C) E { s1 with heap := h2 } := by
  have hfrs : ∀ env ∈ X.stack, ∀ a, env.frame = some a -> a ∈ frs X.stack := fun env he a ha => List.mem_filterMap.mpr ⟨env, he, ha⟩
  have kB : ∀ b o, s1.heap.get? b = some o -> b ∉ frs X.stack -> (noFrames X s1.heap).get? b = some o := fun b o e n => PySem.W.hideAll_get _ e n
  have hl : s1.heap.FunFrames (noFrames X s1.heap) X.stack := PySem.W.funFrames_hide I.stack hfrs
  rw [O.stk] at hl
  refine wpAny_leaves_madeW (base := noFrames X s1.heap) (h := s1.heap) (by rw [I.ok.frames, O.stk]) O.fr (fun b o q => PySem.W.of_hideAll _ q) hl hx fun h' t x1 x2 x3 x4 => ?_
  have st : ∀ b o, (noFrames X s1.heap).get? b = some o -> h'.get? b = some o := x1.1
  have fr' : ∀ b ∈ frs X.stack, ∀ o, s1.heap.get? b = some o -> ∃ sl, h'.get? b = some { o with slots := sl } := fun b hb o e => by
    obtain ⟨_, o', e', nd⟩ := I.stack.mem hb
    rw [e] at e'
    cases e'
    exact x4 b o (hx.keeps _ _ e) nd
  have nT : ∀ b u, H1 b = some u -> b ∉ frs X.stack := fun b u e z => by rw [I.stkFree b z] at e; cases e
  have un := I.base
  rw [O.ex] at un
  refine ⟨I.os, I.bare, ⟨fun b o e n hb hx' => ?_, fun b o e n hb hx' => ?_, un.free, fun b o e hx' => ?_, un.tups, un.frzs, un.tbls⟩, fun b u e => ?_, ⟨_, _, x1, fun b u e => ?_, fun b o e n hb => ?_, fun b o e hb => ?_⟩⟩
  · exact st b o (kB b o (un.keep b o e n hb hx') (stk_ne I O e hb))
  · obtain ⟨sl, q⟩ := un.slot b o e n hb hx'
    obtain ⟨sl', q'⟩ := fr' b (by rw [frs_stack O]; exact List.mem_cons_of_mem _ hb) _ q
    exact ⟨sl', q'⟩
  · obtain ⟨o', q⟩ := un.there b o e hx'
    by_cases hs : b ∈ frs X.stack
    · obtain ⟨sl, q'⟩ := fr' b hs _ q
      exact ⟨_, q'⟩
    · exact ⟨o', st b o' (kB b o' q hs)⟩
  · refine (I.hok b u e).stay (fun c v hc q => st c v (kB c v q ?_)) (fun _ q => q) fun _ _ q => q
    rcases hc with z | z
    · rw [z]; exact nT b u e
    · exact nT c _ z
  · obtain ⟨o, q⟩ := objok_there (I.hok b u e)
    exact ⟨o, kB b o q (nT b u e)⟩
  · exact kB b o (un.keep b o e n hb (by simp)) (stk_ne I O e hb)
  · obtain ⟨o', q⟩ := un.there b o e (by simp)
    exact ⟨o', kB b o' q (stk_ne I O e hb)⟩
theorem fly_on {s2 : Shared} {H2 : Hp} {e C : Addr} {M : Model} {E : Value -> Shared -> Prop} (I : Inv X pins σ H1 s1) (O : Own X) (F : Fly X.prog X.w X.stack H1 H2 s1 s2 e C) :
    wpAny M X.A (leaving X.env (.ref e)) (fun _ s'' => Fly X.prog X.w X.outer X.H₀ H2 X.s₀ s'' e C) E s2 := by
  obtain ⟨B, a0, hfl, hB1, hB2, hB3⟩ := F.fl
  have J := I.call' (s' := s2) (ch := []) F.os F.un F.hok F.bare (fun b z => nomatch z)
  have hfl' := hfl
  rw [O.stk] at hfl'
  refine wpAny_leaves_onW (by rw [I.ok.frames, O.stk]) O.fr hfl' fun h' x1 x4 => ?_
  have st : ∀ b o, B.get? b = some o -> h'.get? b = some o := x1.1
  have stB : ∀ b o, B.get? b = some o -> s2.heap.get? b = some o := hfl.1
  have fr' : ∀ b ∈ frs X.stack, ∀ o, s2.heap.get? b = some o -> ∃ sl, h'.get? b = some { o with slots := sl } := fun b hb o e => by
    obtain ⟨_, o', e', nd⟩ := J.stack.mem hb
    rw [e] at e'
    cases e'
    exact x4 b o e nd
  have un := J.base
  rw [O.ex] at un
  have unI := I.base
  rw [O.ex] at unI
  have oldB : ∀ b o, X.s₀.heap.get? b = some o -> X.H₀ b = none -> b ∉ X.fs -> B.get? b = some o := fun b o e n hb => by
    refine hB2 b o (unI.keep b o e n hb (by simp)) (unI.free b o e n (by simp)) ?_
    exact stk_ne I O e hb
  have old3 : ∀ b o, X.s₀.heap.get? b = some o -> b ∉ X.fs -> ∃ o', B.get? b = some o' := fun b o e hb => by
    obtain ⟨o1, q⟩ := unI.there b o e (by simp)
    exact hB3 b o1 q (stk_ne I O e hb)
  refine ⟨J.os, J.bare, ⟨fun b o e n hb hx' => st b o (oldB b o e n hb), fun b o e n hb hx' => ?_, un.free, fun b o e hx' => ?_, un.tups, un.frzs, un.tbls⟩, fun b u e => ?_, ⟨B, a0, x1, hB1, oldB, old3⟩⟩
  · obtain ⟨sl, q⟩ := un.slot b o e n hb hx'
    obtain ⟨sl', q'⟩ := fr' b (by rw [frs_stack O]; exact List.mem_cons_of_mem _ hb) _ q
    exact ⟨sl', q'⟩
  · obtain ⟨o', q⟩ := un.there b o e hx'
    by_cases hs : b ∈ frs X.stack
    · obtain ⟨sl, q'⟩ := fr' b hs _ q
      exact ⟨_, q'⟩
    · obtain ⟨ob, z⟩ := old3 b o e fun z => hs (by rw [frs_stack O]; exact List.mem_cons_of_mem _ z)
      exact ⟨ob, st b ob z⟩
  · refine (F.hok b u e).stay (fun c v hc q => ?_) (fun _ q => q) fun _ _ q => q
    have hc' : ∃ y, H2 c = some y := by
      rcases hc with z | z
      · rw [z]; exact ⟨u, e⟩
      · exact ⟨_, z⟩
    obtain ⟨y, hy⟩ := hc'
    obtain ⟨ob, z⟩ := hB1 c y hy
    rw [stB c ob z] at q
    cases q
    exact st c _ z
end
end NC
namespace NC
open PySem PySem.Spec PyProof.Rows L2
section
variable {P : Program} {w : World} {K : PySem.W.Frag} {mg : Str -> Option Value} {base : Heap} {N : List Str} {qual : Str} {scope : Scope} {f : Addr} {cd : Value} {A : Around} {outer : List Env} {s : Shared} {H : Hp} {E : XK}
abbrev cxE (P : Program) (w : World) (K : PySem.W.Frag) (mg : Str -> Option Value) (base : Heap) (N : List Str) (qual : Str) (scope : Scope) (f : Addr) (cd : Value) (A : Around) (outer : List Env) (s : Shared) (H : Hp) (E : XK) : Cx := cxOf (CXE P w) P w K mg base N qual scope f cd A outer s H E
theorem own_cxE : Own (cxE P w K mg base N qual scope f cd A outer s H E) := ⟨rfl, rfl, rfl⟩
theorem passE : Passes (CXE P w) (cxE P w K mg base N qual scope f cd A outer s H E) E := by
  intro pins σ H1 s1 e s' I h
  obtain ⟨ea, C, H', rfl, F, hE⟩ := h
  show wpAny (model P w) _ (leaving _ (.ref ea)) _ _ s'
  exact thn (fly_on I own_cxE F) fun _ s'' F' => ⟨ea, C, H', rfl, F', hE⟩
theorem ownE : PassesOwn (model P w) (cxE P w K mg base N qual scope f cd A outer s H E).A (cxE P w K mg base N qual scope f cd A outer s H E).env (cxE P w K mg base N qual scope f cd A outer s H E).xe := PassesOwn.leaving
structure ExcC (x : Str) (C : Addr) (mg : Str -> Option Value) (h : Heap) : Prop where
  own : OwnCls x C [.type "ValueError", .type "Exception", .type "BaseException", .type "object"] "ValueError.__new__" mg h
theorem ExcC.keeps {x : Str} {C : Addr} {h h' : Heap} (O : ExcC x C mg h) (k : ∀ b o, h.get? b = some o -> h'.get? b = some o) : ExcC x C mg h' := ⟨O.own.keeps k⟩
def tRaise (E : XK) (C : Addr) (te : TE) : TS := fun _ σ H => te σ H fun v H1 => ([v] : List V).length = 1 /\ ∀ e, E (.ref e) (some C) H1
theorem ps_raise {x : Str} {C : Addr} {e₀ : Expr} {te : TE} {np cpos pos : Pos} (O : ExcC x C mg base) (hh : A.handled = none) (hg : Gl (cxE P w K mg base N qual scope f cd A outer s H E) x) (he : PE (cxE P w K mg base N qual scope f cd A outer s H E) e₀ te)
    (h : plainE e₀ = true := by rfl) (hdb : (x == ("__debug__" : Str)) = false := by decide) :
    PS (cxE P w K mg base N qual scope f cd A outer s H E) (.Raise (some (.Call (.Name x np) [e₀] [] cpos)) none pos) (tRaise E C te) := by
  intro pins s1 σ H1 D I hw
  obtain ⟨tl, Nn, nm, q, bs, hdct, sn, sub, ab, col, dd, k0, k1, k2, k3, k5, mN, hC, hN, hni, T⟩ := O.own.obj
  have ha : PA (cxE P w K mg base N qual scope f cd A outer s H E) [e₀] (tCons te tNil) := pa_c he pa_nil h
  refine wpAny_Raise_call_subT (C := C) (nm := nm) (q := q) (N := Nn) (bs := bs) (bm := tl) (hdct := hdct) (sn := sn) (sub := sub) (ab := ab) (col := col) (dd := dd) (k0 := k0) (k1 := k1) (k2 := k2) (k3 := k3) (k5 := k5)
    PySem.F.excBase_ValueError (mN := mN) (T.hasType PySem.F.excBase_ValueError.hasBase) hh (by rw [star_plain h]; rfl) hni (ld_glob I hg O.own.bound ⟨rfl, ?_⟩ hdb)
  have e1 := ha cpos pins s1 σ H1 (fun vs H2 => vs.length = 1 /\ ∀ e, E (.ref e) (some C) H2) I hw
  rw [star_plain h] at e1 ⊢
  refine Calls.evalArgs_plain (thn e1 fun us s2 ⟨vs, H2, I2, r, q1, q2⟩ => ⟨rfl, ?_, I2.bk _ _ hC, hN.keeps I2.bk, T.keeps I2.bk, fun h' e hm => ?_⟩)
  · rw [<- r.length, q1]; decide
  · show wpAny (model P w) _ (leaving _ (.ref e)) _ _ _
    exact thn (fly_made I2 own_cxE hm) fun _ s'' F' => ⟨e, C, H2, rfl, F', q2 e⟩
end
end NC
namespace NC
open PySem PySem.Spec PyProof.Rows L2
def ExcAt (x D : Addr) (h : Heap) : Prop := ∃ o, h.get? x = some o /\ o.cls = .ref D /\ PySem.W.notCls o = true
section
variable {prog : Program} {w : World} {A : Around} {E : Value -> Shared -> Prop} {s : Shared} {K : PySem.W.Frag} {x D : Addr}
theorem ExcAt.type {M : Model} {h : Heap} (I : ExcAt x D h) : PySem.W.Looks M h (typeOf (.ref x)) (.ref D) := by
  obtain ⟨o, h1, h2, _⟩ := I
  exact h2 ▸ (PySem.W.Looks.ld h1).andThen .now
open PySem.W Builtin.ObjectAttr in
open PySem.W PySem.Calls Builtin Builtin.ObjectAttr Builtin.Getset_descriptor in
open PySem.W PySem.Calls Builtin.ObjectAttr in
open PySem.W PySem.Calls in
open PySem.W in
end
section
variable {X : Cx} {pins : List (Addr × Obj)} {σ : L2.St} {H1 H2 : Hp} {s1 s2 : Shared}
theorem inv_land {B : Heap} {ea C : Addr} {h' : Heap} (I : Inv X pins σ H1 s1) (O : Own X) (F : Fly X.prog X.w X.stack H1 H2 s1 s2 ea C) (stB : ∀ b o, B.get? b = some o -> s2.heap.get? b = some o)
    (hB1 : ∀ b u, H2 b = some u -> ∃ o, B.get? b = some o) (hB2 : ∀ b o, s1.heap.get? b = some o -> H1 b = none -> b ∉ frs X.stack -> B.get? b = some o)
    (hB3 : ∀ b o, s1.heap.get? b = some o -> b ∉ frs X.stack -> ∃ o', B.get? b = some o') (st : ∀ b o, B.get? b = some o -> h'.get? b = some o) (up : s2.heap.UpToSlots h') : Inv X pins σ H2 { s2 with heap := h' } := by
  have J := I.call' (s' := s2) (ch := []) F.os F.un F.hok F.bare (fun b z => nomatch z)
  have fr' : ∀ b ∈ frs X.stack, ∀ o, s2.heap.get? b = some o -> ∃ sl, h'.get? b = some { o with slots := sl } := fun b hb o e => by
    obtain ⟨_, o', e', nd⟩ := J.stack.mem hb
    rw [e] at e'
    cases e'
    exact up b o e nd
  have un := J.base
  have unI := I.base
  rw [O.ex] at un unI
  have oldB : ∀ b o, X.s₀.heap.get? b = some o -> X.H₀ b = none -> b ∉ X.fs -> B.get? b = some o := fun b o e n hb =>
    hB2 b o (unI.keep b o e n hb (by simp)) (unI.free b o e n (by simp)) (stk_ne I O e hb)
  have old3 : ∀ b o, X.s₀.heap.get? b = some o -> b ∉ X.fs -> ∃ o', B.get? b = some o' := fun b o e hb => by
    obtain ⟨o1, q⟩ := unI.there b o e (by simp)
    exact hB3 b o1 q (stk_ne I O e hb)
  have cellK : ∀ c v, s2.heap.IsCell c v -> h'.IsCell c v := fun c v ⟨o, ho, hd⟩ => by
    obtain ⟨sl, q⟩ := up c o ho fun vs z => by rw [hd] at z; cases z
    exact ⟨_, q, hd⟩
  refine ⟨J.ok, J.os, J.bare, ?_, ?_, fun x c e => ?_, J.free, J.freeC, fun p hp => ?_, fun b u e => ?_, J.len⟩
  · rw [O.ex]
    refine ⟨fun b o e n hb hx' => st b o (oldB b o e n hb), fun b o e n hb hx' => ?_, un.free, fun b o e hx' => ?_, un.tups, un.frzs, un.tbls⟩
    · obtain ⟨sl, q⟩ := un.slot b o e n hb hx'
      obtain ⟨sl', q'⟩ := fr' b (by rw [frs_stack O]; exact List.mem_cons_of_mem _ hb) _ q
      exact ⟨sl', q'⟩
    · obtain ⟨o', q⟩ := un.there b o e hx'
      by_cases hs : b ∈ frs X.stack
      · obtain ⟨sl, q'⟩ := fr' b hs _ q
        exact ⟨_, q'⟩
      · obtain ⟨ob, z⟩ := old3 b o e fun z => hs (by rw [frs_stack O]; exact List.mem_cons_of_mem _ z)
        exact ⟨ob, st b ob z⟩
  · obtain ⟨m, ns, f⟩ := J.loc
    refine ⟨m, up.ns ns, fun i x v a b c => ?_⟩
    obtain ⟨u, r, q⟩ := f i x v a b c
    refine ⟨u, r, ?_⟩
    rcases q with q | ⟨q1, c', q2, q3⟩
    · exact .inl q
    · exact .inr ⟨q1, c', q2, cellK _ _ q3⟩
  · obtain ⟨v, q⟩ := J.cell x c e
    exact ⟨v, cellK _ _ q⟩
  · obtain ⟨p1, p2, p3, p4, p5⟩ := I.pin p hp
    refine ⟨st _ _ (hB2 _ _ p1 p2 ?_), (J.pin p hp).2.1, p3, p4, p5⟩
    rw [frs_stack O]
    intro z
    rcases List.mem_cons.mp z with q | q
    · exact p3 q
    · exact p4 q
  · refine (F.hok b u e).stay (fun c v hc q => ?_) (fun _ q => q) fun _ _ q => q
    have hc' : ∃ y, H2 c = some y := by
      rcases hc with z | z
      · rw [z]; exact ⟨u, e⟩
      · exact ⟨_, z⟩
    obtain ⟨y, hy⟩ := hc'
    obtain ⟨ob, z⟩ := hB1 c y hy
    rw [stB c ob z] at q
    cases q
    exact st c _ z
def _root_.L2.Cx.hnd (X : Cx) (ea : Addr) (l : List (Addr × Obj)) : Cx := { X with A := X.A.mark (some (.ref ea)), calm := false, pn := l ++ X.pn, xe := fun _ _ => False }
theorem inv_hnd {H : Hp} {s : Shared} {ea : Addr} {l : List (Addr × Obj)} (I : Inv X pins σ H s) (hl : ∀ p ∈ l, s.heap.get? p.1 = some p.2 /\ H p.1 = none /\ p.1 ≠ X.env.locals /\ p.1 ∉ X.fs /\ ∀ v, p.2.data ≠ .cell v) : Inv (X.hnd ea l) pins σ H s := by
  have ok := I.ok
  refine ⟨⟨ok.mod, ok.kind, ok.glob, ok.blt, ok.above, ok.inj, ok.has, ok.cab, (fun z => nomatch z), ok.frames, ok.stk, ok.exf, ok.bs, ok.bsz, ok.noex, ok.exfs, ok.funs, ok.frf⟩, I.os, I.bare, I.base, I.loc, I.cell, I.free, I.freeC, fun p hp => ?_, I.hok, I.len⟩
  rw [show (X.hnd ea l).pn = l ++ X.pn from rfl, List.append_assoc] at hp
  rcases List.mem_append.mp hp with q | q
  · exact hl p q
  · exact I.pin p q
theorem inv_unhnd {H : Hp} {s : Shared} {ea : Addr} {l : List (Addr × Obj)} (ok : X.Ok) (I : Inv (X.hnd ea l) pins σ H s) : Inv X pins σ H s :=
  ⟨ok, I.os, I.bare, I.base, I.loc, I.cell, I.free, I.freeC, fun p hp => I.pin p (by rw [show (X.hnd ea l).pn = l ++ X.pn from rfl, List.append_assoc]; exact List.mem_append_right _ hp), I.hok, I.len⟩
def PEx (X : Cx) (e : Expr) (t : XK -> TE) : Prop :=
  ∀ (E : XK) (pins : List (Addr × Obj)) (s : Shared) (σ : L2.St) (H : Hp) (Q : VK), Inv X pins σ H s -> t E σ H Q ->
    wpAny (model X.prog X.w) X.A (eval e X.env) (EP X pins σ Q) (fun v s' => ∃ H1 s1, Inv X pins σ H1 s1 /\ CXE X.prog X.w X.stack H1 s1 E v s') s
theorem pex_call {k : Nat} {f : Addr} {fd : FuncData} {ps : List Str} {sp : Sp} {x : Str} {p pos : Pos} {e : Expr} {es : List Expr} {t : TA} (F : FnOk X.prog X.w X.K X.mg X.base (CXE X.prog X.w) k f fd ps sp) (hr : Room k X.A) (hg : Gl X x) (hm : X.mg x = some (.ref f)) (hk : PySem.W.keepIn X.K (.ref f) = true) (hb : Binds X.K fd ps [])
    (ha : PA X.nox (e :: es) t) (hdb : (x == ("__debug__" : Str)) = false := by decide) (he : starEach (e :: es) X.env = (false, eval e X.env) :: starEach es X.env := by rfl) (hpl : (backTo pos (starEach es X.env)).any (·.1) = false := by rfl) :
    PEx X (.Call (.Name x p) (e :: es) [] pos) (fun E => tCall sp [] E t) := by
  intro E pins s σ H Q I h
  refine wpAny_Call_Name_kw (ld_glob I hg hm ?_ hdb)
  refine PySem.W.callWith_K (h₀ := X.base) I.ok.mod.kin hk (wpAny_mono (ha pos pins s σ H _ (I.wish _) h) (fun us s1 ⟨vs, H1, I1', r, q⟩ => ⟨I1'.kIn, ?_⟩) fun _ _ z => False.elim z) he hpl
  have I1 := I1'.unwish
  have hl : us.length = ps.length := by
    rw [<- r.length]
    have := F.len _ _ _ _ q
    rwa [List.append_nil] at this
  have hb1 := hb s1 us I1.kIn (by rw [List.append_nil]; exact hl)
  have q : sp (vs ++ []) H1 Q E := q
  rw [List.append_nil] at hb1 q
  refine wpAny_call (codeAny_mono (F.run X.A X.stack s1 H1 ⟨us, []⟩ us vs Q E hr I1.env0 hb1 r q) fun r s' hq => ?_)
  cases r with
  | error e => exact ⟨H1, s1, I1, hq⟩
  | ok fl =>
    cases fl with
    | ret u => exact I1.after hq
    | next => exact False.elim hq
    | brk => exact False.elim hq
    | cont => exact False.elim hq
theorem pex_gf {k : Nat} {ps : List Str} {sp : Sp} {x : Str} {p pos : Pos} {e : Expr} {es : List Expr} {t : TA} (G : GF X.prog X.w X.K X.mg X.base (CXE X.prog X.w) k x ps sp) (hr : Room k X.A) (hg : Gl X x) (ha : PA X.nox (e :: es) t) (h : (e :: es).all plainE = true := by rfl) (hdb : (x == ("__debug__" : Str)) = false := by decide) :
    PEx X (.Call (.Name x p) (e :: es) [] pos) (fun E => tCall sp [] E t) := by
  obtain ⟨f, fd, F, hm, hk, hb⟩ := G
  rw [List.all_cons, Bool.and_eq_true] at h
  exact pex_call F hr hg hm hk hb ha hdb (star_plain h.1) (star_any h.2)
def Caught (K : PySem.W.Frag) (CH : Addr) (R : Addr -> Addr -> Hp -> Prop) : XK := fun v C H' => ∃ ea C0, v = .ref ea /\ C = some C0 /\ PySem.W.exmOne K (.ref C0) (.ref CH) = some true /\ R ea C0 H'
theorem looks_fly {M : Model} {B h : Heap} {l : List Env} {e C : Addr} {a0 : Value} (x : Heap.FlyingW B l e (.ref C) a0 h) : PySem.W.Looks M h (typeOf (.ref e)) (.ref C) := by
  obtain ⟨ob, h1, h2⟩ := x.there
  exact h2 ▸ (PySem.W.Looks.ld h1).andThen .now
section
variable {i : Nat} {x cn n : Str} {CH : Addr} {e : Expr} {t : XK -> TE} {ts : TS} {b₀ : Stmt} {bs : List Stmt} {p1 p2 p3 p4 p5 : Pos}
end
end
end NC
namespace NC
open PySem PySem.Spec PyProof.Rows L2
section
variable {P : Program} {w : World} {K : PySem.W.Frag} {mg : Str -> Option Value} {base : Heap}
theorem okE {x qual : Str} {st : Stmt} {f : Addr} {fd : FuncData} {N ps : List Str} {k : Nat} {sp : Sp} (F : Fun K x qual st f fd) (S : FnScope N ps (defScope st)) (len : ∀ vs H Q E, sp vs H Q E -> vs.length = ps.length)
    (hbody : ∀ (cdv : Value) (A : Around) (outer : List Env) (s : Shared) (H : Hp) (vs : List V) (Q : VK) (E : XK), Room k (A.deeper (envOfC qual (defScope st) s.heap.objs.size f cdv)) -> sp vs H Q E ->
      ∃ t, PSs (cxE P w K mg base N qual (defScope st) f cdv A outer s H E) (defBody st) t /\ t { nx := fun _ H' => Q .non H', rt := Q } (L2.start N vs) H) : FnOk P w K mg base (CXE P w) (k + 1) f fd ps sp := by
  obtain ⟨oc, od, kV, doc, pm, an, cdv, ct, osl, rfl, lk, hcd⟩ := F.ex
  exact fn_of lk hcd S len fun A outer s H vs Q E hr hsp => hbody cdv A outer s H vs Q E hr hsp
theorem exc_of {x : Str} {C : Addr} (X : K.In base) (hm : mg x = some (.ref C)) (q : PySem.W.excIn K C [.type "ValueError", .type "Exception", .type "BaseException", .type "object"] "ValueError.__new__" = true) : ExcC x C mg base := by
  refine ⟨⟨hm, ?_⟩⟩
  unfold PySem.W.excIn at q
  split at q
  · rename_i dd cd sl ho
    split at q
    · rename_i C' bm k0 k1 k2 k3 n k5 hm hs
      simp only [Bool.and_eq_true, beq_iff_eq, Bool.not_eq_true'] at q
      obtain ⟨⟨⟨⟨⟨rfl, rfl⟩, hdel⟩, ht⟩, hok⟩, hni⟩ := q
      obtain ⟨nm, bs, mro, ns, qn, hd, sn, sub, ab, col, del⟩ := cd
      dsimp only at hm hdel hok hni
      subst hm hdel
      have hsl : sl = #[k0, k1, k2, k3, some (.builtin "ValueError.__new__"), k5] := by
        obtain ⟨l⟩ := sl
        simp only at hs
        rw [hs]
      subst hsl
      exact ⟨bm, ns, nm, qn, bs, hd, sn, sub, ab, col, dd, k0, k1, k2, k3, k5, _, X _ _ ho, .of_isNs (PySem.W.isNs_of_in X hok), PySem.W.nsMap_none_of_in X hok hni, PySem.W.tail_of_in X ht⟩
    · cases q
  · cases q
end
end NC
namespace NC
open PySem PySem.Spec PyProof.Rows L2
end NC
namespace NC
section
variable {W : Type}
inductive Fm (W : Type) where
  | form
  | one (t : T W)
  | other (t : T W)
def plugF : Fm W -> T W -> T W
  | .form, t => .form t
  | .one u, t => .call t u
  | .other u, t => .call u t
def plugS : List (Fm W) -> T W -> T W
  | [], t => t
  | f :: S, t => plugS S (plugF f t)
def leads : T W -> Int -> Bool
  | .call _ _, n => decide (n = 0) || decide (n = 1)
  | .form _, n => decide (n = 0)
  | _, _ => false
def child : T W -> Int -> T W
  | .form b, _ => b
  | .call a b, n => if n = 0 then a else b
  | t, _ => t
def frame : T W -> Int -> Fm W
  | .call a b, n => if n = 0 then .one b else .other a
  | _, _ => .form
def Fm.sib : Fm W -> Nat
  | .form => 0
  | .one t => t.size
  | .other t => t.size
def downT : T W -> List Int -> List (Fm W) -> Option (T W × List (Fm W))
  | t, [], S => some (t, S)
  | t, n :: ps, S => if leads t n = true then downT (child t n) ps (frame t n :: S) else none
def doneT : Option (T W × List (Fm W)) -> Option (T W)
  | some (.call (.form b) u, S) => some (plugS S (b.fill u))
  | _ => none
def stepT (t : T W) (ps : List Int) : Option (T W) := doneT (downT t ps [])
theorem child_size : ∀ (t : T W) (n : Int), (child t n).size <= t.size
  | .name _, _ => Nat.le_refl _
  | .place _, _ => Nat.le_refl _
  | .form b, _ => by show b.size <= b.size + 1; omega
  | .call a b, n => by
    show (if n = 0 then a else b).size <= a.size + b.size + 1
    split <;> omega
theorem frame_sib : ∀ (t : T W) (n : Int), (frame t n).sib <= t.size
  | .name _, _ => Nat.zero_le _
  | .place _, _ => Nat.zero_le _
  | .form b, _ => Nat.zero_le _
  | .call a b, n => by
    show (if n = 0 then Fm.one b else Fm.other a).sib <= a.size + b.size + 1
    split
    · show b.size <= _; omega
    · show a.size <= _; omega
def Small (m : Nat) (S : List (Fm W)) : Prop := ∀ f ∈ S, f.sib <= m
theorem Small.cons {m : Nat} {f : Fm W} {S : List (Fm W)} (h : f.sib <= m) (s : Small m S) : Small m (f :: S) := fun g hg => by
  rcases List.mem_cons.mp hg with e | e
  · rw [e]; exact h
  · exact s g e
theorem Small.tail {m : Nat} {f : Fm W} {S : List (Fm W)} (s : Small m (f :: S)) : Small m S := fun g hg => s g (List.mem_cons_of_mem _ hg)
theorem Small.head {m : Nat} {f : Fm W} {S : List (Fm W)} (s : Small m (f :: S)) : f.sib <= m := s f List.mem_cons_self
def Fm.deepS : Fm W -> Nat
  | .form => 0
  | .one t => t.deep
  | .other t => t.deep
theorem down_small {m : Nat} : ∀ (ps : List Int) (t : T W) (S : List (Fm W)) (u : T W) (S' : List (Fm W)), downT t ps S = some (u, S') -> t.size <= m -> Small m S -> u.size <= m /\ Small m S'
  | [], t, S, u, S', h, h1, h2 => by cases h; exact ⟨h1, h2⟩
  | n :: ps, t, S, u, S', h, h1, h2 => by
    unfold downT at h
    split at h
    · exact down_small ps _ _ u S' h (Nat.le_trans (child_size t n) h1) (h2.cons (Nat.le_trans (frame_sib t n) h1))
    · cases h
theorem spot_len : ∀ (t : T W) (p : List Int), p ∈ t.spots -> p.length <= t.size
  | .name _, p, h => nomatch h
  | .place _, p, h => nomatch h
  | .form b, p, h => by
    obtain ⟨q, hq, e⟩ := List.mem_map.mp (show p ∈ b.spots.map (0 :: ·) from h)
    have := spot_len b q hq
    rw [<- e]
    show q.length + 1 <= b.size + 1
    omega
  | .call a b, p, h => by
    have h : p ∈ (if a.isForm then [[]] else []) ++ (a.spots.map (0 :: ·) ++ b.spots.map (1 :: ·)) := h
    rcases List.mem_append.mp h with h | h
    · split at h
      · rw [List.mem_singleton.mp h]; exact Nat.zero_le _
      · cases h
    · rcases List.mem_append.mp h with h | h
      · obtain ⟨q, hq, e⟩ := List.mem_map.mp h
        have := spot_len a q hq
        rw [<- e]
        show q.length + 1 <= a.size + b.size + 1
        omega
      · obtain ⟨q, hq, e⟩ := List.mem_map.mp h
        have := spot_len b q hq
        rw [<- e]
        show q.length + 1 <= a.size + b.size + 1
        omega
end
end NC
namespace NC
section
variable {W : Type}
def stepR : T W -> List Int -> Option (T W)
  | .call (.form b) u, [] => some (b.fill u)
  | .form b, n :: p => if n = 0 then (stepR b p).map .form else none
  | .call a b, n :: p => if n = 0 then (stepR a p).map (.call · b) else if n = 1 then (stepR b p).map (.call a ·) else none
  | _, _ => none
theorem done_frame (f : Fm W) : ∀ (ps : List Int) (t : T W) (S : List (Fm W)), doneT (downT t ps S) = (doneT (downT t ps [])).map (plugS S)
  | [], t, S => by
    show doneT (some (t, S)) = (doneT (some (t, []))).map _
    cases t with
    | name _ => rfl
    | place _ => rfl
    | form _ => rfl
    | call a u => cases a <;> rfl
  | n :: ps, t, S => by
    unfold downT
    split
    · rw [done_frame f ps (child t n) (frame t n :: S), done_frame f ps (child t n) [frame t n]]
      cases doneT (downT (child t n) ps []) <;> rfl
    · rfl
theorem stepT_eq : ∀ (ps : List Int) (t : T W), stepT t ps = stepR t ps
  | [], t => by
    cases t with
    | name _ => rfl
    | place _ => rfl
    | form _ => rfl
    | call a u => cases a <;> rfl
  | n :: ps, t => by
    show doneT (if leads t n = true then downT (child t n) ps [frame t n] else none) = _
    cases t with
    | name _ => rfl
    | place _ => rfl
    | form b =>
      show doneT (if decide (n = 0) = true then downT b ps [Fm.form] else none) = if n = 0 then (stepR b ps).map T.form else none
      by_cases h : n = 0
      · rw [if_pos h, if_pos (decide_eq_true h), done_frame .form, <- stepT_eq ps b]
        rfl
      · rw [if_neg h, if_neg (by simpa using h)]
        rfl
    | call a b =>
      show doneT (if (decide (n = 0) || decide (n = 1)) = true then downT (if n = 0 then a else b) ps [if n = 0 then Fm.one b else Fm.other a] else none) = _
      have e : stepR (.call a b) (n :: ps) = if n = 0 then (stepR a ps).map (.call · b) else if n = 1 then (stepR b ps).map (.call a ·) else none := by
        cases a <;> rfl
      rw [e]
      by_cases h : n = 0
      · rw [if_pos h, if_pos h, if_pos h, if_pos (by simp [h]), done_frame .form, <- stepT_eq ps a]
        rfl
      · by_cases h1 : n = 1
        · rw [if_neg h, if_neg h, if_neg h, if_pos h1, if_pos (by simp [h1]), done_frame .form, <- stepT_eq ps b]
          rfl
        · rw [if_neg h, if_neg h, if_neg h, if_neg h1, if_neg (by simp [h, h1])]
          rfl
def subP (n : Int) (ps : List (List Int)) : List (List Int) := ps.filterMap fun q => match q with
  | [] => none
  | m :: r => if m = n then some r else none
theorem mem_subP {n : Int} {ps : List (List Int)} {r : List Int} : r ∈ subP n ps ↔ n :: r ∈ ps := by
  unfold subP
  rw [List.mem_filterMap]
  constructor
  · rintro ⟨q, hq, e⟩
    cases q with
    | nil => cases e
    | cons m r' =>
      dsimp only at e
      split at e
      · rename_i h
        cases e
        rw [<- h]
        exact hq
      · cases e
  · intro h
    exact ⟨n :: r, h, by simp⟩
def dv : T W -> List (List Int) -> T W
  | .name w, _ => .name w
  | .place n, _ => .place n
  | .form b, P => .form (dv b (subP 0 P))
  | .call a b, P => if [] ∈ P then (match dv a (subP 0 P) with | .form c => c.fill (dv b (subP 1 P)) | a' => .call a' (dv b (subP 1 P))) else .call (dv a (subP 0 P)) (dv b (subP 1 P))
theorem dv_nil : ∀ t : T W, dv t [] = t
  | .name _ => rfl
  | .place _ => rfl
  | .form b => by show T.form (dv b []) = _; rw [dv_nil b]
  | .call a b => by
    show (if [] ∈ ([] : List (List Int)) then _ else T.call (dv a []) (dv b [])) = _
    rw [if_neg (by simp), dv_nil a, dv_nil b]
theorem dv_congr : ∀ (t : T W) (P P' : List (List Int)), (∀ q, q ∈ P ↔ q ∈ P') -> dv t P = dv t P'
  | .name _, _, _, _ => rfl
  | .place _, _, _, _ => rfl
  | .form b, P, P', h => by
    show T.form _ = T.form _
    rw [dv_congr b (subP 0 P) (subP 0 P') fun q => by rw [mem_subP, mem_subP]; exact h _]
  | .call a b, P, P', h => by
    have e1 := dv_congr a (subP 0 P) (subP 0 P') fun q => by rw [mem_subP, mem_subP]; exact h _
    have e2 := dv_congr b (subP 1 P) (subP 1 P') fun q => by rw [mem_subP, mem_subP]; exact h _
    show (if [] ∈ P then _ else _) = (if [] ∈ P' then _ else _)
    rw [e1, e2]
    by_cases hn : [] ∈ P
    · rw [if_pos hn, if_pos ((h []).mp hn)]
    · rw [if_neg hn, if_neg fun z => hn ((h []).mpr z)]
def uz : T W -> List (List Int) -> Nat
  | .name _, _ => 2
  | .place _, _ => 2
  | .form b, P => uz b (subP 0 P) + 1
  | .call a b, P => if [] ∈ P then uz a (subP 0 P) * uz b (subP 1 P) else uz a (subP 0 P) + uz b (subP 1 P)
def ud : T W -> List (List Int) -> Nat
  | .name _, _ => 1
  | .place _, _ => 1
  | .form b, P => ud b (subP 0 P) + 1
  | .call a b, P => if [] ∈ P then ud a (subP 0 P) + ud b (subP 1 P) else max (ud a (subP 0 P)) (ud b (subP 1 P)) + 1
theorem uz_two : ∀ (t : T W) (P : List (List Int)), 2 <= uz t P
  | .name _, _ => Nat.le_refl _
  | .place _, _ => Nat.le_refl _
  | .form b, P => Nat.le_succ_of_le (uz_two b _)
  | .call a b, P => by
    have h1 := uz_two a (subP 0 P)
    have h2 := uz_two b (subP 1 P)
    show 2 <= if [] ∈ P then uz a (subP 0 P) * uz b (subP 1 P) else uz a (subP 0 P) + uz b (subP 1 P)
    split
    · have := Nat.mul_le_mul h1 h2
      omega
    · omega
theorem ud_one : ∀ (t : T W) (P : List (List Int)), 1 <= ud t P
  | .name _, _ => Nat.le_refl _
  | .place _, _ => Nat.le_refl _
  | .form b, P => Nat.le_succ_of_le (ud_one b _)
  | .call a b, P => by
    have h1 := ud_one a (subP 0 P)
    show 1 <= if [] ∈ P then ud a (subP 0 P) + ud b (subP 1 P) else max (ud a (subP 0 P)) (ud b (subP 1 P)) + 1
    split <;> omega
theorem size_uz : ∀ (t : T W) (P : List (List Int)), t.size + 1 <= uz t P
  | .name _, _ => Nat.le_refl _
  | .place _, _ => Nat.le_refl _
  | .form b, P => Nat.succ_le_succ (size_uz b _)
  | .call a b, P => by
    have h1 := size_uz a (subP 0 P)
    have h2 := size_uz b (subP 1 P)
    have h3 := a.size_pos
    have h4 := b.size_pos
    show a.size + b.size + 1 + 1 <= if [] ∈ P then uz a (subP 0 P) * uz b (subP 1 P) else uz a (subP 0 P) + uz b (subP 1 P)
    split
    · have h5 := Nat.mul_le_mul h1 h2
      rw [Nat.add_mul, Nat.mul_add, Nat.one_mul, Nat.mul_one] at h5
      have h6 := Nat.mul_le_mul h3 h4
      omega
    · omega
theorem deep_ud : ∀ (t : T W) (P : List (List Int)), t.deep <= ud t P
  | .name _, _ => Nat.le_refl _
  | .place _, _ => Nat.le_refl _
  | .form b, P => Nat.succ_le_succ (deep_ud b _)
  | .call a b, P => by
    have h1 := deep_ud a (subP 0 P)
    have h2 := deep_ud b (subP 1 P)
    have h3 := ud_one a (subP 0 P)
    have h4 := ud_one b (subP 1 P)
    show max a.deep b.deep + 1 <= if [] ∈ P then ud a (subP 0 P) + ud b (subP 1 P) else max (ud a (subP 0 P)) (ud b (subP 1 P)) + 1
    split <;> omega
theorem uz_le : ∀ (t : T W) (P : List (List Int)), uz t P * 2 ^ (t.size + 1) <= 3 ^ (t.size + 1)
  | .name _, _ => (by decide : 2 * 2 ^ (1 + 1) <= 3 ^ (1 + 1))
  | .place _, _ => (by decide : 2 * 2 ^ (1 + 1) <= 3 ^ (1 + 1))
  | .form b, P => by
    have h1 := uz_le b (subP 0 P)
    have h2 := uz_two b (subP 0 P)
    show (uz b (subP 0 P) + 1) * 2 ^ (b.size + 1 + 1) <= 3 ^ (b.size + 1 + 1)
    rw [Nat.pow_succ 2, Nat.pow_succ 3, <- Nat.mul_assoc]
    have h3 : (uz b (subP 0 P) + 1) * 2 <= uz b (subP 0 P) * 3 := by omega
    have h4 := Nat.mul_le_mul_right (2 ^ (b.size + 1)) h3
    have h5 := Nat.mul_le_mul_right 3 h1
    rw [Nat.mul_right_comm (uz b (subP 0 P) + 1)]
    rw [Nat.mul_right_comm] at h5
    omega
  | .call a b, P => by
    have h1 := uz_le a (subP 0 P)
    have h2 := uz_le b (subP 1 P)
    have h3 := uz_two a (subP 0 P)
    have h4 := uz_two b (subP 1 P)
    have hle : uz (.call a b) P <= uz a (subP 0 P) * uz b (subP 1 P) := by
      show (if [] ∈ P then uz a (subP 0 P) * uz b (subP 1 P) else uz a (subP 0 P) + uz b (subP 1 P)) <= _
      split
      · exact Nat.le_refl _
      · obtain ⟨x, hx⟩ : ∃ x, uz a (subP 0 P) = x + 2 := ⟨_, (Nat.sub_add_cancel h3).symm⟩
        obtain ⟨y, hy⟩ : ∃ y, uz b (subP 1 P) = y + 2 := ⟨_, (Nat.sub_add_cancel h4).symm⟩
        rw [hx, hy, Nat.add_mul, Nat.mul_add]
        omega
    have h5 := Nat.mul_le_mul h1 h2
    have e1 : (T.call a b).size + 1 = (a.size + 1) + (b.size + 1) := by
      show a.size + b.size + 1 + 1 = _
      omega
    rw [e1, Nat.pow_add 2 (a.size + 1) (b.size + 1), Nat.pow_add 3 (a.size + 1) (b.size + 1)]
    refine Nat.le_trans (Nat.mul_le_mul_right _ hle) ?_
    rw [show uz a (subP 0 P) * uz b (subP 1 P) * (2 ^ (a.size + 1) * 2 ^ (b.size + 1)) = uz a (subP 0 P) * 2 ^ (a.size + 1) * (uz b (subP 1 P) * 2 ^ (b.size + 1)) by
      rw [Nat.mul_assoc, Nat.mul_assoc, <- Nat.mul_assoc (uz b (subP 1 P)), Nat.mul_comm (uz b (subP 1 P)), Nat.mul_assoc]]
    exact h5
theorem ud_le : ∀ (t : T W) (P : List (List Int)), ud t P <= t.size
  | .name _, _ => Nat.le_refl _
  | .place _, _ => Nat.le_refl _
  | .form b, P => Nat.succ_le_succ (ud_le b _)
  | .call a b, P => by
    have h1 := ud_le a (subP 0 P)
    have h2 := ud_le b (subP 1 P)
    have h3 := a.size_pos
    have h4 := b.size_pos
    show (if [] ∈ P then ud a (subP 0 P) + ud b (subP 1 P) else max (ud a (subP 0 P)) (ud b (subP 1 P)) + 1) <= a.size + b.size + 1
    split <;> omega
theorem dv_size : ∀ (t : T W) (P : List (List Int)), (dv t P).size + 1 <= uz t P
  | .name _, _ => Nat.le_refl _
  | .place _, _ => Nat.le_refl _
  | .form b, P => Nat.succ_le_succ (dv_size b _)
  | .call a b, P => by
    have h1 := dv_size a (subP 0 P)
    have h2 := dv_size b (subP 1 P)
    have h3 := (dv a (subP 0 P)).size_pos
    have h4 := (dv b (subP 1 P)).size_pos
    show (if [] ∈ P then (match dv a (subP 0 P) with | .form c => c.fill (dv b (subP 1 P)) | a' => .call a' (dv b (subP 1 P))) else .call (dv a (subP 0 P)) (dv b (subP 1 P)) : T W).size + 1 <= if [] ∈ P then uz a (subP 0 P) * uz b (subP 1 P) else uz a (subP 0 P) + uz b (subP 1 P)
    by_cases hn : ([] : List Int) ∈ P
    · rw [if_pos hn, if_pos hn]
      have h5 := Nat.mul_le_mul h1 h2
      refine Nat.le_trans ?_ h5
      generalize dv b (subP 1 P) = b' at h4
      have other : ∀ a' : T W, 1 <= a'.size -> (T.call a' b').size + 1 <= (a'.size + 1) * (b'.size + 1) := fun a' ha => by
        have := Nat.mul_le_mul ha h4
        show a'.size + b'.size + 1 + 1 <= _
        rw [Nat.add_mul, Nat.mul_add]
        omega
      cases hd : dv a (subP 0 P) with
      | form c =>
        have h6 : (c.fill b').size <= c.size * b'.size := fill_size b' c 0
        show (c.fill b').size + 1 <= (c.size + 1 + 1) * (b'.size + 1)
        rw [Nat.add_mul, Nat.add_mul, Nat.mul_add]
        omega
      | name w => exact other _ (Nat.le_refl _)
      | place n => exact other _ (Nat.le_refl _)
      | call x y => exact other _ (by show 1 <= x.size + y.size + 1; omega)
    · rw [if_neg hn, if_neg hn]
      show (dv a (subP 0 P)).size + (dv b (subP 1 P)).size + 1 + 1 <= _
      omega
theorem dv_deep : ∀ (t : T W) (P : List (List Int)), (dv t P).deep <= ud t P
  | .name _, _ => Nat.le_refl _
  | .place _, _ => Nat.le_refl _
  | .form b, P => Nat.succ_le_succ (dv_deep b _)
  | .call a b, P => by
    have h1 := dv_deep a (subP 0 P)
    have h2 := dv_deep b (subP 1 P)
    have h3 := ud_one b (subP 1 P)
    have h4 := ud_one a (subP 0 P)
    show (if [] ∈ P then (match dv a (subP 0 P) with | .form c => c.fill (dv b (subP 1 P)) | a' => .call a' (dv b (subP 1 P))) else .call (dv a (subP 0 P)) (dv b (subP 1 P)) : T W).deep <= if [] ∈ P then ud a (subP 0 P) + ud b (subP 1 P) else max (ud a (subP 0 P)) (ud b (subP 1 P)) + 1
    by_cases hn : ([] : List Int) ∈ P
    · rw [if_pos hn, if_pos hn]
      cases hd : dv a (subP 0 P) with
      | form c =>
        rw [hd] at h1
        have h1 : c.deep + 1 <= _ := h1
        have h6 : (c.fill (dv b (subP 1 P))).deep <= c.deep + (dv b (subP 1 P)).deep := fill_deep _ c 0
        show (c.fill (dv b (subP 1 P))).deep <= _
        omega
      | name w =>
        show max 1 (dv b (subP 1 P)).deep + 1 <= _
        omega
      | place n =>
        show max 1 (dv b (subP 1 P)).deep + 1 <= _
        omega
      | call x y =>
        rw [hd] at h1
        show max (T.call x y).deep (dv b (subP 1 P)).deep + 1 <= _
        omega
    · rw [if_neg hn, if_neg hn]
      show max (dv a (subP 0 P)).deep (dv b (subP 1 P)).deep + 1 <= _
      omega
structure Dev (t : T W) (ps : List (List Int)) : Prop where
  sub : ∀ p ∈ ps, p ∈ t.spots
  nd : ps.Nodup
  desc : ps.Pairwise fun a b => b.length <= a.length
theorem spot_form {b : T W} {p : List Int} : p ∈ (T.form b).spots ↔ ∃ q, p = 0 :: q /\ q ∈ b.spots := by
  show p ∈ b.spots.map (0 :: ·) ↔ _
  rw [List.mem_map]
  exact ⟨fun ⟨q, h, e⟩ => ⟨q, e.symm, h⟩, fun ⟨q, e, h⟩ => ⟨q, h, e.symm⟩⟩
theorem spot_call {a b : T W} {p : List Int} : p ∈ (T.call a b).spots ↔ (p = [] /\ a.isForm = true) ∨ (∃ q, p = 0 :: q /\ q ∈ a.spots) ∨ ∃ q, p = 1 :: q /\ q ∈ b.spots := by
  show p ∈ (if a.isForm then [[]] else []) ++ (a.spots.map (0 :: ·) ++ b.spots.map (1 :: ·)) ↔ _
  rw [List.mem_append, List.mem_append, List.mem_map, List.mem_map]
  constructor
  · rintro (h | ⟨q, h, e⟩ | ⟨q, h, e⟩)
    · split at h
      · rename_i hf
        exact .inl ⟨List.mem_singleton.mp h, hf⟩
      · cases h
    · exact .inr (.inl ⟨q, e.symm, h⟩)
    · exact .inr (.inr ⟨q, e.symm, h⟩)
  · rintro (⟨e, hf⟩ | ⟨q, e, h⟩ | ⟨q, e, h⟩)
    · rw [if_pos hf, e]
      exact .inl (List.mem_singleton.mpr rfl)
    · exact .inr (.inl ⟨q, h, e.symm⟩)
    · exact .inr (.inr ⟨q, h, e.symm⟩)
theorem nodup_subP {n : Int} {ps : List (List Int)} (h : ps.Nodup) : (subP n ps).Nodup := by
  unfold subP List.Nodup
  refine List.Pairwise.filterMap (R := (· ≠ ·)) (S := (· ≠ ·)) _ (fun a a' hne b hb b' hb' e => hne ?_) h
  cases a with
  | nil => cases hb
  | cons m r =>
    cases a' with
    | nil => cases hb'
    | cons m' r' =>
      dsimp only at hb hb'
      split at hb
      · rename_i h1
        split at hb'
        · rename_i h2
          cases hb
          cases hb'
          rw [h1, h2, e]
        · cases hb'
      · cases hb
theorem desc_subP {n : Int} {ps : List (List Int)} (h : ps.Pairwise fun a b => b.length <= a.length) : (subP n ps).Pairwise fun a b => b.length <= a.length := by
  unfold subP
  refine List.Pairwise.filterMap (R := fun a b : List Int => b.length <= a.length) _ (fun a a' hle b hb b' hb' => ?_) h
  cases a with
  | nil => cases hb
  | cons m r =>
    cases a' with
    | nil => cases hb'
    | cons m' r' =>
      dsimp only at hb hb'
      split at hb
      · split at hb'
        · cases hb
          cases hb'
          exact Nat.le_of_succ_le_succ hle
        · cases hb'
      · cases hb
theorem subP_same {n : Int} {p : List Int} {ps : List (List Int)} : subP n ((n :: p) :: ps) = p :: subP n ps := by
  unfold subP
  rw [List.filterMap_cons]
  simp
theorem subP_ne {m n : Int} {p : List Int} {ps : List (List Int)} (h : m ≠ n) : subP n ((m :: p) :: ps) = subP n ps := by
  unfold subP
  rw [List.filterMap_cons]
  simp [h]
theorem dev_step : ∀ (t : T W) (p : List Int) (ps : List (List Int)), Dev t (p :: ps) -> ∃ t', stepR t p = some t' /\ Dev t' ps /\ dv t' ps = dv t (p :: ps) /\ uz t' ps <= uz t (p :: ps) /\ ud t' ps <= ud t (p :: ps) /\ (p ≠ [] -> t.isForm = t'.isForm)
  | .name _, p, ps, h => nomatch h.sub p List.mem_cons_self
  | .place _, p, ps, h => nomatch h.sub p List.mem_cons_self
  | .form b, p, ps, h => by
    obtain ⟨q, rfl, hq⟩ := spot_form.mp (h.sub p List.mem_cons_self)
    have hd : Dev b (q :: subP 0 ps) := by
      have h1 := nodup_subP (n := 0) h.nd
      have h2 := desc_subP (n := 0) h.desc
      rw [subP_same] at h1 h2
      refine ⟨fun r hr => ?_, h1, h2⟩
      rw [<- subP_same] at hr
      obtain ⟨r', e, h3⟩ := spot_form.mp (h.sub _ (mem_subP.mp hr))
      cases e
      exact h3
    obtain ⟨b', h1, h2, h3, h4, h5, _⟩ := dev_step b q (subP 0 ps) hd
    refine ⟨.form b', ?_, ⟨fun r hr => ?_, (List.nodup_cons.mp h.nd).2, (List.pairwise_cons.mp h.desc).2⟩, ?_, ?_, ?_, fun _ => rfl⟩
    · show (if (0 : Int) = 0 then (stepR b q).map T.form else none) = _
      rw [if_pos rfl, h1]
      rfl
    · obtain ⟨r', e, h6⟩ := spot_form.mp (h.sub r (List.mem_cons_of_mem _ hr))
      refine spot_form.mpr ⟨r', e, h2.sub r' (mem_subP.mpr ?_)⟩
      rw [<- e]
      exact hr
    · show T.form _ = T.form _
      rw [subP_same, h3]
    · show uz b' _ + 1 <= uz b _ + 1
      rw [subP_same]
      exact Nat.succ_le_succ h4
    · show ud b' _ + 1 <= ud b _ + 1
      rw [subP_same]
      exact Nat.succ_le_succ h5
  | .call a b, p, ps, h => by
    have hps : ∀ r ∈ ps, r ∈ (T.call a b).spots := fun r hr => h.sub r (List.mem_cons_of_mem _ hr)
    have hnd := (List.nodup_cons.mp h.nd).2
    have hdesc := (List.pairwise_cons.mp h.desc).2
    rcases spot_call.mp (h.sub p List.mem_cons_self) with ⟨rfl, hf⟩ | ⟨q, rfl, hq⟩ | ⟨q, rfl, hq⟩
    · have e0 : ps = [] := by
        cases ps with
        | nil => rfl
        | cons r ps' =>
          have h1 := (List.pairwise_cons.mp h.desc).1 r List.mem_cons_self
          have h2 : r = [] := List.eq_nil_of_length_eq_zero (Nat.le_zero.mp h1)
          exact absurd (by rw [h2]; exact List.mem_cons_self) (List.nodup_cons.mp h.nd).1
      subst e0
      cases a with
      | name _ => cases hf
      | place _ => cases hf
      | call _ _ => cases hf
      | form c =>
        refine ⟨c.fill b, rfl, ⟨(fun r hr => nomatch hr), List.nodup_nil, List.Pairwise.nil⟩, ?_, ?_, ?_, fun z => absurd rfl z⟩
        · rw [dv_nil]
          show _ = if ([] : List Int) ∈ [[]] then (match T.form (dv c []) with | .form c => c.fill (dv b []) | a' => .call a' (dv b [])) else _
          rw [if_pos (List.mem_singleton.mpr rfl), dv_nil, dv_nil]
        · have h1 := uz_le_nil (c.fill b)
          have h2 : (c.fill b).size <= c.size * b.size := fill_size b c 0
          have h3 : uz (.call (.form c) b) [[]] = (uz c [] + 1) * uz b [] := by
            show (if ([] : List Int) ∈ [[]] then _ else _) = _
            rw [if_pos (List.mem_singleton.mpr rfl)]
            rfl
          have h4 := size_uz c []
          have h5 := size_uz b []
          rw [h1, h3]
          have h6 : (c.size + 1 + 1) * (b.size + 1) <= (uz c [] + 1) * uz b [] := Nat.mul_le_mul (by omega) h5
          rw [Nat.add_mul, Nat.add_mul, Nat.mul_add] at h6
          omega
        · have h1 := ud_nil (c.fill b)
          have h2 : (c.fill b).deep <= c.deep + b.deep := fill_deep b c 0
          have h3 : ud (.call (.form c) b) [[]] = (ud c [] + 1) + ud b [] := by
            show (if ([] : List Int) ∈ [[]] then _ else _) = _
            rw [if_pos (List.mem_singleton.mpr rfl)]
            rfl
          have h4 := deep_ud c []
          have h5 := deep_ud b []
          rw [h1, h3]
          omega
    · have hd : Dev a (q :: subP 0 ps) := by
        have h1 := nodup_subP (n := 0) h.nd
        have h2 := desc_subP (n := 0) h.desc
        rw [subP_same] at h1 h2
        refine ⟨fun r hr => ?_, h1, h2⟩
        rw [<- subP_same] at hr
        rcases spot_call.mp (h.sub _ (mem_subP.mp hr)) with ⟨e, _⟩ | ⟨r', e, h3⟩ | ⟨r', e, h3⟩
        · cases e
        · cases e; exact h3
        · injection e with e _; exact absurd e (by decide)
      obtain ⟨a', h1, h2, h3, h4, h5, h6⟩ := dev_step a q (subP 0 ps) hd
      have hin : ([] : List Int) ∈ (0 :: q) :: ps ↔ ([] : List Int) ∈ ps := by simp
      have hform : a.isForm = true -> a'.isForm = true := fun hf => by
        have hne : q ≠ [] := fun z => by
          rw [z] at hq
          cases a with
          | name _ => cases hf
          | place _ => cases hf
          | call _ _ => cases hf
          | form c =>
            obtain ⟨r, e, _⟩ := spot_form.mp hq
            cases e
        rw [<- h6 hne]
        exact hf
      refine ⟨.call a' b, ?_, ⟨fun r hr => ?_, hnd, hdesc⟩, ?_, ?_, ?_, fun _ => rfl⟩
      · have e : stepR (.call a b) (0 :: q) = (stepR a q).map (.call · b) := by cases a <;> rfl
        rw [e, h1]
        rfl
      · rcases spot_call.mp (hps r hr) with ⟨e, hf⟩ | ⟨r', e, h7⟩ | ⟨r', e, h7⟩
        · exact spot_call.mpr (.inl ⟨e, hform hf⟩)
        · exact spot_call.mpr (.inr (.inl ⟨r', e, h2.sub r' (mem_subP.mpr (by rw [<- e]; exact hr))⟩))
        · exact spot_call.mpr (.inr (.inr ⟨r', e, h7⟩))
      · show (if [] ∈ ps then _ else _) = (if [] ∈ (0 :: q) :: ps then _ else _)
        rw [subP_same, subP_ne (by decide), h3]
        by_cases hn : ([] : List Int) ∈ ps
        · rw [if_pos hn, if_pos (hin.mpr hn)]
        · rw [if_neg hn, if_neg fun z => hn (hin.mp z)]
      · show (if [] ∈ ps then _ else _) <= (if [] ∈ (0 :: q) :: ps then _ else _)
        rw [subP_same, subP_ne (by decide)]
        by_cases hn : ([] : List Int) ∈ ps
        · rw [if_pos hn, if_pos (hin.mpr hn)]
          exact Nat.mul_le_mul_right _ h4
        · rw [if_neg hn, if_neg fun z => hn (hin.mp z)]
          omega
      · show (if [] ∈ ps then _ else _) <= (if [] ∈ (0 :: q) :: ps then _ else _)
        rw [subP_same, subP_ne (by decide)]
        by_cases hn : ([] : List Int) ∈ ps
        · rw [if_pos hn, if_pos (hin.mpr hn)]
          omega
        · rw [if_neg hn, if_neg fun z => hn (hin.mp z)]
          omega
    · have hd : Dev b (q :: subP 1 ps) := by
        have h1 := nodup_subP (n := 1) h.nd
        have h2 := desc_subP (n := 1) h.desc
        rw [subP_same] at h1 h2
        refine ⟨fun r hr => ?_, h1, h2⟩
        rw [<- subP_same] at hr
        rcases spot_call.mp (h.sub _ (mem_subP.mp hr)) with ⟨e, _⟩ | ⟨r', e, h3⟩ | ⟨r', e, h3⟩
        · cases e
        · injection e with e _; exact absurd e (by decide)
        · cases e; exact h3
      obtain ⟨b', h1, h2, h3, h4, h5, h6⟩ := dev_step b q (subP 1 ps) hd
      have hin : ([] : List Int) ∈ (1 :: q) :: ps ↔ ([] : List Int) ∈ ps := by simp
      refine ⟨.call a b', ?_, ⟨fun r hr => ?_, hnd, hdesc⟩, ?_, ?_, ?_, fun _ => rfl⟩
      · have e : stepR (.call a b) (1 :: q) = (stepR b q).map (.call a ·) := by cases a <;> rfl
        rw [e, h1]
        rfl
      · rcases spot_call.mp (hps r hr) with ⟨e, hf⟩ | ⟨r', e, h7⟩ | ⟨r', e, h7⟩
        · exact spot_call.mpr (.inl ⟨e, hf⟩)
        · exact spot_call.mpr (.inr (.inl ⟨r', e, h7⟩))
        · exact spot_call.mpr (.inr (.inr ⟨r', e, h2.sub r' (mem_subP.mpr (by rw [<- e]; exact hr))⟩))
      · show (if [] ∈ ps then _ else _) = (if [] ∈ (1 :: q) :: ps then _ else _)
        rw [subP_same, subP_ne (by decide), h3]
        by_cases hn : ([] : List Int) ∈ ps
        · rw [if_pos hn, if_pos (hin.mpr hn)]
        · rw [if_neg hn, if_neg fun z => hn (hin.mp z)]
      · show (if [] ∈ ps then _ else _) <= (if [] ∈ (1 :: q) :: ps then _ else _)
        rw [subP_same, subP_ne (by decide)]
        by_cases hn : ([] : List Int) ∈ ps
        · rw [if_pos hn, if_pos (hin.mpr hn)]
          exact Nat.mul_le_mul_left _ h4
        · rw [if_neg hn, if_neg fun z => hn (hin.mp z)]
          omega
      · show (if [] ∈ ps then _ else _) <= (if [] ∈ (1 :: q) :: ps then _ else _)
        rw [subP_same, subP_ne (by decide)]
        by_cases hn : ([] : List Int) ∈ ps
        · rw [if_pos hn, if_pos (hin.mpr hn)]
          omega
        · rw [if_neg hn, if_neg fun z => hn (hin.mp z)]
          omega
where
  uz_le_nil : ∀ t : T W, uz t [] = t.size + 1
    | .name _ => rfl
    | .place _ => rfl
    | .form b => by show uz b [] + 1 = b.size + 1 + 1; rw [uz_le_nil b]
    | .call a b => by
      show (if ([] : List Int) ∈ [] then _ else uz a [] + uz b []) = a.size + b.size + 1 + 1
      rw [if_neg (by simp), uz_le_nil a, uz_le_nil b]
      omega
  ud_nil : ∀ t : T W, ud t [] = t.deep
    | .name _ => rfl
    | .place _ => rfl
    | .form b => by show ud b [] + 1 = b.deep + 1; rw [ud_nil b]
    | .call a b => by
      show (if ([] : List Int) ∈ [] then _ else max (ud a []) (ud b []) + 1) = max a.deep b.deep + 1
      rw [if_neg (by simp), ud_nil a, ud_nil b]
theorem step_none : ∀ (t : T W) (p : List Int), p ∉ t.spots -> stepR t p = none
  | .name _, p, _ => by cases p <;> rfl
  | .place _, p, _ => by cases p <;> rfl
  | .form b, [], _ => rfl
  | .form b, n :: p, h => by
    show (if n = 0 then (stepR b p).map T.form else none) = none
    split
    · rename_i e
      rw [step_none b p fun z => h (spot_form.mpr ⟨p, by rw [e], z⟩)]
      rfl
    · rfl
  | .call a b, [], h => by
    cases a with
    | form c => exact absurd (spot_call.mpr (.inl ⟨rfl, rfl⟩)) h
    | _ => rfl
  | .call a b, n :: p, h => by
    have e : stepR (.call a b) (n :: p) = if n = 0 then (stepR a p).map (.call · b) else if n = 1 then (stepR b p).map (.call a ·) else none := by
      cases a <;> rfl
    rw [e]
    split
    · rename_i e
      rw [step_none a p fun z => h (spot_call.mpr (.inr (.inl ⟨p, by rw [e], z⟩)))]
      rfl
    · split
      · rename_i e
        rw [step_none b p fun z => h (spot_call.mpr (.inr (.inr ⟨p, by rw [e], z⟩)))]
        rfl
      · rfl
theorem step_some {t : T W} {p : List Int} (h : p ∈ t.spots) : ∃ r, stepR t p = some r := by
  obtain ⟨t', e, _⟩ := dev_step t p [] ⟨fun q hq => by rw [List.mem_singleton.mp hq]; exact h, by simp, by simp⟩
  exact ⟨t', e⟩
theorem spots_nodup (t : T W) : t.spots.Nodup := (spots_sorted t).imp fun h e => by
  rw [e, lex_irrefl] at h
  cases h
theorem Dev.of_perm {t : T W} {ps qs : List (List Int)} (h : ∀ p ∈ ps, p ∈ t.spots) (nd : ps.Nodup) (pm : qs.Perm ps) (d : qs.Pairwise fun a b => b.length <= a.length) : Dev t qs /\ dv t qs = dv t ps :=
  ⟨⟨fun p hp => h p (pm.mem_iff.mp hp), pm.nodup_iff.mpr nd, d⟩, dv_congr t qs ps fun _ => pm.mem_iff⟩
def SmallD (m : Nat) (S : List (Fm W)) : Prop := ∀ f ∈ S, f.deepS <= m
theorem SmallD.cons {m : Nat} {f : Fm W} {S : List (Fm W)} (h : f.deepS <= m) (s : SmallD m S) : SmallD m (f :: S) := fun g hg => by
  rcases List.mem_cons.mp hg with e | e
  · rw [e]; exact h
  · exact s g e
theorem SmallD.tail {m : Nat} {f : Fm W} {S : List (Fm W)} (s : SmallD m (f :: S)) : SmallD m S := fun g hg => s g (List.mem_cons_of_mem _ hg)
theorem SmallD.head {m : Nat} {f : Fm W} {S : List (Fm W)} (s : SmallD m (f :: S)) : f.deepS <= m := s f List.mem_cons_self
theorem child_deep : ∀ (t : T W) (n : Int), (child t n).deep <= t.deep
  | .name _, _ => Nat.le_refl _
  | .place _, _ => Nat.le_refl _
  | .form b, _ => by show b.deep <= b.deep + 1; omega
  | .call a b, n => by
    show (if n = 0 then a else b).deep <= max a.deep b.deep + 1
    split <;> omega
theorem frame_deep : ∀ (t : T W) (n : Int), (frame t n).deepS <= t.deep
  | .name _, _ => Nat.zero_le _
  | .place _, _ => Nat.zero_le _
  | .form b, _ => Nat.zero_le _
  | .call a b, n => by
    show (if n = 0 then Fm.one b else Fm.other a).deepS <= max a.deep b.deep + 1
    split
    · show b.deep <= _; omega
    · show a.deep <= _; omega
theorem down_smallD {m : Nat} : ∀ (ps : List Int) (t : T W) (S : List (Fm W)) (u : T W) (S' : List (Fm W)), downT t ps S = some (u, S') -> t.deep <= m -> SmallD m S -> u.deep <= m /\ SmallD m S'
  | [], t, S, u, S', h, h1, h2 => by cases h; exact ⟨h1, h2⟩
  | n :: ps, t, S, u, S', h, h1, h2 => by
    unfold downT at h
    split at h
    · exact down_smallD ps _ _ u S' h (Nat.le_trans (child_deep t n) h1) (h2.cons (Nat.le_trans (frame_deep t n) h1))
    · cases h
theorem down_len : ∀ (ps : List Int) (t : T W) (S : List (Fm W)) (u : T W) (S' : List (Fm W)), downT t ps S = some (u, S') -> S'.length = S.length + ps.length
  | [], t, S, u, S', h => by cases h; rfl
  | n :: ps, t, S, u, S', h => by
    unfold downT at h
    split at h
    · rw [down_len ps _ _ u S' h]
      simp only [List.length_cons]
      omega
    · cases h
end
end NC
namespace NC
open PySem PySem.Spec PyProof.Rows L2
inductive FmAt (hA : Addr) (H : Hp) : V -> Fm Str -> Prop where
  | form {p : Addr} (h : H p = some (.tup [.str "form", .ref hA])) : FmAt hA H (.ref p) .form
  | one {p : Addr} {u : V} {t : Tm} (h : H p = some (.tup [.str "call", .ref hA, u])) (hu : TermAt H u t) : FmAt hA H (.ref p) (.one t)
  | other {p : Addr} {u : V} {t : Tm} (h : H p = some (.tup [.str "call", u, .ref hA])) (hu : TermAt H u t) : FmAt hA H (.ref p) (.other t)
theorem FmAt.mono {hA : Addr} {H H' : Hp} {v : V} {f : Fm Str} (h : FmAt hA H v f) (k : Tups H H') : FmAt hA H' v f := by
  cases h with
  | form h => exact .form (k _ _ h)
  | one h hu => exact .one (k _ _ h) (hu.mono k)
  | other h hu => exact .other (k _ _ h) (hu.mono k)
theorem fms_mono {hA : Addr} {H H' : Hp} {vs : List V} {S : List (Fm Str)} (h : Paired (FmAt hA H) vs S) (k : Tups H H') : Paired (FmAt hA H') vs S := paired_imp (fun _ _ q => q.mono k) h
def stMeths : List Str := ["leads_on", "go_down", "go_up", "go_to_top", "is_called", "go_on", "find_spot", "do_step", "copied", "same_as"]
structure StCls (K : PySem.W.Frag) (C : Addr) : Prop where
  cl : Cls K C
  nP : NoAttr K C "part"
  nA : NoAttr K C "above"
structure HoleK (K : PySem.W.Frag) (mg : Str -> Option Value) (hA : Addr) : Prop where
  m : mg "HOLE" = some (.ref hA)
  q : ∀ H : Hp, SqT K H hA [.str "hole"]
structure StO (C x ab : Addr) (dx : Addr) (fs : List (Str × V)) (pv : V) (H : Hp) : Prop where
  ins : H x = some (.ins C dx fs)
  part : fs.lookup ("part" : Str) = some pv
  above : fs.lookup ("above" : Str) = some (.ref ab)
  meth : ∀ m ∈ stMeths, fs.lookup m = none
  few : fs.length < 900
inductive StAtI (C x ab hA : Addr) (t : Tm) (S : List (Fm Str)) (H : Hp) : Prop where
  | mk (dx : _) (fs : _) (pv : _) (vs : _) (c1 : StO C x ab dx fs pv H) (c2 : TermAt H pv t) (c3 : H ab = some (.lst vs)) (c4 : Paired (FmAt hA H) vs S.reverse)
def StAt (C x ab hA : Addr) (t : Tm) (S : List (Fm Str)) (H : Hp) : Prop := StAtI C x ab hA t S H
theorem StO.keep {C x ab dx : Addr} {fs : List (Str × V)} {pv : V} {H H' : Hp} (h : StO C x ab dx fs pv H) (e : H' x = H x) : StO C x ab dx fs pv H' := ⟨e.trans h.ins, h.part, h.above, h.meth, h.few⟩
theorem StO.ne {C x ab dx : Addr} {fs : List (Str × V)} {pv : V} {H : Hp} {vs : List V} (h : StO C x ab dx fs pv H) (hb : H ab = some (.lst vs)) : ab ≠ x := fun z => by
  have := h.ins
  rw [<- z, hb] at this
  cases this
theorem putF_len (f : Str) (v : V) : ∀ (fs : List (Str × V)) (x : V), fs.lookup f = some x -> (putF f v fs).length = fs.length
  | [], x, h => by cases h
  | (g, y) :: r, x, h => by
    unfold putF
    split
    · rfl
    · rename_i hne
      rw [List.lookup_cons] at h
      have : (f == g) = false := by simpa using fun z => hne z.symm
      rw [this] at h
      show (putF f v r).length + 1 = r.length + 1
      rw [putF_len f v r x h]
theorem tups_updI {H : Hp} {x C dx : Addr} {fs fs' : List (Str × V)} (h : H x = some (.ins C dx fs)) : Tups H (upd H x (.ins C dx fs')) := fun b xs e => by
  rw [upd_ne fun z => by rw [z, h] at e; cases e]
  exact e
theorem StO.set {C x ab dx : Addr} {fs : List (Str × V)} {pv : V} {H : Hp} (h : StO C x ab dx fs pv H) (v : V) : StO C x ab dx (putF ("part" : Str) v fs) v (upd H x (.ins C dx (putF ("part" : Str) v fs))) := by
  refine ⟨upd_same, ?_, ?_, fun m hm => ?_, ?_⟩
  · rw [lookup_putF, if_pos rfl]
  · rw [lookup_putF, if_neg (by decide +kernel)]; exact h.above
  · rw [lookup_putF, if_neg ?_]
    · exact h.meth m hm
    · intro z
      rw [z] at hm
      exact absurd hm (by decide +kernel)
  · rw [putF_len _ _ _ _ h.part]; exact h.few
theorem StAt.set {C x ab hA dx : Addr} {fs : List (Str × V)} {pv v : V} {H : Hp} {vs : List V} {S : List (Fm Str)} {t : Tm} (h : StO C x ab dx fs pv H) (hb : H ab = some (.lst vs)) (hp : Paired (FmAt hA H) vs S.reverse) (ht : TermAt H v t) :
    StAt C x ab hA t S (upd H x (.ins C dx (putF ("part" : Str) v fs))) /\ Keep [x] H (upd H x (.ins C dx (putF ("part" : Str) v fs))) :=
  ⟨⟨dx, _, v, vs, h.set v, ht.mono (tups_updI h.ins), by rw [upd_ne (h.ne hb)]; exact hb, fms_mono hp (tups_updI h.ins)⟩, fun b o nb e => by rw [upd_ne fun z => nb (by simp [z])]; exact e⟩
theorem StAt.same {C x ab hA : Addr} {t : Tm} {S : List (Fm Str)} {H H' : Hp} (h : StAt C x ab hA t S H) (s : Same H H') : StAt C x ab hA t S H' := by
  obtain ⟨dx, fs, pv, vs, h1, h2, h3, h4⟩ := h
  exact ⟨dx, fs, pv, vs, ⟨s _ _ h1.ins, h1.part, h1.above, h1.meth, h1.few⟩, h2.same s, s _ _ h3, fms_mono h4 (.of_same s)⟩
theorem StAt.sx {C x ab hA : Addr} {t : Tm} {S : List (Fm Str)} {H H' : Hp} (h : StAt C x ab hA t S H) (s : SameX H H') : StAt C x ab hA t S H' := by
  obtain ⟨dx, fs, pv, vs, h1, h2, h3, h4⟩ := h
  have tu : Tups H H' := s.tups
  exact ⟨dx, fs, pv, vs, ⟨s _ _ (fun _ z => by cases z) h1.ins, h1.part, h1.above, h1.meth, h1.few⟩, h2.mono tu, s _ _ (fun _ z => by cases z) h3, fms_mono h4 tu⟩
theorem atI_last {α : Type} (xs : List α) (y : α) : atI (xs ++ [y]) (-1) = some y := by
  unfold atI ixN
  rw [if_neg (by decide), if_pos (by rw [List.length_append]; simp only [List.length_cons, List.length_nil]; omega)]
  show (xs ++ [y])[(-1 + ((xs ++ [y]).length : Int)).toNat]? = some y
  rw [show (-1 + ((xs ++ [y]).length : Int)).toNat = xs.length from by rw [List.length_append]; simp only [List.length_cons, List.length_nil]; omega]
  simp
theorem hole_ne (t : Tm) : termD t ≠ .tup [.str "hole"] := by
  cases t <;> (intro z; cases z)
theorem hole_dat {K : PySem.W.Frag} {mg : Str -> Option Value} {hA : Addr} (h : HoleK K mg hA) (H : Hp) : DAt K H (.tup [.str "hole"]) (.ref hA) := ⟨hA, _, rfl, h.q H, _, _, rfl, rfl, rfl⟩
end NC
namespace NC
open PySem PySem.Spec PyProof.Rows L2
theorem to_keep {L : Tabs} {H H' : Hp} {x ab C dx : Addr} {fs : List (Str × V)} {vs : List V} (t : TO L H) (hx : H x = some (.ins C dx fs)) (hb : H ab = some (.lst vs)) (k : Keep [x, ab] H H') : TO L H' := fun z hz => by
  have n : ∀ b o, H b = some o -> (∀ c d f, o ≠ .ins c d f) -> (∀ l, o ≠ .lst l) -> H' b = some o := fun b o e m1 m2 => by
    refine k b o (fun q => ?_) e
    rcases List.mem_cons.mp q with q | q
    · rw [q, hx] at e; cases e; exact m1 _ _ _ rfl
    · rw [List.mem_singleton.mp q, hb] at e; cases e; exact m2 _ rfl
  rcases t z hz with a | ⟨c, a, b⟩
  · exact .inl (n _ _ a (fun _ _ _ z => by cases z) fun _ z => by cases z)
  · exact .inr ⟨c, n _ _ a (fun _ _ _ z => by cases z) (fun _ z => by cases z), n _ _ b (fun _ _ _ z => by cases z) fun _ z => by cases z⟩
theorem ka_keep {A : List Addr} {H H' : Hp} (k : Keep A H H') : KA A H H' := fun b o nb _ e => k b o nb e
end NC
namespace NC
open PySem PySem.Spec PyProof.Rows L2
def compCxC (X : Cx) (N : List Str) (scope : Scope) (cl : List (Str × Addr)) (C : Addr) (s : Shared) (H : Hp) : Cx where
  prog := X.prog
  w := X.w
  K := X.K
  mg := X.mg
  base := X.base
  A := X.A
  N := N
  s₀ := s
  H₀ := H
  env := compEnvC scope cl C X.env
  outer := X.stack
  stack := X.stack
  ex := []
  calm := X.calm
  fn := fun _ => false
  pn := []
  xe := fun _ _ => False
structure CompScopeC (N fs : List Str) (sc : Scope) : Prop where
  kind : sc.kind = .function
  nd : (N ++ fs).Nodup
  nocell : ∀ y ∈ sc.names, y.2 ≠ .cell
  loc : ∀ y ∈ sc.names, y.2 = .local -> sc.names.lookup y.1 = some .local
  fre : ∀ x ∈ fs, sc.names.lookup x = some .free
  all : ∀ y ∈ sc.names, y.2 = .free -> y.1 ∈ fs
theorem look_map (f : Str -> NameKind -> NameKind) : ∀ (l : List (Str × NameKind)) (x : Str) (k : NameKind), (l.map fun p => (p.1, f p.1 p.2)).lookup x = some k -> ∃ k', l.lookup x = some k' /\ f x k' = k
  | [], _, _, h => by cases h
  | (n, k0) :: r, x, k, h => by
    rw [List.map_cons] at h
    cases hx : x == n with
    | true =>
      simp only [List.lookup_cons, hx] at h ⊢
      have e : x = n := by simpa using hx
      subst e
      exact ⟨k0, rfl, Option.some.inj h⟩
    | false =>
      simp only [List.lookup_cons, hx] at h ⊢
      exact look_map f r x k h
theorem look_map' (f : Str -> NameKind -> NameKind) : ∀ (l : List (Str × NameKind)) (x : Str) (k : NameKind), l.lookup x = some k -> (l.map fun p => (p.1, f p.1 p.2)).lookup x = some (f x k)
  | [], _, _, h => by cases h
  | (n, k0) :: r, x, k, h => by
    rw [List.map_cons]
    cases hx : x == n with
    | true =>
      simp only [List.lookup_cons, hx] at h ⊢
      have e : x = n := by simpa using hx
      subst e
      cases h
      rfl
    | false =>
      simp only [List.lookup_cons, hx] at h ⊢
      exact look_map' f r x k h
def relK (env : Env) (n : Str) (k : NameKind) : NameKind := if (k == .free && env.scope.kind == .function && env.kindOf n == some .cell) = true then .cell else k
theorem relabel_names (scope : Scope) (env : Env) : (relabel scope env).names = scope.names.map fun p => (p.1, relK env p.1 p.2) := by
  unfold relabel relK
  apply List.map_congr_left
  rintro ⟨n, k⟩ _
  show (if (k == .free && env.scope.kind == .function && env.kindOf n == some .cell) = true then (n, NameKind.cell) else (n, k)) = _
  split <;> rfl
theorem relK_free {env : Env} {n : Str} : relK env n .free = .cell ∨ relK env n .free = .free := by
  unfold relK
  split
  · exact .inl rfl
  · exact .inr rfl
theorem relK_not {env : Env} {n : Str} {k : NameKind} (h : k ≠ .free) : relK env n k = k := by
  unfold relK
  rw [if_neg]
  intro z
  simp only [Bool.and_eq_true] at z
  exact h (by simpa using z.1.1)
structure CompClos (X : Cx) (fs : List Str) (cl : List (Str × Addr)) : Prop where
  at_ : ∀ x c, cl.lookup x = some c -> X.env.cells.lookup x = some c
  has : ∀ x ∈ fs, ∃ c, cl.lookup x = some c
  only : ∀ x c, cl.lookup x = some c -> x ∈ fs
  kd : ∀ x ∈ fs, X.env.kindOf x ≠ some .local
theorem compC_ok {X : Cx} {pins : List (Addr × Obj)} {σ : L2.St} {H : Hp} {s : Shared} {N fs : List Str} {scope : Scope} {cl : List (Str × Addr)} {C : Addr} (I : Inv X pins σ H s) (S : CompScopeC N fs scope) (L : CompClos X fs cl) (hC : s.heap.objs.size <= C) : (compCxC X (N ++ fs) scope cl C s H).Ok where
  mod := I.ok.mod
  kind := S.kind
  glob := I.ok.glob
  blt := I.ok.blt
  above := hC
  inj := fun x y c h1 h2 => I.ok.inj x y c (L.at_ _ _ h1) (L.at_ _ _ h2)
  has := fun x h => by
    have q : ∃ k, (relabel scope X.env).names.lookup x = some k /\ (k = .cell ∨ k = .free) := by
      rcases h with h | h
      · exact ⟨_, h, .inl rfl⟩
      · exact ⟨_, h, .inr rfl⟩
    obtain ⟨k, hk, hkk⟩ := q
    rw [relabel_names] at hk
    obtain ⟨k', h1, h2⟩ := look_map _ _ _ _ hk
    have hm := PySem.mem_of_lookup h1
    by_cases hf : k' = .free
    · rw [hf] at hm
      exact L.has x (S.all _ hm rfl)
    · rw [relK_not hf] at h2
      rcases hkk with e | e
      · exact absurd (h2.trans e) (S.nocell _ hm)
      · exact absurd (h2.trans e) hf
  cab := fun x c h _ => by cases h
  hd := I.ok.hd
  frames := I.ok.frames
  stk := .inl rfl
  exf := fun b hb => nomatch hb
  bs := I.bs
  bsz := Nat.le_trans I.ok.bsz I.sz
  noex := fun _ _ _ hb => nomatch hb
  exfs := fun b hb => nomatch hb
  funs := I.stack
  frf := I.stkFree
def tCompC (K : PySem.W.Frag) (n : Nat) (js : List Nat) (ti : TE) (tg : Addr -> Shared -> Hp -> TG) (tt : Addr -> Shared -> Hp -> TT) (te : Addr -> Shared -> Hp -> TE) : TE := fun σ H Q => ti σ H fun x H1 => ∃ a xs, x = .ref a /\ SqL K H1 a xs /\ ∀ D, H1 D = none -> ∃ W : Nat -> L2.St -> Hp -> Prop, W 0 (List.replicate n none ++ js.map fun j => (σ[j]?).getD none) (upd H1 D (.lst [])) /\
  (∀ i σ' H', i <= xs.length -> W i σ' H' -> SqL K H' a xs) /\
  (∀ C s0 H0 i x σ' H', xs[i]? = some x -> W i σ' H' -> tg C s0 H0 x σ' H' fun σ2 H2 => tt C s0 H0 σ2 H2 fun b H3 => if b = true then te C s0 H0 σ2 H3 fun y H4 => ∃ ys, H4 D = some (.lst ys) /\ ys.length < sizeLine /\ W (i + 1) σ2 (upd H4 D (.lst (ys ++ [y]))) else W (i + 1) σ2 H3) /\
  ∀ σ' H', W xs.length σ' H' -> Q (.ref D) H'
theorem pe_compC {X : Cx} {elt target iter : Expr} {ifs : List Expr} {scope : Scope} {pos : Pos} {N fs : List Str} {js : List Nat} {cl : List (Str × Addr)} {ti : TE} {te : Addr -> Shared -> Hp -> TE} {tg : Addr -> Shared -> Hp -> TG} {tt : Addr -> Shared -> Hp -> TT} (hc : X.calm = true) (S : CompScopeC N fs scope) (hclos : closureFor scope X.env = pure cl) (L : CompClos X fs cl)
    (hjs : js.map (fun j => X.N[j]?) = fs.map some) (hvis : ∀ x ∈ fs, Vis X.env.scope x) (hi : PE X iter ti)
    (hb : ∀ C s H, PG (compCxC X (N ++ fs) scope cl C s H) target (tg C s H) /\ PF (compCxC X (N ++ fs) scope cl C s H) ifs (tt C s H) /\ PE (compCxC X (N ++ fs) scope cl C s H) elt (te C s H)) (hs : ∀ x, foldedSetIterable iter X.env x = pure x := by intro _; rfl) :
    PE X (.ListComp elt [⟨target, iter, ifs, 0⟩] scope pos) (tCompC X.K N.length js ti tg tt te) := by
  intro pins s σ H Q I h
  rw [eval_ListComp]
  refine wpAny_comprehension_free (use := none) rfl hs hclos S.kind S.loc (thn (hi pins s σ H _ I h) fun xv s1 ⟨x, H1, I1, r1, a, xs, e, hq, q⟩ => ?_)
  subst e
  cases (show xv = Value.ref a from r1)
  obtain ⟨its, rv, p, hz⟩ := I1.list hq
  refine wpAny_pyIter_list p.isList (wpAny_newObj_type (hd := by size_fits) (wpAny_newFunctionEnv S.nocell (by intro y hy; simp at hy) (fun h1 hns hsb => ?_) S.kind))
  dsimp only at hns hsb ⊢
  generalize hH1 : s1.heap.push { cls := .type "list_iterator", data := .fields #[.ref a, .int 0 0] } = G1 at hns hsb ⊢
  have hD : G1.objs.size = s1.heap.objs.size + 1 := by rw [<- hH1, Heap.size_push]
  generalize hH2 : G1.push { cls := .type "list", dict := none, data := .seq ([] : List Value).toArray } = G2 at hns hsb ⊢
  have hC : G2.objs.size = s1.heap.objs.size + 2 := by rw [<- hH2, Heap.size_push, hD]
  have old2 : ∀ b o, G2.get? b = some o -> h1.get? b = some o := fun b o e => hsb.extBut b o (Nat.ne_of_lt (Heap.lt_size e)) (Heap.get?_push_of_some _ e)
  have old : ∀ b o, s1.heap.get? b = some o -> h1.get? b = some o := fun b o e => old2 b o (hH2 ▸ Heap.get?_push_of_some _ (hH1 ▸ Heap.get?_push_of_some _ e))
  have hit : h1.IsListIter s1.heap.objs.size a 0 := ⟨_, old2 _ _ (hH2 ▸ Heap.get?_push_of_some _ (hH1 ▸ Heap.get?_push_size _ rfl)), rfl, rfl⟩
  have hacc : h1.get? G1.objs.size = some { cls := .type "list", dict := none, data := .seq ([] : List Value).toArray } := old2 _ _ (hH2 ▸ Heap.get?_push_size _ rfl)
  have nD : H1 G1.objs.size = none := I1.hok.fresh (by rw [hD]; exact Nat.le_succ _)
  have nIt : H1 s1.heap.objs.size = none := I1.hok.fresh (Nat.le_refl _)
  have nC : H1 G2.objs.size = none := I1.hok.fresh (by rw [hC]; exact Nat.le_add_right _ _)
  obtain ⟨W, w0, wl, ws, wd⟩ := q G1.objs.size nD
  have itD : s1.heap.objs.size ≠ G1.objs.size := by rw [hD]; exact Nat.ne_of_lt (Nat.lt_succ_self _)
  have CD : G2.objs.size ≠ G1.objs.size := by rw [hC, hD]; exact Nat.ne_of_gt (Nat.lt_succ_self _)
  have itC : s1.heap.objs.size ≠ G2.objs.size := by rw [hC]; exact Nat.ne_of_lt (Nat.lt_succ_of_lt (Nat.lt_succ_self _))
  have J0 : Inv (compCxC X (N ++ fs) scope cl G2.objs.size s1 H1) [] (List.replicate N.length none ++ js.map fun j => (σ[j]?).getD none) (upd H1 G1.objs.size (.lst [])) { s1 with heap := h1, toks := s1.toks + ([] : List (Str × Value)).length } := by
    refine ⟨compC_ok I1 S L (by rw [hC]; exact Nat.le_add_right _ _), rfl, I1.bare, Un.laid old (by rw [hD]; exact Nat.le_succ _) nD, ⟨_, hns, fun i x v e1 e2 hv => ?_⟩, fun x c e => ?_, ?_, fun x c e => ?_, (fun p hp => nomatch hp), I1.hok.laid (a := G1.objs.size) (o := .lst []) old (by rw [hD]; exact Nat.le_succ _) ⟨Nat.zero_le _, [], _, .nil, hacc⟩, ?_⟩
    · have e1 : (N ++ fs)[i]? = some x := e1
      by_cases hi : i < N.length
      · rw [List.getElem?_append_left (by rw [List.length_replicate]; exact hi), List.getElem?_replicate] at e2
        split at e2 <;> cases e2
      · rw [List.getElem?_append_right (by rw [List.length_replicate]; omega), List.length_replicate, List.getElem?_map] at e2
        rw [List.getElem?_append_right (by omega)] at e1
        cases hj : js[i - N.length]? with
        | none => rw [hj] at e2; cases e2
        | some j =>
          rw [hj] at e2
          have e2 : (σ[j]?).getD none = some v := Option.some.inj e2
          have hx : x ∈ fs := List.mem_of_getElem? e1
          have hNj : X.N[j]? = some x := by
            have z : (js.map fun j => X.N[j]?)[i - N.length]? = some (X.N[j]?) := by rw [List.getElem?_map, hj]; rfl
            rw [hjs, List.getElem?_map, e1] at z
            exact (Option.some.inj z).symm
          have hσ : σ[j]? = some (some v) := by
            cases hq : σ[j]? with
            | none => rw [hq] at e2; cases e2
            | some o => rw [hq] at e2; exact congrArg some e2
          obtain ⟨m, _, lk⟩ := I1.loc
          obtain ⟨u, ru, l⟩ := lk j x v hNj hσ (hvis x hx)
          refine ⟨u, ru, ?_⟩
          rcases l with ⟨z, _⟩ | ⟨_, c, hcc, hcell⟩
          · exact absurd z (L.kd x hx)
          · obtain ⟨c', hc'⟩ := L.has x hx
            have e : c' = c := Option.some.inj ((L.at_ _ _ hc').symm.trans hcc)
            subst e
            have hk : (relabel scope X.env).names.lookup x = some (relK X.env x .free) := by
              rw [relabel_names]
              exact look_map' _ _ _ _ (S.fre x hx)
            refine .inr ⟨?_, c', hc', ?_⟩
            · rcases relK_free (env := X.env) (n := x) with z | z
              · exact .inl (hk.trans (congrArg some z))
              · exact .inr (hk.trans (congrArg some z))
            · obtain ⟨o, ho, r⟩ := hcell
              exact ⟨o, old _ _ ho, r⟩
    · obtain ⟨v, o, ho, r⟩ := I1.cell x c (L.at_ x c e)
      exact ⟨v, o, old _ _ ho, r⟩
    · show upd H1 G1.objs.size _ G2.objs.size = none
      rw [upd_ne CD]; exact nC
    · obtain ⟨v, o, ho, r⟩ := I1.cell x c (L.at_ x c e)
      show upd H1 G1.objs.size _ c = none
      rw [upd_ne fun z => by
        have := Heap.lt_size ho
        rw [z, hD] at this
        exact absurd this (Nat.not_lt.mpr (Nat.le_succ _))]
      exact I1.freeC x c (L.at_ x c e)
    · show (List.replicate N.length none ++ js.map fun j => (σ[j]?).getD none).length = (N ++ fs).length
      have := congrArg List.length hjs
      rw [List.length_map, List.length_map] at this
      rw [List.length_append, List.length_append, List.length_replicate, List.length_map, this]
  have T := turn_list (P := X.prog) (w := X.w) (K := X.K) (tg := target) a s1.heap.objs.size
  have fpk : ∀ {H' : Hp}, H' s1.heap.objs.size = none -> ∀ b ∈ [s1.heap.objs.size], FpOk (compCxC X (N ++ fs) scope cl G2.objs.size s1 H1) [] H' b := fun hn b hb => by
    rw [List.mem_singleton.mp hb]
    exact ⟨hn, itC, fun z => (by obtain ⟨_, o, ho, _⟩ := I1.stack.mem z; exact absurd (Heap.lt_size ho) (Nat.lt_irrefl _)), .inr (Nat.le_refl _), fun x c e => (by obtain ⟨v, o, ho, r⟩ := I1.cell x c (L.at_ x c e); exact Nat.ne_of_lt (Heap.lt_size ho)), (fun p hp => nomatch hp)⟩
  -- the loop
  have loop : ∀ s2 : Shared, Inv (compCxC X (N ++ fs) scope cl G2.objs.size s1 H1) [] (List.replicate N.length none ++ js.map fun j => (σ[j]?).getD none) (upd H1 G1.objs.size (.lst [])) s2 -> s2.heap.IsListIter s1.heap.objs.size a 0 ->
      codeAny (model X.prog X.w) X.A (.compLoop (.ListComp elt [⟨target, iter, ifs, 0⟩] scope pos) 0 (.ref s1.heap.objs.size) (.ref G1.objs.size) (compEnvC scope cl G2.objs.size X.env))
        (compPost (model X.prog X.w) X.A X.xe none (EP X pins σ Q) (.ref G1.objs.size) G2.objs.size) s2 := by
    intro s2 J2 st2
    refine compLoop_any (fun n s' => ∃ i σ' H', n = xs.length - i /\ i <= xs.length /\ Inv (compCxC X (N ++ fs) scope cl G2.objs.size s1 H1) [] σ' H' s' /\ s'.heap.IsListIter s1.heap.objs.size a i /\ H' s1.heap.objs.size = none /\ W i σ' H') ?_ xs.length ⟨0, _, _, rfl, Nat.zero_le _, J2, st2, by rw [upd_ne itD]; exact nIt, w0⟩
    rintro n s3 ⟨i, σ3, H3, rfl, hil, J3, st3, fr3, w3⟩
    have hsq := wl i σ3 H3 hil w3
    by_cases hlt : i < xs.length
    · have hx : xs[i]? = some xs[i] := List.getElem?_eq_getElem hlt
      refine thn (T.item (compCxC X (N ++ fs) scope cl G2.objs.size s1 H1) rfl rfl rfl hc i [] s3 σ3 H3 _ J3 (fpk fr3) st3 ⟨xs, _, hsq, hx⟩) fun r s4 ⟨u, hr, h4⟩ => ?_
      subst hr
      refine thn h4 fun _ s5 ⟨x, H5, J5, r5, ⟨e5, y5⟩, st5, fr5⟩ => ?_
      subst e5
      have ex := y5 xs hsq
      have J5' := J5.pinned (fpk (fr5 _ (by simp))) (T.obj _ _ st5)
      obtain ⟨hg, ht, hel⟩ := hb G2.objs.size s1 H1
      have back : ∀ {σ7 : L2.St} {H7 : Hp} {s7 : Shared}, Inv (compCxC X (N ++ fs) scope cl G2.objs.size s1 H1) ([] ++ pinsAt [s1.heap.objs.size] s5.heap) σ7 H7 s7 -> W (i + 1) σ7 H7 ->
          ∃ m, m < xs.length - i /\ ∃ i σ' H', m = xs.length - i /\ i <= xs.length /\ Inv (compCxC X (N ++ fs) scope cl G2.objs.size s1 H1) [] σ' H' s7 /\ s7.heap.IsListIter s1.heap.objs.size a i /\ H' s1.heap.objs.size = none /\ W i σ' H' := fun {σ7 H7 s7} J7 w7 => by
        refine ⟨xs.length - (i + 1), by omega, i + 1, σ7, H7, rfl, hlt, J7.unpinned, T.keep _ _ _ st5 fun b hb o e => (J7.pin (b, o) (List.mem_append_right _ (List.mem_append_right _ (mem_pinsAt hb e)))).1, ?_, w7⟩
        obtain ⟨o, e, d⟩ := T.obj _ _ st5 _ (List.mem_singleton.mpr rfl)
        exact (J7.pin (_, o) (List.mem_append_right _ (List.mem_append_right _ (mem_pinsAt (List.mem_singleton.mpr rfl) e)))).2.1
      refine thn (hg _ s5 σ3 H5 x u _ J5' r5 (ws G2.objs.size s1 H1 i x σ3 H5 ex w3)) fun _ s6 ⟨σ6, H6, J6, q6⟩ => ?_
      refine thn (ht _ s6 σ6 H6 _ J6 q6) fun ok s7 ⟨H7, J7, q7⟩ => ?_
      cases ok with
      | false => exact back J7 q7
      | true =>
        refine thn (hel _ s7 σ6 H7 _ J7 q7) fun y s8 ⟨yv, H8, J8, ry, ys, hys, hyl, w8⟩ => ?_
        refine thn (mt_append (X := compCxC X (N ++ fs) scope cl G2.objs.size s1 H1) _ s8 σ6 H8 (.ref G1.objs.size) [yv] (.ref G1.objs.size) [y] (fun _ H9 => W (i + 1) σ6 H9) J8 rfl (.cons ry .nil) ⟨_, ys, yv, rfl, rfl, hys, hyl, w8⟩) fun z s9 ⟨_, H9, J9, _, w9⟩ => ?_
        exact back J9 w9
    · have hie : i = xs.length := by omega
      subst hie
      refine thn (T.done (compCxC X (N ++ fs) scope cl G2.objs.size s1 H1) rfl rfl rfl hc xs.length [] s3 σ3 H3 _ J3 (fpk fr3) st3 ⟨xs, hsq, Nat.le_refl _⟩) fun r s4 ⟨hr, J4⟩ => ?_
      subst hr
      obtain ⟨m, hm, _⟩ := J4.loc
      show ∃ m, Heap.Ns _ _ m /\ _
      refine ⟨m, hm, fun h' sb => ?_⟩
      have neC : ∀ b o, s1.heap.get? b = some o -> b ≠ G2.objs.size := fun b o e => Nat.ne_of_lt (Nat.lt_of_lt_of_le (Heap.lt_size e) (by rw [hC]; exact Nat.le_add_right _ _))
      have un := J4.base
      have trC : ∀ b v, H3 b = some v -> b ≠ G2.objs.size := fun b v e z => by
        have := J4.free
        rw [z] at e
        rw [show H3 G2.objs.size = none from this] at e
        cases e
      refine ⟨.ref G1.objs.size, H3, I1.call' (s' := { s4 with heap := h' }) (ch := []) J4.os ⟨fun b o e n hb hx => (sb.2 b (neC b o e)).trans (un.keep b o e n hb hx), fun b o e n hb hx => ?_, un.free, fun b o e hx => ?_, un.tups, un.frzs, un.tbls⟩ (fun b v e => ?_) J4.bare (fun b z => nomatch z), rfl, wd σ3 H3 w3⟩
      · obtain ⟨sl, q⟩ := un.slot b o e n hb hx
        exact ⟨sl, (sb.2 b (neC b o e)).trans q⟩
      · obtain ⟨o', q⟩ := un.there b o e hx
        exact ⟨o', (sb.2 b (neC b o e)).trans q⟩
      · refine (J4.hok b v e).stay (fun c u hc q => (sb.2 c ?_).trans q) (fun _ q => q) fun _ _ q => q
        rcases hc with rfl | hc
        · exact trC _ _ e
        · exact trC _ _ hc
  exact codeAny_compStart_list (loop _ J0 hit) (wpAny_pyIter_listiter hit (loop _ J0 hit))
end NC
namespace NC
open PySem PySem.Spec PyProof.Rows L2
end NC
namespace NC
open PySem PySem.Spec PyProof.Rows L2
theorem perm_lift {α β : Type} {f : α -> β} {l m : List β} (h : l.Perm m) : ∀ {Z : List α}, Z.map f = m -> ∃ Z' : List α, Z'.Perm Z /\ l = Z'.map f := by
  induction h with
  | nil =>
    intro Z e
    cases Z with
    | nil => exact ⟨[], .nil, rfl⟩
    | cons z Z => cases e
  | cons x _ ih =>
    intro Z e
    cases Z with
    | nil => cases e
    | cons z Z =>
      injection e with e1 e2
      obtain ⟨Z', p, q⟩ := ih e2
      exact ⟨z :: Z', p.cons z, by rw [List.map_cons, e1, q]⟩
  | swap x y l =>
    intro Z e
    cases Z with
    | nil => cases e
    | cons a Z =>
      cases Z with
      | nil => cases e
      | cons b Z =>
        injection e with e1 e
        injection e with e2 e3
        exact ⟨b :: a :: Z, .swap _ _ _, by rw [List.map_cons, List.map_cons, e1, e2, e3]⟩
  | trans _ _ ih1 ih2 =>
    intro Z e
    obtain ⟨Z2, p2, q2⟩ := ih2 e
    obtain ⟨Z1, p1, q1⟩ := ih1 q2.symm
    exact ⟨Z1, p1.trans p2, q1⟩
theorem zip3 {α β γ : Type} {R : α -> β -> Prop} {S : α -> γ -> Prop} {vs : List α} {us : List β} (h : Paired R vs us) : ∀ {ps : List γ}, Paired S vs ps -> ∃ Z : List (α × β × γ), Z.map (·.1) = vs /\ Z.map (·.2.1) = us /\ Z.map (·.2.2) = ps /\ ∀ z ∈ Z, R z.1 z.2.1 /\ S z.1 z.2.2 := by
  induction h with
  | nil =>
    intro ps h2
    cases h2
    exact ⟨[], rfl, rfl, rfl, fun z hz => nomatch hz⟩
  | @cons x u xs us hx _ ih =>
    intro ps h2
    cases h2 with
    | @cons _ p _ ps hp h2 =>
      obtain ⟨Z, e1, e2, e3, hz⟩ := ih h2
      refine ⟨(x, u, p) :: Z, by rw [List.map_cons, e1], by rw [List.map_cons, e2], by rw [List.map_cons, e3], fun z h => ?_⟩
      rcases List.mem_cons.mp h with rfl | h
      · exact ⟨hx, hp⟩
      · exact hz z h
theorem paired_map {α β γ : Type} {R : β -> γ -> Prop} {f : α -> β} {g : α -> γ} : ∀ {Z : List α}, (∀ z ∈ Z, R (f z) (g z)) -> Paired R (Z.map f) (Z.map g)
  | [], _ => .nil
  | z :: Z, h => .cons (h z List.mem_cons_self) (paired_map fun y hy => h y (List.mem_cons_of_mem _ hy))
section
variable {X : Cx}
inductive RSortLI (K : PySem.W.Frag) (xs : List V) (H : Hp) (Q : VK) : Prop where
  | mk (a : _) (vs : _) (ps : List (List Int)) (c1 : xs = [.ref a]) (c2 : SqL K H a vs) (c3 : vs.length < 64) (c4 : Paired (PathV H) vs ps) (c5 : ∀ vs' ps' l H', ps'.Perm ps -> ps'.Pairwise (fun a b => b.length <= a.length) -> Paired (PathV H) vs' ps' -> H l = none -> Same H H' -> H' l = some (.lst vs') -> Q (.ref l) H')
def rSortL (K : PySem.W.Frag) : List V -> Hp -> VK -> Prop := fun xs H Q => RSortLI K xs H Q
theorem sortL_run {pins : List (Addr × Obj)} {s : Shared} {σ : L2.St} {H : Hp} {xs : List V} {us : List Value} {Q : VK} (I : Inv X pins σ H s) (r : Vals xs us) (h : rSortL X.K xs H Q) :
    wpAny (model X.prog X.w) X.A (call (.builtin "sorted") us [(("key" : Str), .builtin "len"), (("reverse" : Str), .bool true)]) (EP X pins σ Q) X.xe s := by
  obtain ⟨a, vs, ps, rfl, hq, hlen, hp, k⟩ := h
  obtain ⟨u, rfl, ru⟩ := vals1 r
  cases (show u = Value.ref a from ru)
  obtain ⟨its, rv, pl, hz⟩ := I.list hq
  have hl := pl.isList
  have hn : its.length = ps.length := by rw [<- rv.length]; exact Paired.length hp
  obtain ⟨m, F⟩ := I.fr
  have items : ∀ (i : Nat) (v : Value), its[i]? = some v -> ∃ b, ∃ xs : List Value, ∃ p n, v = .ref b /\ ps[i]? = some p /\ xs.length = p.length /\ p.length <= sizeLine /\ s.heap.get? b = some { cls := .type "list", data := .seq xs.toArray n } /\ b ≠ X.env.locals /\ X.base.get? b = none := by
    intro i v e
    have hi : i < vs.length := by rw [rv.length]; exact (List.getElem?_eq_some_iff.mp e).1
    obtain ⟨p, ep, b, eb, hb⟩ := paired_get hp (show vs[i]? = some vs[i] by simp [hi])
    obtain ⟨v', ev, rl⟩ := rv.get (show vs[i]? = some vs[i] by simp [hi])
    rw [e] at ev
    cases ev
    rw [eb] at rl
    cases (show v = Value.ref b from rl)
    obtain ⟨hsz, xs, n, r1, e1⟩ := (show ObjOk X.prog X.w H s.heap b (.lst (p.map V.int)) from I.hok b _ hb)
    rw [List.length_map] at hsz
    refine ⟨b, xs, p, n, rfl, ep, by rw [<- r1.length, List.length_map], hsz, e1, ?_, ?_⟩
    · intro z; rw [z, I.free] at hb; cases hb
    · cases q : X.base.get? b with
      | none => rfl
      | some o => rw [(I.bs b o q).2] at hb; cases hb
  refine ksk_sorted (kz := ps.map fun p => (p.length : Int)) (f := .builtin "len") (b := true) F news_all hl (by rw [List.length_map, hn]) (by rw [<- rv.length]; exact hlen) ?_ ?_ ?_ ?_ ?_
  · first | rfl | kernel_rfl
  · intro x; first | rfl | kernel_rfl
  · intro x; first | rfl | kernel_rfl
  · intro i v kk e1 e2 h' tk own F' N'
    obtain ⟨b, xs, p, n, rfl, ep, hxl, hpl, eo, n1, n2⟩ := items i v e1
    rw [List.getElem?_map, ep] at e2
    cases e2
    have hb := (N' _ (List.mem_append_left _ (mem_allNews n1 n2 eo))).1
    have hline := line63
    refine Calls.call_len_list (s := { s with heap := h', toks := tk }) ⟨_, hb, rfl, n, rfl⟩ (by simp only [List.size_toArray]; omega) ?_
    exact ⟨h', _, _, rfl, by rw [List.size_toArray, hxl], F', N'⟩
  · intro D h2' tk out c F2 N2 hD hout
    obtain ⟨qs, hperm, hmap, hpw⟩ := hout
    obtain ⟨Z, z1, z2, z3, hZ⟩ := zip3 rv hp
    obtain ⟨Z', pz, ez⟩ := perm_lift (f := fun z : V × Value × List Int => ((z.2.2.length : Int), z.2.1)) hperm (Z := Z) (by
      rw [<- z3, <- z2, List.map_map, List.zip_map']
      rfl)
    have hDn : ∀ q ∈ allNews X.base s.heap X.env.locals, q.1 ≠ D := fun q hq => Nat.ne_of_lt (hD q hq)
    have hDm := N2 _ List.mem_cons_self
    have keep : ∀ b o, b ≠ X.env.locals -> s.heap.get? b = some o -> h2'.get? b = some o := fun b o nb e => by
      cases q : X.base.get? b with
      | some u =>
        have := I.bk b u q
        rw [e] at this; cases this
        exact F2.keep b _ q
      | none => exact (N2 _ (List.mem_cons_of_mem _ (mem_allNews nb q e))).1
    have hnD : s.heap.get? D = none := by
      cases q : s.heap.get? D with
      | none => rfl
      | some o => exact absurd rfl (hDn _ (mem_allNews hDm.2.1 hDm.2.2 q))
    have ns : ∀ m', s.heap.Ns X.env.locals m' -> h2'.Ns X.env.locals m' := fun m' hm => by
      have e : m' = m := hm.eq_nsMap.trans F.ns.eq_nsMap.symm
      rw [e]
      exact F2.ns
    have hzm : ∀ z ∈ Z', RelV z.1 z.2.1 /\ PathV H z.1 z.2.2 := fun z h => hZ z (pz.mem_iff.mp h)
    have eo : out.toList = Z'.map (·.2.1) := by rw [hmap, ez, List.map_map]; rfl
    have hlz : Z'.length = vs.length := by rw [pz.length_eq, <- z1, List.length_map]
    obtain ⟨hD', I'⟩ := inv_laidN (o := .lst (Z'.map (·.1))) (t' := tk) I keep ns hnD
      ⟨by rw [List.length_map, hlz]; exact hz, Z'.map (·.2.1), c, paired_map fun z h => (hzm z h).1, by rw [<- eo]; exact hDm.1⟩
    refine ⟨.ref D, _, I', rfl, k (Z'.map (·.1)) (Z'.map (·.2.2)) D _ ?_ ?_ (paired_map fun z h => (hzm z h).2) hD' (same_new hD') upd_same⟩
    · rw [<- z3]
      exact pz.map _
    · rw [ez, List.pairwise_map] at hpw
      rw [List.pairwise_map]
      exact hpw.imp fun h => by
        have h : (_ : Int) <= _ := h
        omega
theorem pe_sortL {e : Expr} {te : TE} {p p2 pos k1 k2 cp : Pos} {j : Nat} (hg : Gl X "sorted") (hm : X.mg "sorted" = none) (hg2 : Gl X "len") (hm2 : X.mg "len" = none) (he : PE X e te) (h : plainE e = true := by rfl) :
    PE X (.Call (.Name "sorted" p) [e] [⟨some "key", .Name "len" p2, k1⟩, ⟨some "reverse", .Constant (.bool true) j cp, k2⟩] pos) (tCB (rSortL X.K) (tCons te tNil)) := by
  intro pins s σ H Q I hh
  refine wpAny_Call_Name_kw (ld_blt I hg hm boot_sorted ?_ (by decide) (by decide))
  have ha : PA X [e] (tCons te tNil) := pa_c he pa_nil h
  refine PyProof.Rows.callWith_kw (thn (ha pos pins s σ H _ I hh) fun us s1 ⟨vs, H1, I1, r, q⟩ => ?_) (by rw [star_plain h]; rfl) (by rw [star_plain h]; rfl) rfl rfl
  show wpAny _ _ (evalAll [(do let v <- eval (.Name "len" p2) X.env; standAt pos; pure v), (do let v <- eval (.Constant (.bool true) j cp) X.env; standAt pos; pure v)]) _ _ s1
  refine wpAny_evalAll_cons (wpAny_bind (ld_blt I1 hg2 hm2 boot_len ?_ (by decide) (by decide)))
  refine wpAny_bind (wpAny_standAt (wpAny_pure (wpAny_evalAll_cons (wpAny_bind (Constant_bool ?_)))))
  refine wpAny_bind (wpAny_standAt (wpAny_pure (wpAny_evalAll_nil ?_)))
  exact sortL_run I1 r q
end
end NC
namespace NC
open PySem PySem.Spec PyProof.Rows L2
def pD (p : List Int) : Dt := .lst (p.map Dt.int)
theorem pD_dsat {K : PySem.W.Frag} {H : Hp} : ∀ p : List Int, DsAt K H (p.map Dt.int) (p.map V.int)
  | [] => rfl
  | _ :: p => ⟨_, _, rfl, rfl, pD_dsat p⟩
theorem pD_dat {K : PySem.W.Frag} {H : Hp} {v : V} {p : List Int} (h : PathV H v p) : DAt K H (pD p) v := let ⟨l, e, q⟩ := h; ⟨l, _, e, SqL.of q, pD_dsat p⟩
theorem pD_lims : ∀ p : List Int, Dt.Lims 0 (p.map Dt.int)
  | [] => trivial
  | _ :: p => ⟨by unfold Dt.Lim; trivial, pD_lims p⟩
theorem pD_lim (p : List Int) : Dt.Lim 1 (pD p) := pD_lims p
theorem dint_inj : ∀ {p q : List Int}, p.map Dt.int = q.map Dt.int -> p = q
  | [], [], _ => rfl
  | [], _ :: _, h => by cases h
  | _ :: _, [], h => by cases h
  | _ :: p, _ :: q, h => by
    injection h with h1 h2
    injection h1 with h1
    rw [h1, dint_inj h2]
theorem pD_inj {p q : List Int} (h : pD p = pD q) : p = q := by
  injection h with h
  exact dint_inj h
theorem vint_inj : ∀ {p q : List Int}, p.map V.int = q.map V.int -> p = q
  | [], [], _ => rfl
  | [], _ :: _, h => by cases h
  | _ :: _, [], h => by cases h
  | _ :: p, _ :: q, h => by
    injection h with h1 h2
    injection h1 with h1
    rw [h1, vint_inj h2]
section
variable {X : Cx}
open Classical in
theorem in_paths {pins : List (Addr × Obj)} {s : Shared} {σ : L2.St} {H : Hp} {l : Addr} {vs : List V} {ps : List (List Int)} {x : V} {v : Value} {p : List Int} (I : Inv X pins σ H s) (hu : X.A.units + 3 < cLine) (hl : H l = some (.lst vs)) (hp : Paired (PathV H) vs ps) (hx : PathV H x p) (rx : RelV x v) :
    ∃ (f : Value -> Bool) (its : List Value), s.heap.IsList l its.toArray /\ (∀ w ∈ its.toArray, SeqAt.EqAt X.A.in1 s w v (f w)) /\ its.toArray.any f = decide (p ∈ ps) := by
  obtain ⟨its, rv, pl, hz⟩ := I.list (SqL.of hl)
  refine ⟨fun w => decide (∃ b, w = .ref b /\ H b = some (.lst (p.map V.int))), its, pl.isList, fun w hw => ?_, ?_⟩
  · have hw : w ∈ its := by simpa using hw
    obtain ⟨i, hi, e⟩ := List.getElem_of_mem hw
    have hi' : i < vs.length := by rw [rv.length]; exact hi
    obtain ⟨q, eq, b, eb, hb⟩ := paired_get hp (show vs[i]? = some vs[i] by simp [hi'])
    obtain ⟨w', ew, rl⟩ := rv.get (show vs[i]? = some vs[i] by simp [hi'])
    rw [List.getElem?_eq_getElem hi, e] at ew
    cases ew
    have rl2 := rl
    rw [eb] at rl2
    cases (show w = Value.ref b from rl2)
    obtain ⟨k, hk, he⟩ := d_eq I 1 (A := X.A.in1) (pD_lim q) (by rw [in1_units]; omega) (pD_dat ⟨b, eb, hb⟩) (pD_dat hx) rl rx
    have : decide (∃ b', Value.ref b = .ref b' /\ H b' = some (.lst (p.map V.int))) = k := by
      cases k with
      | true =>
        have e3 := pD_inj (hk.mp rfl)
        exact decide_eq_true ⟨b, rfl, by rw [<- e3]; exact hb⟩
      | false =>
        refine decide_eq_false fun ⟨b', e4, h4⟩ => ?_
        cases e4
        rw [hb] at h4
        have e5 : q.map V.int = p.map V.int := by injection (Option.some.inj h4)
        have := hk.mpr (by rw [vint_inj e5])
        cases this
    show SeqAt.EqAt _ _ _ _ (decide _)
    rw [this]
    exact he
  · rw [Bool.eq_iff_iff, decide_eq_true_iff]
    have ea : its.toArray.any (fun w => decide (∃ b, w = .ref b /\ H b = some (.lst (p.map V.int)))) = its.any (fun w => decide (∃ b, w = .ref b /\ H b = some (.lst (p.map V.int)))) := by simp
    rw [ea, List.any_eq_true]
    constructor
    · rintro ⟨w, hw, hd⟩
      obtain ⟨b, rfl, hb⟩ := of_decide_eq_true hd
      obtain ⟨i, hi, e⟩ := List.getElem_of_mem hw
      have hi' : i < vs.length := by rw [rv.length]; exact hi
      obtain ⟨q, eq, b2, eb, hb2⟩ := paired_get hp (show vs[i]? = some vs[i] by simp [hi'])
      obtain ⟨w', ew, rl⟩ := rv.get (show vs[i]? = some vs[i] by simp [hi'])
      rw [List.getElem?_eq_getElem hi, e] at ew
      cases ew
      rw [eb] at rl
      cases (show Value.ref b = Value.ref b2 from rl)
      rw [hb] at hb2
      have e5 : p.map V.int = q.map V.int := by injection (Option.some.inj hb2)
      rw [vint_inj e5]
      exact List.mem_of_getElem? eq
    · intro hm
      obtain ⟨i, hi, e⟩ := List.getElem_of_mem hm
      have hi' : i < vs.length := by rw [Paired.length hp]; exact hi
      obtain ⟨q, eq, b2, eb, hb2⟩ := paired_get hp (show vs[i]? = some vs[i] by simp [hi'])
      rw [List.getElem?_eq_getElem hi, e] at eq
      cases eq
      obtain ⟨w', ew, rl⟩ := rv.get (show vs[i]? = some vs[i] by simp [hi'])
      rw [eb] at rl
      cases (show w' = Value.ref b2 from rl)
      exact ⟨_, List.mem_of_getElem? ew, decide_eq_true ⟨b2, rfl, hb2⟩⟩
inductive RInPI (A : Around) (ne : Bool) (x : V) (y : V) (H : Hp) (Q : VK) : Prop where
  | mk (l : Addr) (vs : List V) (ps : List (List Int)) (p : List Int) (c1 : y = .ref l) (c2 : H l = some (.lst vs)) (c3 : Paired (PathV H) vs ps) (c4 : PathV H x p) (c5 : A.units + 3 < cLine) (c6 : Q (.bl (if ne then !decide (p ∈ ps) else decide (p ∈ ps))) H)
def rInP (A : Around) (ne : Bool) : R2 := fun x y H Q => RInPI A ne x y H Q
theorem op_inP : OpR X (compareOp .In) (rInP X.A false) := by
  intro pins s σ H x y v u Q I rx ry h
  obtain ⟨l, vs, ps, p, rfl, hl, hp, hx, hu, q⟩ := h
  cases ry
  obtain ⟨f, its, h1, h2, h3⟩ := in_paths I hu hl hp hx rx
  refine SeqAt.in_listAt f h1 h2 ⟨.bl _, H, I, rfl, ?_⟩
  rw [h3]
  exact q
theorem op_notInP : OpR X (compareOp .NotIn) (rInP X.A true) := by
  intro pins s σ H x y v u Q I rx ry h
  obtain ⟨l, vs, ps, p, rfl, hl, hp, hx, hu, q⟩ := h
  cases ry
  obtain ⟨f, its, h1, h2, h3⟩ := in_paths I hu hl hp hx rx
  refine SeqAt.notIn_listAt f h1 h2 ⟨.bl _, H, I, rfl, ?_⟩
  rw [h3]
  exact q
end
section
variable {prog : Program} {w : World} {A : Around} {E : Value -> Shared -> Prop} {s : Shared}
theorem lt_listsC {a b : Addr} {xs ys : List Value} {ns ms : List Int} {Q : Bool -> Shared -> Prop} (hu : A.units < cLine) (ha : s.heap.IsList a xs.toArray) (hb : s.heap.IsList b ys.toArray) (hx : IntsAre xs ns) (hy : IntsAre ys ms)
    (h : Q (lex ns ms) s) : wpAny (model prog w) A (oneLt' false (.ref a) (.ref b)) Q E s := by
  obtain ⟨⟨cls, dd, data, sl⟩, ho, hc, n, hd⟩ := id ha
  obtain ⟨⟨cls2, dd2, data2, sl2⟩, ho2, hc2, n2, hd2⟩ := id hb
  simp only at hc hd hc2 hd2
  subst hc hd hc2 hd2
  refine PySem.W.kat_one _ _ ?_
  show wpAny _ _ (richCompare .Lt (.ref a) (.ref b)) _ _ _
  exact richCompare_meets_room (T := "list") (op := .Lt) (id := "list.__lt__") ⟨_, ho, rfl⟩ ⟨_, ho2, rfl⟩ PySem.F.slot_list_lt PySem.F.entry_list_lt (PySem.F.args_list_lt_2 _ _) (list_lt a b xs.toArray ys.toArray n n2 dd dd2 sl sl2 ns ms (by simpa using hx) (by simpa using hy)) ⟨ho, ho2, (⟨(fun z => nomatch z), h⟩ : Value.bool (lex ns ms) ≠ Value.notImplemented /\ PySem.W.BoolBack Q (Value.bool (lex ns ms)) s)⟩ hu
end
section
variable {X : Cx}
def TupP (H : Hp) (v : V) (p : List Int) : Prop := ∃ b c, v = .ref b /\ H b = some (.tup [.int (0 - (p.length : Int)), .ref c]) /\ H c = some (.lst (p.map V.int))
theorem TupP.same {H H' : Hp} {v : V} {p : List Int} (h : TupP H v p) (s : Same H H') : TupP H' v p := let ⟨b, c, e, q, r⟩ := h; ⟨b, c, e, s _ _ q, s _ _ r⟩
inductive RSortTI (K : PySem.W.Frag) (xs : List V) (H : Hp) (Q : VK) : Prop where
  | mk (a : _) (vs : _) (ps : List (List Int)) (c1 : xs = [.ref a]) (c2 : SqL K H a vs) (c3 : vs.length < 64) (c4 : Paired (TupP H) vs ps) (c5 : ∀ vs' ps' l H', ps'.Perm ps -> ps'.Pairwise (fun a b => b.length <= a.length) -> Paired (TupP H) vs' ps' -> H l = none -> Same H H' -> H' l = some (.lst vs') -> Q (.ref l) H')
def rSortT (K : PySem.W.Frag) : List V -> Hp -> VK -> Prop := fun xs H Q => RSortTI K xs H Q
theorem key_lt {p q : List Int} (h : le' ((0 - (p.length : Int)) :: p) ((0 - (q.length : Int)) :: q)) : q.length <= p.length := by
  have h : (if 0 - (q.length : Int) = 0 - (p.length : Int) then lex q p else decide (0 - (q.length : Int) < 0 - (p.length : Int))) = false := h
  split at h
  · omega
  · have := of_decide_eq_false h
    omega
theorem call_sortT (hu : X.A.units + 8 < cLine) : CallR X (.builtin "sorted") (rSortT X.K) := by
  intro pins s σ H xs us Q I r h
  obtain ⟨a, vs, ps, rfl, hq, hlen, hp, k⟩ := h
  obtain ⟨u, rfl, ru⟩ := vals1 r
  cases (show u = Value.ref a from ru)
  obtain ⟨its, rv, pl, hz⟩ := I.list hq
  have hl := pl.isList
  have hn : its.length = ps.length := by rw [<- rv.length]; exact Paired.length hp
  have hf : H (s.heap.objs.size + 1) = none := I.hok.fresh (Nat.le_succ _)
  by_cases h2 : its.length < 2
  · refine sorted_short hl h2 ?_
    obtain ⟨e, he⟩ := sortedAll_at s.heap its its.toArray
    have I' : Inv X pins σ (upd H (s.heap.objs.size + 1) (.lst vs)) { s with heap := sortedAll s.heap its its.toArray } :=
      I.laid (t' := s.toks) (fun b o q => sortedAll_old q) (Nat.le_succ _) ⟨hz, its, e, rv, he⟩
    have srt : ps.Pairwise (fun a b => b.length <= a.length) := by
      match ps, hn with
      | [], _ => exact List.Pairwise.nil
      | [_], _ => exact List.pairwise_singleton _ _
      | _ :: _ :: _, hn => simp at hn; omega
    exact ⟨.ref _, _, I', rfl, k vs ps _ _ (List.Perm.refl _) srt hp hf (same_new hf) upd_same⟩
  · obtain ⟨m, F⟩ := I.fr
    refine PySem.W.kat_sorted F news_all hl (by omega) (by rw [<- rv.length]; exact hlen) ?_
    intro D e1 h' F' N' hD
    have hDn : ∀ q ∈ allNews X.base s.heap X.env.locals, q.1 ≠ D := fun q hq => Nat.ne_of_lt (hD q hq)
    have hDm := N' _ List.mem_cons_self
    have keep : ∀ b o, b ≠ X.env.locals -> s.heap.get? b = some o -> h'.get? b = some o := fun b o nb e => by
      cases q : X.base.get? b with
      | some u =>
        have := I.bk b u q
        rw [e] at this; cases this
        exact F'.keep b _ q
      | none => exact (N' _ (List.mem_cons_of_mem _ (mem_allNews nb q e))).1
    have hnD : s.heap.get? D = none := by
      cases q : s.heap.get? D with
      | none => rfl
      | some o => exact absurd rfl (hDn _ (mem_allNews hDm.2.1 hDm.2.2 q))
    have ns : ∀ m', s.heap.Ns X.env.locals m' -> h'.Ns X.env.locals m' := fun m' hm => by
      have e : m' = m := hm.eq_nsMap.trans F.ns.eq_nsMap.symm
      rw [e]
      exact F'.ns
    obtain ⟨hDH, I1⟩ := inv_laidN (o := .lst []) (t' := s.toks) I keep ns hnD ⟨Nat.zero_le _, [], e1, .nil, hDm.1⟩
    have s1 : Same H (upd H D (.lst [])) := same_new hDH
    -- what stands at a pair
    have items : ∀ (i : Nat) (v : Value), its[i]? = some v -> ∃ b c p t, v = .ref b /\ ps[i]? = some p /\ h'.IsTuple b #[.int (0 - (p.length : Int)) t, .ref c] /\ upd H D (.lst []) c = some (.lst (p.map V.int)) := by
      intro i v e
      have hi : i < vs.length := by rw [rv.length]; exact (List.getElem?_eq_some_iff.mp e).1
      obtain ⟨p, ep, b, c, eb, hb, hc⟩ := paired_get hp (show vs[i]? = some vs[i] by simp [hi])
      obtain ⟨v', ev, rl⟩ := rv.get (show vs[i]? = some vs[i] by simp [hi])
      rw [e] at ev
      cases ev
      rw [eb] at rl
      cases (show v = Value.ref b from rl)
      obtain ⟨its2, r2, pt⟩ := tupAt I1 (SqT.of (s1 _ _ hb))
      obtain ⟨u1, u2, rfl, ⟨t, rfl⟩, q2⟩ := vals2 r2
      cases (show u2 = Value.ref c from q2)
      exact ⟨b, c, p, t, rfl, ep, pt, s1 _ _ hc⟩
    have tups : ∀ (n : Nat) (us : List Value), its.drop n = us -> ∃ fs, PySem.W.KatTups h' us fs /\ fs.length = us.length /\ ∀ v ∈ fs, ∃ i t, v = Value.int i t := by
      intro n us
      induction us generalizing n with
      | nil => exact fun _ => ⟨[], trivial, rfl, fun v hv => nomatch hv⟩
      | cons v us ih =>
        intro e
        have e1 : its[n]? = some v := by
          have := congrArg (·[0]?) e
          simpa using this
        have e2 : its.drop (n + 1) = us := by
          rw [<- List.drop_drop, e]
          rfl
        obtain ⟨fs, h1, h2, h3⟩ := ih (n + 1) e2
        obtain ⟨b, c, p, t, rfl, _, ⟨o, ho, hcl, n0, hda⟩, _⟩ := items n v e1
        refine ⟨.int (0 - (p.length : Int)) t :: fs, PySem.W.KatTups.cons ho hcl hda rfl h1, by rw [List.length_cons, h2]; rfl, fun v hv => ?_⟩
        rcases List.mem_cons.mp hv with rfl | hv
        · exact ⟨_, _, rfl⟩
        · exact h3 v hv
    obtain ⟨fs, ft, fl, fi⟩ := tups 0 its (List.drop_zero)
    refine PySem.W.kat_kind (T := .type "int") (s := { s with heap := h' }) ft (by omega) (fun v hv => ?_) (by rfl) ?_
    · obtain ⟨i, t, rfl⟩ := fi v hv
      exact PySem.W.Looks.of_pure rfl
    · have et : ((Value.type "int") != Value.type "tuple") = true := by rfl
      rw [et]
      refine kasWp_of (n := its.length) (lt := ltK fun i => (0 - ((ps.getD i []).length : Int)) :: ps.getD i []) (R := fun p => Pm its.length p /\ Up (fun i => (0 - ((ps.getD i []).length : Int)) :: ps.getD i []) p its.length) ?_ ?_ (k_sort (by omega))
      · intro i j C hi hj hC
        obtain ⟨b, c, p, t, e2, ep, ⟨o, ho, hcl, n0, hda⟩, L1⟩ := items i its[i] (by simp [hi])
        obtain ⟨b', c', p', t', e2', ep', ⟨o', ho', hcl', n0', hda'⟩, L2⟩ := items j its[j] (by simp [hj])
        have g1 : its.getD i Value.none = .ref b := by rw [<- e2]; simp [hi]
        have g2 : its.getD j Value.none = .ref b' := by rw [<- e2']; simp [hj]
        have q1 : ps.getD i [] = p := by rw [List.getD_eq_getElem?_getD, ep]; rfl
        have q2 : ps.getD j [] = p' := by rw [List.getD_eq_getElem?_getD, ep']; rfl
        show wpAny _ _ (keyLt' (tuples' true) (its.getD i Value.none) (its.getD j Value.none)) _ _ _
        rw [g1, g2]
        have hC : C (if 0 - (p.length : Int) = 0 - (p'.length : Int) then lex p p' else decide (0 - (p.length : Int) < 0 - (p'.length : Int))) { s with heap := h' } := by
          have e : ltK (fun i => (0 - ((ps.getD i []).length : Int)) :: ps.getD i []) i j = (if 0 - (p.length : Int) = 0 - (p'.length : Int) then lex p p' else decide (0 - (p.length : Int) < 0 - (p'.length : Int))) := by
            show lex ((0 - ((ps.getD i []).length : Int)) :: ps.getD i []) ((0 - ((ps.getD j []).length : Int)) :: ps.getD j []) = _
            rw [q1, q2]
            rfl
          rw [<- e]
          exact hC
        refine PySem.W.kat_lt (s := { s with heap := h' }) ho hda ho' hda' (PySem.W.kat_cons (wpAny_eqBool_int ?_))
        by_cases heq : 0 - (p.length : Int) = 0 - (p'.length : Int)
        · rw [if_pos heq] at hC
          rw [beq_iff_eq.mpr heq]
          refine PySem.W.kat_yes (PySem.W.kat_cons ?_)
          obtain ⟨kk, hk, he⟩ := d_eq I1 1 (A := X.A.in1.in1) (pD_lim p) (by rw [in1_units, in1_units]; omega) (pD_dat ⟨c, rfl, L1⟩) (pD_dat ⟨c', rfl, L2⟩) rfl rfl
          refine he X.prog X.w _ _ ?_
          cases kk with
          | true =>
            have e3 := pD_inj (hk.mp rfl)
            refine PySem.W.kat_yes (PySem.W.kat_nil ?_)
            rw [e3, lex_irrefl] at hC
            exact hC
          | false =>
            refine PySem.W.kat_no ?_
            obtain ⟨xs1, v1, l1⟩ := lstAt I1 (SqL.of L1)
            obtain ⟨xs2, v2, l2⟩ := lstAt I1 (SqL.of L2)
            exact lt_listsC (by rw [in1_units, in1_units]; omega) l1 l2 (intsAre_of v1) (intsAre_of v2) hC
        · rw [if_neg heq] at hC
          rw [beq_eq_false_iff_ne.mpr heq]
          refine PySem.W.kat_no ?_
          show wpAny _ _ (oneLt' true _ _) _ _ _
          rw [<- keyLt'_oneType]
          exact PySem.W.kat_lt_int hC
      · rintro p ⟨P1, P2⟩
        have hmem : ∀ i ∈ p.toList, i < ps.length := fun i hi => by
          have q : i ∈ List.range its.length := (Array.perm_iff_toList_perm.mp P1.perm).mem_iff.mp hi
          rw [<- hn]; exact List.mem_range.mp q
        refine PySem.W.KasFin.intro F' N' (.head hDn) fun h2' c F2 N2 => ?_
        have hDm := N2 _ List.mem_cons_self
        have keep : ∀ b o, b ≠ X.env.locals -> s.heap.get? b = some o -> h2'.get? b = some o := fun b o nb e => by
          cases q : X.base.get? b with
          | some u =>
            have := I.bk b u q
            rw [e] at this; cases this
            exact F2.keep b _ q
          | none => exact (N2 _ (List.mem_cons_of_mem _ (mem_allNews nb q e))).1
        have ns : ∀ m', s.heap.Ns X.env.locals m' -> h2'.Ns X.env.locals m' := fun m' hm => by
          have e : m' = m := hm.eq_nsMap.trans F.ns.eq_nsMap.symm
          rw [e]
          exact F2.ns
        have pick := paired_pick hp (dx := V.non) (dy := []) hmem
        have pickV : Vals (p.toList.map fun i => vs.getD i V.non) (p.toList.map fun i => its.getD i Value.none) := paired_pick rv (dx := V.non) (dy := Value.none) fun i hi => by rw [hn]; exact hmem i hi
        have hlenp : p.toList.length = its.length := by rw [Array.length_toList, P1.size]
        obtain ⟨hD', I'⟩ := inv_laidN (o := .lst (p.toList.map fun i => vs.getD i V.non)) (t' := s.toks) I keep ns hnD
          ⟨by rw [List.length_map, hlenp, <- rv.length]; exact hz, _, c, pickV, hDm.1⟩
        refine ⟨.ref D, _, I', rfl, k _ _ D _ ?_ ?_ pick hD' (same_new hD') upd_same⟩
        · have q := (Array.perm_iff_toList_perm.mp P1.perm).map fun i => ps.getD i []
          rw [hn, map_getD_range] at q
          exact q
        · rw [List.pairwise_map, List.pairwise_iff_getElem]
          intro i j hi hj hij
          have hj' : j < its.length := by rw [<- hlenp]; exact hj
          have q := P2 i j (Nat.le_of_lt hij) hj'
          have g : ∀ (x : Nat) (hx : x < p.toList.length), p.getD x 0 = p.toList[x] := fun x hx => by
            have : x < p.size := by simpa using hx
            simp [Array.getD, this]
          unfold Kp at q
          rw [g i hi, g j hj] at q
          exact key_lt q
end
end NC
namespace NC
open PySem PySem.Spec PyProof.Rows L2
section
variable {X : Cx}
inductive RMulI (x : V) (y : V) (H : Hp) (Q : VK) : Prop where
  | mk (l : Addr) (v : V) (n : Nat) (c1 : x = .ref l) (c2 : y = .int (n : Int)) (c3 : H l = some (.lst [v])) (c4 : n <= 1000) (c5 : ∀ p H', H p = none -> Same H H' -> H' p = some (.lst (List.replicate n v)) -> Q (.ref p) H')
def rMul : R2 := fun x y H Q => RMulI x y H Q
theorem vals_rep {v : V} {u : Value} (r : RelV v u) : ∀ n : Nat, Vals (List.replicate n v) (List.replicate n u)
  | 0 => .nil
  | n + 1 => .cons r (vals_rep r n)
theorem flat_rep {α : Type} (u : α) : ∀ n : Nat, (List.replicate n [u]).flatten = List.replicate n u
  | 0 => rfl
  | n + 1 => by rw [List.replicate_succ, List.flatten_cons, flat_rep u n]; rfl
theorem op_mulL : OpR X (binaryOp .Mult) rMul := by
  intro pins s σ H x y v u Q I rx ry h
  obtain ⟨l, z, n, rfl, rfl, hl, hn, k⟩ := h
  cases rx
  obtain ⟨t, rfl⟩ := ry
  obtain ⟨_, its, c, r, e⟩ := (show ObjOk X.prog X.w H s.heap l (.lst [z]) from I.hok l _ hl)
  obtain ⟨u, rfl, ru⟩ := vals1 r
  obtain ⟨m, F⟩ := I.fr
  have ez : ((n : Int)).toNat = n := by omega
  refine PyProof.Rows.mul_list F news_all e (by omega) (by omega) (by rw [ez]; show 1 * n <= _; omega) fun h' F2 N2 => ?_
  rw [PyProof.Rows.listMul_foldl_if, ez, show (List.replicate n [u].toArray.toList).flatten = List.replicate n u from flat_rep u n] at N2
  have hDm := N2 _ List.mem_cons_self
  have keep : ∀ b o, b ≠ X.env.locals -> s.heap.get? b = some o -> h'.get? b = some o := fun b o nb e => by
    cases q : X.base.get? b with
    | some u =>
      have := I.bk b u q
      rw [e] at this; cases this
      exact F2.keep b _ q
    | none => exact (N2 _ (List.mem_cons_of_mem _ (mem_allNews nb q e))).1
  have ns : ∀ m', s.heap.Ns X.env.locals m' -> h'.Ns X.env.locals m' := fun m' hm => by
    have e : m' = m := hm.eq_nsMap.trans F.ns.eq_nsMap.symm
    rw [e]
    exact F2.ns
  have hnD : s.heap.get? s.heap.objs.size = none := by
    cases q : s.heap.get? s.heap.objs.size with
    | none => rfl
    | some o => exact absurd (Heap.lt_size q) (Nat.lt_irrefl _)
  obtain ⟨hD', I'⟩ := inv_laidN (o := .lst (List.replicate n z)) (t' := s.toks) I keep ns hnD ⟨by rw [List.length_replicate, sizeLine_eq]; omega, _, _, vals_rep ru n, hDm.1⟩
  exact ⟨.ref _, _, I', rfl, k _ _ hD' (same_new hD') upd_same⟩
end
section
variable {X : Cx} {pins : List (Addr × Obj)} {σ : L2.St} {H : Hp} {s s1 : Shared} {cn : Str} {CH : Addr} {ts : TS} {b₀ : Stmt} {bs : List Stmt} {p3 p4 : Pos}
theorem caught_on {D : Ends} {ev : Value} (O : Own X) (I : Inv X pins σ H s) (hgl : Gl X cn) (hm : X.mg cn = some (.ref CH)) (hs : ∀ ea, PSs (X.hnd ea []) (b₀ :: bs) ts)
    (hx' : ∃ H1 s0, Inv X pins σ H1 s0 /\ CXE X.prog X.w X.stack H1 s0 (Caught X.K CH fun _ _ H' => ts D σ H') ev s1) (hdb : (cn == ("__debug__" : Str)) = false := by decide) :
    wpAny (model X.prog X.w) X.A (noteFrame ev X.env) (fun _ s₂ => wpAny (model X.prog X.w) X.A (setFlight ev none) (fun _ s₃ => wpAny (model X.prog X.w) X.A (handleBy ev X.env [.ExceptHandler (some (.Name cn p3)) none (b₀ :: bs) p4]) (SP X pins D) X.xe s₃) X.xe s₂) X.xe s1 := by
  obtain ⟨H1, s0, I1, ea, C, H2, rfl, F, ea', C0, e1, e2, hex, hts⟩ := hx'
  cases e1
  cases e2
  obtain ⟨B, a0, hfl, hB1, hB2, hB3⟩ := F.fl
  have hfl' := hfl
  rw [O.stk] at hfl'
  refine wpAny_looks_onW (by rw [I1.ok.frames, O.stk]) O.fr hfl' fun h2 held up2 => wpAny_landsW held fun h3 fl3 up3 => ?_
  have J := inv_land I1 O F hfl.1 hB1 hB2 hB3 fl3.1 (up2.trans up3)
  refine wpAny_handleBy_cons (codeAny_handlers_test ?_) (by intro q; cases q)
  refine ld_glob (X := X.hnd ea []) (inv_hnd J fun p hp => nomatch hp) hgl hm ?_ hdb
  refine (PySem.W.exm_one (J.kIn) (looks_fly fl3) hex).here ?_
  refine codeAny_handlers_suite (lands_againW fl3 fun h4 fl4 up4 => ?_)
  have J4 := inv_land I1 O F hfl.1 hB1 hB2 hB3 fl4.1 ((up2.trans up3).trans up4)
  refine wpAny_mono (hs ea pins _ σ H2 D (inv_hnd J4 fun p hp => nomatch hp) hts) (fun f s' q => ?_) fun _ _ z => z.elim
  cases f with
  | next => obtain ⟨σ', H', I', q⟩ := q; exact ⟨σ', H', inv_unhnd I.ok I', q⟩
  | brk => obtain ⟨σ', H', I', q⟩ := q; exact ⟨σ', H', inv_unhnd I.ok I', q⟩
  | cont => obtain ⟨σ', H', I', q⟩ := q; exact ⟨σ', H', inv_unhnd I.ok I', q⟩
  | ret u => obtain ⟨v, σ', H', I', r, q⟩ := q; exact ⟨v, σ', H', inv_unhnd I.ok I', r, q⟩
end
section
variable {X : Cx} {cn : Str} {CH : Addr} {c e1 e2 : Expr} {tc : TT} {t1 t2 : XK -> TE} {ts : TS} {b₀ : Stmt} {bs : List Stmt} {q1 q2 q3 p3 p4 p5 : Pos}
def tTryC (K : PySem.W.Frag) (CH : Addr) (tc : TT) (t1 t2 : XK -> TE) (ts : TS) : TS := fun D σ H => tc σ H fun b H1 => if b = true then t1 (Caught K CH fun _ _ H' => ts D σ H') σ H1 (fun _ H2 => D.nx σ H2) else t2 (Caught K CH fun _ _ H' => ts D σ H') σ H1 (fun _ H2 => D.nx σ H2)
theorem ps_tryC (O : Own X) (hc : PT X.nox c tc) (h1 : PEx X e1 t1) (h2 : PEx X e2 t2) (hgl : Gl X cn) (hm : X.mg cn = some (.ref CH)) (hs : ∀ ea, PSs (X.hnd ea []) (b₀ :: bs) ts)
    (hsw1 : swapsWith e1 none q1.line X.env = pure false := by rfl) (hsw2 : swapsWith e2 none q2.line X.env = pure false := by rfl) (hdb : (cn == ("__debug__" : Str)) = false := by decide) :
    PS X (.Try [.If c [.Expr e1 q1] [.Expr e2 q2] q3] [.ExceptHandler (some (.Name cn p3)) none (b₀ :: bs) p4] [] [] p5) (tTryC X.K CH tc t1 t2 ts) := by
  intro pins s σ H D I h
  refine wpAny_Try_except (wpAny_execs_cons (wpAny_If (wpAny_mono (hc pins s σ H _ (I.wish _) h) (fun b s1 ⟨H1, I1', q⟩ => ?_) fun _ _ z => False.elim z)))
  have I1 := I1'.unwish
  cases b with
  | true =>
    rw [if_pos rfl]
    refine wpAny_execs_cons (wpAny_Expr_any (wpAny_mono (h1 _ pins s1 σ H1 _ I1 q) (fun v s2 ⟨y, H2, I2, r2, q2⟩ => ?_) fun ev s2 hx => caught_on O I1 hgl hm hs hx hdb) I1.quiet hsw1)
    exact wpAny_execs_nil (wpAny_execs_nil (wpAny_execs_nil ⟨_, H2, I2, q2⟩))
  | false =>
    rw [if_neg Bool.false_ne_true]
    refine wpAny_execs_cons (wpAny_Expr_any (wpAny_mono (h2 _ pins s1 σ H1 _ I1 q) (fun v s2 ⟨y, H2, I2, r2, q2⟩ => ?_) fun ev s2 hx => caught_on O I1 hgl hm hs hx hdb) I1.quiet hsw2)
    exact wpAny_execs_nil (wpAny_execs_nil (wpAny_execs_nil ⟨_, H2, I2, q2⟩))
end
end NC
namespace NC
open PySem PySem.Spec PyProof.Rows L2
theorem clos0 {X : Cx} : CompClos X [] [] := ⟨fun _ _ e => by (cases e), (fun _ hx => nomatch hx), fun _ _ e => by (cases e), (fun _ hx => nomatch hx)⟩
theorem clos2 {X : Cx} {x y : Str} {c d : Addr} (hne : x ≠ y) (h : X.env.cells.lookup x = some c) (k : X.env.kindOf x = some .cell) (h2 : X.env.cells.lookup y = some d) (k2 : X.env.kindOf y = some .cell) : CompClos X [x, y] [(x, c), (y, d)] where
  at_ := fun z e q => by
    have := PySem.mem_of_lookup q
    rcases List.mem_cons.mp this with w | w
    · cases w; exact h
    · cases (List.mem_singleton.mp w); exact h2
  has := fun z hz => by
    rcases List.mem_cons.mp hz with e | e
    · exact ⟨c, by rw [e]; simp⟩
    · rw [List.mem_singleton.mp e]
      exact ⟨d, by
        rw [List.lookup_cons]
        rw [show (y == x) = false from beq_eq_false_iff_ne.mpr (Ne.symm hne)]
        simp⟩
  only := fun z e q => by
    have := PySem.mem_of_lookup q
    rcases List.mem_cons.mp this with w | w
    · cases w; exact List.mem_cons_self
    · cases (List.mem_singleton.mp w); exact List.mem_cons_of_mem _ (List.mem_singleton.mpr rfl)
  kd := fun z hz => by
    rcases List.mem_cons.mp hz with e | e
    · rw [e, k]; intro z; cases z
    · rw [List.mem_singleton.mp e, k2]; intro z; cases z
inductive RComp0I (K : PySem.W.Frag) (x : V) (H : Hp) (Q : VK) : Prop where
  | mk (a : Addr) (c1 : x = .ref a) (c2 : SqL K H a []) (c3 : ∀ p H', H p = none -> Same H H' -> H' p = some (.lst []) -> Q (.ref p) H')
def tComp0 (K : PySem.W.Frag) (ti : TE) : TE := fun σ H Q => ti σ H fun x H1 => RComp0I K x H1 Q
theorem PE.imp' {X : Cx} {e : Expr} {t t' : TE} (h : PE X e t) (i : ∀ σ H Q, t' σ H Q -> t σ H Q) : PE X e t' := fun pins s σ H Q I q => h pins s σ H Q I (i σ H Q q)
theorem sqlN {K : PySem.W.Frag} {H H' : Hp} {a : Addr} {xs : List V} (h : SqL K H a xs) (s : Same H H') : SqL K H' a xs := by
  rcases h with (h | ⟨o, h⟩) | h
  · exact .inl (.inl (s _ _ h))
  · exact .inl (.inr ⟨o, s _ _ h⟩)
  · exact .inr h
theorem pe_comp0 {X : Cx} {elt target iter : Expr} {ifs : List Expr} {scope : Scope} {pos : Pos} {N fs : List Str} {js : List Nat} {cl : List (Str × Addr)} {ti : TE} (hti : ∀ σ H (Q Q' : VK), (∀ v H', Q v H' -> Q' v H') -> ti σ H Q -> ti σ H Q') (hc : X.calm = true) (S : CompScopeC N fs scope) (hclos : closureFor scope X.env = pure cl) (L : CompClos X fs cl)
    (hjs : js.map (fun j => X.N[j]?) = fs.map some) (hvis : ∀ x ∈ fs, Vis X.env.scope x) (hi : PE X iter ti) (hs : ∀ x, foldedSetIterable iter X.env x = pure x := by intro _; rfl) :
    PE X (.ListComp elt [⟨target, iter, ifs, 0⟩] scope pos) (tComp0 X.K ti) := by
  refine PE.imp' (pe_compC (tg := fun _ _ _ _ _ _ _ => False) (tt := fun _ _ _ _ _ _ => False) (te := fun _ _ _ _ _ _ => False) hc S hclos L hjs hvis hi (fun C s H => ⟨fun _ _ _ _ _ _ _ _ _ h => h.elim, fun _ _ _ _ _ _ h => h.elim, fun _ _ _ _ _ _ h => h.elim⟩) hs) ?_
  intro σ H Q h
  refine hti σ H _ _ (fun x H1 q => ?_) h
  obtain ⟨a, rfl, ha, k⟩ := q
  refine ⟨a, [], rfl, ha, fun D nD => ⟨fun i _ H' => H' = upd H1 D (.lst []), rfl, ?_, ?_, ?_⟩⟩
  · rintro i σ' H' _ rfl
    exact sqlN ha (same_new nD)
  · intro C s0 H0 i x σ' H' hx
    cases hx
  · rintro σ' H' rfl
    exact k D _ nD (same_new nD) upd_same
end NC
namespace NC
open PySem PySem.Spec PyProof.Rows L2
theorem ps_compC {X : Cx} {i : Nat} {y : Str} {py spos : Pos} {elt target iter : Expr} {ifs : List Expr} {scope : Scope} {pos : Pos} {N fs : List Str} {js : List Nat} {cl : List (Str × Addr)} {ti : TE} {te : Addr -> Shared -> Hp -> TE} {tg : Addr -> Shared -> Hp -> TG} {tt : Addr -> Shared -> Hp -> TT} (hc : X.calm = true) (hN : X.N.Nodup) (hi0 : X.N[i]? = some y) (hy : Loc X.env.scope y) (S : CompScopeC N fs scope) (hclos : closureFor scope X.env = pure cl) (L : CompClos X fs cl)
    (hjs : js.map (fun j => X.N[j]?) = fs.map some) (hvis : ∀ x ∈ fs, Vis X.env.scope x) (hi : PE X iter ti)
    (hb : ∀ C s H, PG (compCxC X (N ++ fs) scope cl C s H) target (tg C s H) /\ PF (compCxC X (N ++ fs) scope cl C s H) ifs (tt C s H) /\ PE (compCxC X (N ++ fs) scope cl C s H) elt (te C s H)) (hsw : swapsWith (.ListComp elt [⟨target, iter, ifs, 0⟩] scope pos) (some (.Name y py)) spos.line X.env = pure true := by rfl) (hf : X.fn y = true ∨ X.env.scope.names.lookup y = some .local := by first | exact .inl rfl | exact .inr rfl | assumption) (hs : ∀ x, foldedSetIterable iter X.env x = pure x := by intro _; rfl) :
    PS X (.Assign [.Name y py] (.ListComp elt [⟨target, iter, ifs, 0⟩] scope pos) spos) (tAsg (tCompC X.K N.length js ti tg tt te) (gName i)) := by
  intro pins s σ H DD I h
  rw [exec_Assign_Name_used _ _ _ _ hsw]
  refine wpAny_bind (wpAny_standAt (wpAny_bind ?_))
  show wpAny _ X.A (do let _ <- comprehension (.ListComp elt [⟨target, iter, ifs, 0⟩] scope pos) scope X.env _ (newList []) false (eval iter X.env) (some (assign (.Name y py) X.env))) _ _ s
  refine wpAny_bind (wpAny_mono (wpAny_comprehension_free (use := some (assign (.Name y py) X.env)) (Q := fun _ s' => SP X pins DD .next s') rfl hs hclos S.kind S.loc (thn (hi pins s σ H _ I h) fun xv s1 ⟨x, H1, I1, r1, a, xs, e, hq, q⟩ => ?_)) (fun _ s' hq => wpAny_pure (wpAny_pure hq)) fun _ _ e => e)
  subst e
  cases (show xv = Value.ref a from r1)
  obtain ⟨its, rv, p, hz⟩ := I1.list hq
  refine wpAny_pyIter_list p.isList (wpAny_newObj_type (hd := by size_fits) (wpAny_newFunctionEnv S.nocell (by intro y hy; simp at hy) (fun h1 hns hsb => ?_) S.kind))
  dsimp only at hns hsb ⊢
  generalize hH1 : s1.heap.push { cls := .type "list_iterator", data := .fields #[.ref a, .int 0 0] } = G1 at hns hsb ⊢
  have hD : G1.objs.size = s1.heap.objs.size + 1 := by rw [<- hH1, Heap.size_push]
  generalize hH2 : G1.push { cls := .type "list", dict := none, data := .seq ([] : List Value).toArray } = G2 at hns hsb ⊢
  have hC : G2.objs.size = s1.heap.objs.size + 2 := by rw [<- hH2, Heap.size_push, hD]
  have old2 : ∀ b o, G2.get? b = some o -> h1.get? b = some o := fun b o e => hsb.extBut b o (Nat.ne_of_lt (Heap.lt_size e)) (Heap.get?_push_of_some _ e)
  have old : ∀ b o, s1.heap.get? b = some o -> h1.get? b = some o := fun b o e => old2 b o (hH2 ▸ Heap.get?_push_of_some _ (hH1 ▸ Heap.get?_push_of_some _ e))
  have hit : h1.IsListIter s1.heap.objs.size a 0 := ⟨_, old2 _ _ (hH2 ▸ Heap.get?_push_of_some _ (hH1 ▸ Heap.get?_push_size _ rfl)), rfl, rfl⟩
  have hacc : h1.get? G1.objs.size = some { cls := .type "list", dict := none, data := .seq ([] : List Value).toArray } := old2 _ _ (hH2 ▸ Heap.get?_push_size _ rfl)
  have nD : H1 G1.objs.size = none := I1.hok.fresh (by rw [hD]; exact Nat.le_succ _)
  have nIt : H1 s1.heap.objs.size = none := I1.hok.fresh (Nat.le_refl _)
  have nC : H1 G2.objs.size = none := I1.hok.fresh (by rw [hC]; exact Nat.le_add_right _ _)
  obtain ⟨W, w0, wl, ws, wd⟩ := q G1.objs.size nD
  have itD : s1.heap.objs.size ≠ G1.objs.size := by rw [hD]; exact Nat.ne_of_lt (Nat.lt_succ_self _)
  have CD : G2.objs.size ≠ G1.objs.size := by rw [hC, hD]; exact Nat.ne_of_gt (Nat.lt_succ_self _)
  have itC : s1.heap.objs.size ≠ G2.objs.size := by rw [hC]; exact Nat.ne_of_lt (Nat.lt_succ_of_lt (Nat.lt_succ_self _))
  have J0 : Inv (compCxC X (N ++ fs) scope cl G2.objs.size s1 H1) [] (List.replicate N.length none ++ js.map fun j => (σ[j]?).getD none) (upd H1 G1.objs.size (.lst [])) { s1 with heap := h1, toks := s1.toks + ([] : List (Str × Value)).length } := by
    refine ⟨compC_ok I1 S L (by rw [hC]; exact Nat.le_add_right _ _), rfl, I1.bare, Un.laid old (by rw [hD]; exact Nat.le_succ _) nD, ⟨_, hns, fun i x v e1 e2 hv => ?_⟩, fun x c e => ?_, ?_, fun x c e => ?_, (fun p hp => nomatch hp), I1.hok.laid (a := G1.objs.size) (o := .lst []) old (by rw [hD]; exact Nat.le_succ _) ⟨Nat.zero_le _, [], _, .nil, hacc⟩, ?_⟩
    · have e1 : (N ++ fs)[i]? = some x := e1
      by_cases hi : i < N.length
      · rw [List.getElem?_append_left (by rw [List.length_replicate]; exact hi), List.getElem?_replicate] at e2
        split at e2 <;> cases e2
      · rw [List.getElem?_append_right (by rw [List.length_replicate]; omega), List.length_replicate, List.getElem?_map] at e2
        rw [List.getElem?_append_right (by omega)] at e1
        cases hj : js[i - N.length]? with
        | none => rw [hj] at e2; cases e2
        | some j =>
          rw [hj] at e2
          have e2 : (σ[j]?).getD none = some v := Option.some.inj e2
          have hx : x ∈ fs := List.mem_of_getElem? e1
          have hNj : X.N[j]? = some x := by
            have z : (js.map fun j => X.N[j]?)[i - N.length]? = some (X.N[j]?) := by rw [List.getElem?_map, hj]; rfl
            rw [hjs, List.getElem?_map, e1] at z
            exact (Option.some.inj z).symm
          have hσ : σ[j]? = some (some v) := by
            cases hq : σ[j]? with
            | none => rw [hq] at e2; cases e2
            | some o => rw [hq] at e2; exact congrArg some e2
          obtain ⟨m, _, lk⟩ := I1.loc
          obtain ⟨u, ru, l⟩ := lk j x v hNj hσ (hvis x hx)
          refine ⟨u, ru, ?_⟩
          rcases l with ⟨z, _⟩ | ⟨_, c, hcc, hcell⟩
          · exact absurd z (L.kd x hx)
          · obtain ⟨c', hc'⟩ := L.has x hx
            have e : c' = c := Option.some.inj ((L.at_ _ _ hc').symm.trans hcc)
            subst e
            have hk : (relabel scope X.env).names.lookup x = some (relK X.env x .free) := by
              rw [relabel_names]
              exact look_map' _ _ _ _ (S.fre x hx)
            refine .inr ⟨?_, c', hc', ?_⟩
            · rcases relK_free (env := X.env) (n := x) with z | z
              · exact .inl (hk.trans (congrArg some z))
              · exact .inr (hk.trans (congrArg some z))
            · obtain ⟨o, ho, r⟩ := hcell
              exact ⟨o, old _ _ ho, r⟩
    · obtain ⟨v, o, ho, r⟩ := I1.cell x c (L.at_ x c e)
      exact ⟨v, o, old _ _ ho, r⟩
    · show upd H1 G1.objs.size _ G2.objs.size = none
      rw [upd_ne CD]; exact nC
    · obtain ⟨v, o, ho, r⟩ := I1.cell x c (L.at_ x c e)
      show upd H1 G1.objs.size _ c = none
      rw [upd_ne fun z => by
        have := Heap.lt_size ho
        rw [z, hD] at this
        exact absurd this (Nat.not_lt.mpr (Nat.le_succ _))]
      exact I1.freeC x c (L.at_ x c e)
    · show (List.replicate N.length none ++ js.map fun j => (σ[j]?).getD none).length = (N ++ fs).length
      have := congrArg List.length hjs
      rw [List.length_map, List.length_map] at this
      rw [List.length_append, List.length_append, List.length_replicate, List.length_map, this]
  have T := turn_list (P := X.prog) (w := X.w) (K := X.K) (tg := target) a s1.heap.objs.size
  have fpk : ∀ {H' : Hp}, H' s1.heap.objs.size = none -> ∀ b ∈ [s1.heap.objs.size], FpOk (compCxC X (N ++ fs) scope cl G2.objs.size s1 H1) [] H' b := fun hn b hb => by
    rw [List.mem_singleton.mp hb]
    exact ⟨hn, itC, fun z => (by obtain ⟨_, o, ho, _⟩ := I1.stack.mem z; exact absurd (Heap.lt_size ho) (Nat.lt_irrefl _)), .inr (Nat.le_refl _), fun x c e => (by obtain ⟨v, o, ho, r⟩ := I1.cell x c (L.at_ x c e); exact Nat.ne_of_lt (Heap.lt_size ho)), (fun p hp => nomatch hp)⟩
  -- the loop
  have loop : ∀ s2 : Shared, Inv (compCxC X (N ++ fs) scope cl G2.objs.size s1 H1) [] (List.replicate N.length none ++ js.map fun j => (σ[j]?).getD none) (upd H1 G1.objs.size (.lst [])) s2 -> s2.heap.IsListIter s1.heap.objs.size a 0 ->
      codeAny (model X.prog X.w) X.A (.compLoop (.ListComp elt [⟨target, iter, ifs, 0⟩] scope pos) 0 (.ref s1.heap.objs.size) (.ref G1.objs.size) (compEnvC scope cl G2.objs.size X.env))
        (compPost (model X.prog X.w) X.A X.xe (some (assign (.Name y py) X.env)) (fun _ s' => SP X pins DD .next s') (.ref G1.objs.size) G2.objs.size) s2 := by
    intro s2 J2 st2
    refine compLoop_any (fun n s' => ∃ i σ' H', n = xs.length - i /\ i <= xs.length /\ Inv (compCxC X (N ++ fs) scope cl G2.objs.size s1 H1) [] σ' H' s' /\ s'.heap.IsListIter s1.heap.objs.size a i /\ H' s1.heap.objs.size = none /\ W i σ' H') ?_ xs.length ⟨0, _, _, rfl, Nat.zero_le _, J2, st2, by rw [upd_ne itD]; exact nIt, w0⟩
    rintro n s3 ⟨i, σ3, H3, rfl, hil, J3, st3, fr3, w3⟩
    have hsq := wl i σ3 H3 hil w3
    by_cases hlt : i < xs.length
    · have hx : xs[i]? = some xs[i] := List.getElem?_eq_getElem hlt
      refine thn (T.item (compCxC X (N ++ fs) scope cl G2.objs.size s1 H1) rfl rfl rfl hc i [] s3 σ3 H3 _ J3 (fpk fr3) st3 ⟨xs, _, hsq, hx⟩) fun r s4 ⟨u, hr, h4⟩ => ?_
      subst hr
      refine thn h4 fun _ s5 ⟨x, H5, J5, r5, ⟨e5, y5⟩, st5, fr5⟩ => ?_
      subst e5
      have ex := y5 xs hsq
      have J5' := J5.pinned (fpk (fr5 _ (by simp))) (T.obj _ _ st5)
      obtain ⟨hg, ht, hel⟩ := hb G2.objs.size s1 H1
      have back : ∀ {σ7 : L2.St} {H7 : Hp} {s7 : Shared}, Inv (compCxC X (N ++ fs) scope cl G2.objs.size s1 H1) ([] ++ pinsAt [s1.heap.objs.size] s5.heap) σ7 H7 s7 -> W (i + 1) σ7 H7 ->
          ∃ m, m < xs.length - i /\ ∃ i σ' H', m = xs.length - i /\ i <= xs.length /\ Inv (compCxC X (N ++ fs) scope cl G2.objs.size s1 H1) [] σ' H' s7 /\ s7.heap.IsListIter s1.heap.objs.size a i /\ H' s1.heap.objs.size = none /\ W i σ' H' := fun {σ7 H7 s7} J7 w7 => by
        refine ⟨xs.length - (i + 1), by omega, i + 1, σ7, H7, rfl, hlt, J7.unpinned, T.keep _ _ _ st5 fun b hb o e => (J7.pin (b, o) (List.mem_append_right _ (List.mem_append_right _ (mem_pinsAt hb e)))).1, ?_, w7⟩
        obtain ⟨o, e, d⟩ := T.obj _ _ st5 _ (List.mem_singleton.mpr rfl)
        exact (J7.pin (_, o) (List.mem_append_right _ (List.mem_append_right _ (mem_pinsAt (List.mem_singleton.mpr rfl) e)))).2.1
      refine thn (hg _ s5 σ3 H5 x u _ J5' r5 (ws G2.objs.size s1 H1 i x σ3 H5 ex w3)) fun _ s6 ⟨σ6, H6, J6, q6⟩ => ?_
      refine thn (ht _ s6 σ6 H6 _ J6 q6) fun ok s7 ⟨H7, J7, q7⟩ => ?_
      cases ok with
      | false => exact back J7 q7
      | true =>
        refine thn (hel _ s7 σ6 H7 _ J7 q7) fun y s8 ⟨yv, H8, J8, ry, ys, hys, hyl, w8⟩ => ?_
        refine thn (mt_append (X := compCxC X (N ++ fs) scope cl G2.objs.size s1 H1) _ s8 σ6 H8 (.ref G1.objs.size) [yv] (.ref G1.objs.size) [y] (fun _ H9 => W (i + 1) σ6 H9) J8 rfl (.cons ry .nil) ⟨_, ys, yv, rfl, rfl, hys, hyl, w8⟩) fun z s9 ⟨_, H9, J9, _, w9⟩ => ?_
        exact back J9 w9
    · have hie : i = xs.length := by omega
      subst hie
      refine thn (T.done (compCxC X (N ++ fs) scope cl G2.objs.size s1 H1) rfl rfl rfl hc xs.length [] s3 σ3 H3 _ J3 (fpk fr3) st3 ⟨xs, hsq, Nat.le_refl _⟩) fun r s4 ⟨hr, J4⟩ => ?_
      subst hr
      obtain ⟨m, hm, _⟩ := J4.loc
      have neC : ∀ b o, s1.heap.get? b = some o -> b ≠ G2.objs.size := fun b o e => Nat.ne_of_lt (Nat.lt_of_lt_of_le (Heap.lt_size e) (by rw [hC]; exact Nat.le_add_right _ _))
      have fC : H3 G2.objs.size = none := J4.free
      have trC : ∀ b v, H3 b = some v -> b ≠ G2.objs.size := fun b v e z => by rw [z, fC] at e; cases e
      have I4 : Inv X pins σ H3 s4 := I1.call' (s' := s4) (ch := []) J4.os J4.base J4.hok J4.bare (fun b z => nomatch z)
      have lC : X.env.locals ≠ G2.objs.size := by obtain ⟨m1, ns1, _⟩ := I1.loc; obtain ⟨o, _, _, ho, _⟩ := ns1; exact neC _ o ho
      have cC : ∀ x c, X.env.cells.lookup x = some c -> c ≠ G2.objs.size := fun x c e => by obtain ⟨v, o, ho, _⟩ := I1.cell x c e; exact neC _ o ho
      show wpAny _ X.A (assign (.Name y py) X.env (.ref G1.objs.size)) _ _ _
      refine wpAny_assign_Name (store_ok2 I4 hN hi0 hy (v := .ref G1.objs.size) rfl (fun s5 I5 ⟨a5, sb5, ha5⟩ => ?_) hf)
      have a5C : a5 ≠ G2.objs.size := by
        rcases ha5 with z | z
        · rw [z]; exact lC
        · exact cC _ _ z
      refine ⟨m, hm.sameBut sb5 a5C.symm, fun h' sb => ⟨_, H3, ?_, wd σ3 H3 w3⟩⟩
      have oth : ∀ b, b ≠ G2.objs.size -> h'.get? b = s5.heap.get? b := fun b nb => sb.2 b nb
      refine I5.step (h' := h') (g' := s5.gens) (t' := s5.toks) (d' := s5.drawn) (ch := [G2.objs.size]) (fun b hb => ?_) (fun b o _ _ nb e _ => (oth b (by simpa using nb)).trans e) (fun b o _ _ nb e _ => ⟨o.slots, (oth b (by simpa using nb)).trans e⟩) (fun b o _ _ n => n) (fun b o nb e => ⟨o, (oth b (by simpa using nb)).trans e⟩) (fun _ _ e => e) (fun _ _ _ e => e) (fun b ps e => ⟨#[], by rw [e]; simp⟩) (fun m2 ns2 => ns2.sameBut sb lC) (fun b v e => ?_) I5.bare
      · rw [List.mem_singleton.mp hb]
        refine ⟨.inr (Nat.le_trans I1.sz (by rw [hC]; exact Nat.le_add_right _ _)), lC.symm, cC, fun p hp => ?_⟩
        exact neC _ _ (I1.pin p hp).1
      · refine (I5.hok b v e).stay (fun c u hc q => (oth c ?_).trans q) (fun _ q => q) fun _ _ q => q
        rcases hc with rfl | hc
        · exact trC _ _ e
        · exact trC _ _ hc
  exact codeAny_compStart_list (loop _ J0 hit) (wpAny_pyIter_listiter hit (loop _ J0 hit))
theorem ps_comp0 {X : Cx} {i : Nat} {y : Str} {py spos : Pos} {elt target iter : Expr} {ifs : List Expr} {scope : Scope} {pos : Pos} {N fs : List Str} {js : List Nat} {cl : List (Str × Addr)} {ti : TE} (hti : ∀ σ H (Q Q' : VK), (∀ v H', Q v H' -> Q' v H') -> ti σ H Q -> ti σ H Q') (hc : X.calm = true) (hN : X.N.Nodup) (hi0 : X.N[i]? = some y) (hy : Loc X.env.scope y) (S : CompScopeC N fs scope) (hclos : closureFor scope X.env = pure cl) (L : CompClos X fs cl)
    (hjs : js.map (fun j => X.N[j]?) = fs.map some) (hvis : ∀ x ∈ fs, Vis X.env.scope x) (hi : PE X iter ti) (hsw : swapsWith (.ListComp elt [⟨target, iter, ifs, 0⟩] scope pos) (some (.Name y py)) spos.line X.env = pure true := by rfl) (hf : X.fn y = true ∨ X.env.scope.names.lookup y = some .local := by first | exact .inl rfl | exact .inr rfl | assumption) (hs : ∀ x, foldedSetIterable iter X.env x = pure x := by intro _; rfl) :
    PS X (.Assign [.Name y py] (.ListComp elt [⟨target, iter, ifs, 0⟩] scope pos) spos) (tAsg (tComp0 X.K ti) (gName i)) := by
  intro pins s σ H D I h
  refine ps_compC (tg := fun _ _ _ _ _ _ _ => False) (tt := fun _ _ _ _ _ _ => False) (te := fun _ _ _ _ _ _ => False) hc hN hi0 hy S hclos L hjs hvis hi (fun C s H => ⟨fun _ _ _ _ _ _ _ _ _ h => h.elim, fun _ _ _ _ _ _ h => h.elim, fun _ _ _ _ _ _ h => h.elim⟩) hsw hf hs pins s σ H D I ?_
  refine hti σ H _ _ (fun x H1 q => ?_) h
  obtain ⟨a, rfl, ha, k⟩ := q
  refine ⟨a, [], rfl, ha, fun D nD => ⟨fun i _ H' => H' = upd H1 D (.lst []), rfl, ?_, ?_, ?_⟩⟩
  · rintro i σ' H' _ rfl
    exact sqlN ha (same_new nD)
  · intro C s0 H0 i x σ' H' hx
    cases hx
  · rintro σ' H' rfl
    exact k D _ nD (same_new nD) upd_same
end NC
namespace NC
open PySem PySem.Spec PyProof.Rows L2
def top (i : Nat) : Stmt := PySem.Challenge.pw_namecall_k11_whole_at_once_by_single_ste.main.body.getD i (.Pass ⟨0, 0, 0, 0⟩)
structure NoNames (mg : Str -> Option Value) : Prop where
  len : mg "len" = none
  abs : mg "abs" = none
  isinstance : mg "isinstance" = none
  list : mg "list" = none
  tuple : mg "tuple" = none
  str : mg "str" = none
  reversed : mg "reversed" = none
  int : mg "int" = none
  bool : mg "bool" = none
  sorted : mg "sorted" = none
  range : mg "range" = none
  zip : mg "zip" = none
section
variable {P : Program} {w : World} {K : PySem.W.Frag} {mg : Str -> Option Value} {base : Heap}
seal L2.PE L2.PA L2.PT L2.PS L2.PSs L2.PW L2.PG L2.PGs L2.PI L2.PO L2.OpR L2.UnR L2.CallR L2.TruR L2.IxR L2.SlR
abbrev s_is_spot : Stmt := top 17
theorem sc_is_spot : FnScope ["part"] ["part"] (defScope s_is_spot) := ⟨rfl, rfl, rfl, by decide +kernel, rfl, by decide +kernel, by decide +kernel⟩
inductive Sp_is_spotI (vs : List V) (H : Hp) (Q : VK) : Prop where
  | mk (v : _) (t : _) (c1 : vs = [v]) (c2 : TermAt H v t) (c3 : Q (.bl t.isSpot) H)
def sp_is_spot : Sp := fun vs H Q u3_ => Sp_is_spotI vs H Q
theorem ok_is_spot {f : Addr} {fd : FuncData} (F : Fun K "is_spot" "is_spot" s_is_spot f fd) : FnOk P w K mg base CX0 1 f fd ["part"] sp_is_spot := by
  refine F.ok sc_is_spot (fun vs H Q E h => ?_) (fun cdv A outer s H vs Q E hr h => ?_)
  · obtain ⟨v, t, rfl, _⟩ := h
    rfl
  · obtain ⟨v, t, rfl, ht, k⟩ := h
    refine ⟨_, (pss_one (ps_ret (pe_and (pe_cmpR op_eq (pe_ix ix_tup (pv 0) pe_int (fun _ _ => rfl)) pe_str (nomark _)) (pe_one (pe_cmpR op_eq (pe_ix ix_tup (pe_ix ix_tup (pv 0) pe_int (fun _ _ => rfl)) pe_int (fun _ _ => rfl)) pe_str (nomark _)))))), ?_⟩
    cases ht with
    | name h => exact ⟨_, rfl, _, _, _, _, rfl, rfl, SqT.of h, at0, rfl, _, rfl, ifF n_nc k⟩
    | place h => exact ⟨_, rfl, _, _, _, _, rfl, rfl, SqT.of h, at0, rfl, _, rfl, ifF n_pc k⟩
    | form h _ => exact ⟨_, rfl, _, _, _, _, rfl, rfl, SqT.of h, at0, rfl, _, rfl, ifF n_fc k⟩
    | call h hx hy =>
      obtain ⟨a', y, r, rfl, h'⟩ := hx.tup
      refine ⟨_, rfl, _, _, _, _, rfl, rfl, SqT.of h, at0, rfl, _, rfl, ifT rfl ⟨_, rfl, _, _, _, _, rfl, rfl, SqT.of h, at1, _, _, _, _, rfl, rfl, SqT.of h', at0, rfl, ?_⟩⟩
      rw [tag_form]
      exact k
abbrev s__law_calls_of_forms : Stmt := top 36
theorem sc__law_calls_of_forms : FnScope ["_law_term", "_law_found", "_law_todo", "_law_part", "_law_path"] ["_law_term"] (defScope s__law_calls_of_forms) := ⟨rfl, rfl, rfl, by decide +kernel, rfl, by decide +kernel, by decide +kernel⟩
inductive InvCallsI (H : Hp) (v : V) (t : Tm) (f d : Addr) (m : Nat) (σ : L2.St) (H' : Hp) : Prop where
  | mk (its : _) (xs : _) (fs : _) (ps : _) (x3 : _) (x4 : _) (c1 : σ = [some v, some (.ref f), some (.ref d), x3, x4]) (c2 : Same H H') (c3 : H' f = some (.lst fs)) (c4 : H' d = some (.lst xs)) (c5 : Paired (ItemN [f, d] H') xs its) (c6 : Paired (PathN [f, d] H') fs ps) (c7 : (ps ++ pend its).Perm t.spots) (c8 : m = sizes its) (c9 : sizes its <= t.size) (c10 : ∀ q ∈ its, q.2.length + q.1.size <= t.size)
def InvCalls (H : Hp) (v : V) (t : Tm) (f d : Addr) (m : Nat) (σ : L2.St) (H' : Hp) : Prop := InvCallsI H v t f d m σ H'
inductive Sp_callsI (vs : List V) (H : Hp) (Q : VK) : Prop where
  | mk (v : _) (t : _) (c1 : vs = [v]) (c2 : TermAt H v t) (c3 : t.size <= 190) (c4 : ∀ l rs H', Same H H' -> H l = none -> H' l = some (.lst rs) -> Paired (PathV H') rs t.spots -> Q (.ref l) H')
def sp_calls : Sp := fun vs H Q u3_ => Sp_callsI vs H Q
theorem ok__law_calls_of_forms {f : Addr} {fd : FuncData} (F : Fun K "_law_calls_of_forms" "_law_calls_of_forms" s__law_calls_of_forms f fd) (N_ : NoNames mg) : FnOk P w K mg base CX0 2 f fd ["_law_term"] sp_calls := by
  refine F.ok sc__law_calls_of_forms (fun vs H Q E h => ?_) (fun cdv A outer s H vs Q E hr h => ?_)
  · obtain ⟨v, t, rfl, _⟩ := h
    rfl
  · obtain ⟨v, t, rfl, ht, hsz, k⟩ := h
    have hu0 := hr.units0
    have hu8 := Nat.lt_of_le_of_lt (Nat.add_le_add_left (by decide : 8 <= 64) _) hr.units
    refine ⟨_, (pss_cons (ps_set (i := 1) sc__law_calls_of_forms.nd rfl (Or.inl rfl) (pLst pa_nil))
      (pss_cons (ps_set (i := 2) sc__law_calls_of_forms.nd rfl (Or.inl rfl) (pLst (pa_c (pTup (pa_c (pv 0) (pa_c (pLst pa_nil) pa_nil))) pa_nil)))
      (pss_cons (ps_while PassesOwn.never (pt_cmpR (op_neNil hu0) (pv 2) (pLst pa_nil) (nomark _)) (pss_cons (ps_asg (pPop (pv 2)) (pg_tup rfl (pgs_cons (pg_name (i := 3) sc__law_calls_of_forms.nd rfl (Or.inl rfl)) (pgs_cons (pg_name (i := 4) sc__law_calls_of_forms.nd rfl (Or.inl rfl)) pgs_nil))))
      (pss_cons (ps_if (pt_cmpR op_eq (pe_ix ix_tup (pv 3) pe_int (fun _ _ => rfl)) pe_str (nomark _)) (pss_one (ps_expr (pApp (pv 2) (pTup (pa_c (pe_ix ix_tup (pv 3) pe_int (fun _ _ => rfl)) (pa_c (pe_op op_ct (pv 4) (pLst (pa_c pe_int pa_nil))) pa_nil)))))) pss_nil)
      (pss_one (ps_if (pt_cmpR op_eq (pe_ix ix_tup (pv 3) pe_int (fun _ _ => rfl)) pe_str (nomark _)) (pss_cons (ps_expr (pApp (pv 2) (pTup (pa_c (pe_ix ix_tup (pv 3) pe_int (fun _ _ => rfl)) (pa_c (pe_op op_ct (pv 4) (pLst (pa_c pe_int pa_nil))) pa_nil)))))
      (pss_cons (ps_expr (pApp (pv 2) (pTup (pa_c (pe_ix ix_tup (pv 3) pe_int (fun _ _ => rfl)) (pa_c (pe_op op_ct (pv 4) (pLst (pa_c pe_int pa_nil))) pa_nil)))))
      (pss_one (ps_if (pt_cmpR op_eq (pe_ix ix_tup (pe_ix ix_tup (pv 3) pe_int (fun _ _ => rfl)) pe_int (fun _ _ => rfl)) pe_str (nomark _)) (pss_one (ps_expr (pApp (pv 1) (pv 4)))) pss_nil)))) pss_nil)))))
      (pss_one (ps_ret (pCB (call_sortP hu8) (by rfl) N_.sorted boot_sorted (pa_c (pv 1) pa_nil))))))), ?_⟩
    show (let V1_ : TS := _; let V2_ : TS := _; let V3_ : TS := tIfS _ V2_ _; let V4_ : TS := tSeq _ V3_; let V5_ : TS := tSeq _ V4_; let V6_ : TS := tIfS _ V5_ _; let V7_ : TS := _; let V8_ : TS := tSeq (tIfS _ V7_ _) V6_; let V9_ : TS := tSeq _ V8_; let V10_ : TS := tSeq (tWhile _ V9_) V1_; let V11_ : TS := tSeq _ V10_; tSeq _ V11_ _ _ _)
    intro V1_ V2_ V3_ V4_ V5_ V6_ V7_ V8_ V9_ V10_ V11_
    refine ⟨small' (by simp), fun f H1 nf s1 hf1 => ⟨_, rfl, small' (by simp), fun pl H2 npl s2 hpl2 => ⟨small' (by simp), fun q H3 nq s3 hq3 => ⟨small' (by simp), fun d H4 nd s4 hd4 => ?_⟩⟩⟩⟩
    have s04 : Same H H4 := ((s1.trans s2).trans s3).trans s4
    have hf4 : H4 f = some (.lst []) := s4 _ _ (s3 _ _ (s2 _ _ hf1))
    have nfd : f ≠ d := ne_of_none (s3 _ _ (s2 _ _ hf1)) nd
    have hpl3 := s3 _ _ hpl2
    have n_f : H f = none := nf
    have n_d : H d = none := (s1.trans (s2.trans s3)).free nd
    have nL : ∀ x ∈ [f, d], H x = none := fun x hx => by
      rcases List.mem_cons.mp hx with e | hx
      · rw [e]; exact n_f
      · rw [List.mem_singleton.mp hx]; exact n_d
    have plf : pl ≠ f := (ne_of_none hf1 npl).symm
    have pld : pl ≠ d := ne_of_none hpl3 nd
    refine ⟨InvCalls H v t f d, ⟨sizes [(t, [])], ?_⟩, ?_⟩
    · refine ⟨[(t, [])], [.ref q], [], [], none, none, rfl, s04, hf4, hd4, .cons ⟨q, v, .ref pl, rfl, s4 _ _ hq3, ht.same s04, pl, rfl, by simp [plf, pld], s4 _ _ hpl3⟩ .nil, .nil, ?_, rfl, ?_, ?_⟩
      · show ([] ++ (under [] t ++ [])).Perm _
        rw [List.append_nil, List.nil_append, under_nil]
      · show t.size + 0 <= t.size
        omega
      · intro q hq
        rw [List.mem_singleton.mp hq]
        show 0 + t.size <= t.size
        omega
    · rintro m σ H5 ⟨its, xs, fs, ps, x3, x4, rfl, s5, hf5, hd5, hit, hps, heq, rfl, hsum, hall⟩
      refine ⟨_, rfl, small' (by simp), fun e0 H5' ne0 s5' he0 => ⟨_, _, _, rfl, rfl, SqL.of (s5' _ _ hd5), SqL.of he0, _, rfl, ?_⟩⟩
      have hf5' := s5' _ _ hf5
      have hd5' := s5' _ _ hd5
      have K5 : Keep [f, d] H5 H5' := Keep.of_same s5'
      have hL0 := lists2 hf5 hd5
      have hit := paired_imp (fun a b h => ItemN.keep h K5 hL0) hit
      have hps := paired_imp (fun a b h => PathN.keep h K5) hps
      have s5 := s5.trans s5'
      clear hf5 hd5 hL0 K5
      by_cases hnil : its = []
      · subst hnil
        cases paired_nil hit
        have e : ps.Perm t.spots := by
          have := heq
          unfold pend at this
          simpa using this
        have hlen : fs.length < 64 := by
          rw [Paired.length hps, e.length_eq]
          have := spots_len t
          omega
        refine iteF ⟨_, rfl, _, _, _, rfl, SqL.of hf5', hlen, paired_imp (fun a b h => h.path) hps, fun vs' ps' l H' pm srt pr nl sm hl => ?_⟩
        have e2 : t.spots = ps' := same_of_sorted ((pm.trans e).symm) (spots_sorted t) srt
        subst e2
        exact k l vs' H' (s5.trans sm) (s5.free nl) hl (paired_imp (fun a b h => h.same sm) pr)
      · obtain ⟨its', ⟨t1, p1⟩, rfl⟩ := snoc_of hnil
        obtain ⟨xs', x, rfl, hit', a, tv, pv, rfl, ha, htv, hpv⟩ := paired_snoc_inv hit
        have htv : TermAt H5' tv t1 := htv
        have hpv : PathN [f, d] H5' pv p1 := hpv
        have hne : (!(xs' ++ [V.ref a]).isEmpty) = true := by simp
        rw [show (if true = true then !(xs' ++ [V.ref a]).isEmpty else (xs' ++ [V.ref a]).isEmpty) = true by simp]
        refine iteT ⟨fun σ' H' => ∃ m', m' < sizes (its' ++ [(t1, p1)]) /\ InvCalls H v t f d m' σ' H', fun _ _ h => h, ?_⟩
        refine ⟨_, rfl, Or.inl ⟨rfl, _, SqL.of hd5'⟩, d, xs', .ref a, rfl, rfl, hd5', fun H6 k6 hd6 => ?_⟩
        have hL := lists2 hf5' hd5'
        have K6 : Keep [f, d] H5' H6 := k6.sub (by simp)
        have tu6 := K6.tups hL
        have ha6 := tu6 _ _ ha
        have htv6 := htv.mono tu6
        obtain ⟨l, rfl, nl, hl6⟩ := hpv.keep K6
        have hf6 : H6 f = some (.lst fs) := k6.at hf5' nfd
        have s6 : Same H H6 := same_keep s5 K6 nL
        have it6 := paired_imp (fun a b h => ItemN.keep h K6 hL) hit'
        have ps6 := paired_imp (fun a b h => PathN.keep h K6) hps
        have hL6 := lists2 hf6 hd6
        rw [pend_snoc] at heq
        rw [sizes_snoc] at hsum
        rw [sizes_snoc]
        have hall' : ∀ q ∈ its', q.2.length + q.1.size <= t.size := fun q hq => hall q (List.mem_append_left _ hq)
        have hq1 : p1.length + t1.size <= t.size := hall (t1, p1) (by simp)
        have hs1 : sizes its' + t1.size <= t.size := hsum
        have hxl : xs'.length <= t.size := by
          rw [Paired.length it6]
          have := len_sizes its'
          omega
        have hpl1 : ps.length <= t.size := by
          have h1 := heq.length_eq
          have h2 := spots_len t
          rw [List.length_append] at h1
          omega
        have hfl : fs.length <= t.size := by rw [Paired.length ps6]; exact hpl1
        refine ⟨a, _, rfl, SqT.of ha6, rfl, _, _, rfl, _, _, rfl, rfl, ?_⟩
        have heq : (ps ++ (under p1 t1 ++ pend its')).Perm t.spots := heq
        cases htv6 with
        | name h =>
          refine ⟨_, rfl, _, _, _, _, rfl, rfl, SqT.of h, at0, rfl, _, rfl, ifF n_nf ⟨_, rfl, _, _, _, _, rfl, rfl, SqT.of h, at0, rfl, _, rfl, ifF n_nc ?_⟩⟩
          exact ⟨_, by show sizes its' < sizes its' + 1; omega, its', xs', fs, ps, _, _, rfl, s6, hf6, hd6, it6, ps6, heq, rfl, by omega, hall'⟩
        | place h =>
          refine ⟨_, rfl, _, _, _, _, rfl, rfl, SqT.of h, at0, rfl, _, rfl, ifF n_pf ⟨_, rfl, _, _, _, _, rfl, rfl, SqT.of h, at0, rfl, _, rfl, ifF n_pc ?_⟩⟩
          exact ⟨_, by show sizes its' < sizes its' + 1; omega, its', xs', fs, ps, _, _, rfl, s6, hf6, hd6, it6, ps6, heq, rfl, by omega, hall'⟩
        | @form a1 bv b h hb =>
          refine ⟨_, rfl, _, _, _, _, rfl, rfl, SqT.of h, at0, rfl, _, rfl, ifT rfl ?_⟩
          have hbs : T.size (.form b : Tm) = b.size + 1 := rfl
          refine rd_push rfl rfl rfl h at1 hl6 hd6 (by omega) (by omega) fun b8 b9 H10 k10 hd10 n9 n8 h9 h8 => ?_
          have K10 : Keep [f, d] H6 H10 := k10.sub (by simp)
          have n8L : b8 ∉ [f, d] := by simp [(ne_of_none hf6 n8).symm, (ne_of_none hd6 n8).symm]
          have h10 := K10.tups hL6 _ _ h
          refine ⟨_, rfl, _, _, _, _, rfl, rfl, SqT.of h10, at0, rfl, _, rfl, ifF n_fc ?_⟩
          refine ⟨_, ?_, its' ++ [(b, p1 ++ [0])], _, fs, ps, _, _, rfl, same_keep s6 K10 nL, k10.at hf6 nfd, hd10, paired_snoc ⟨b9, _, _, rfl, h9, hb.mono (K10.tups hL6), b8, rfl, n8L, h8⟩ (paired_imp (fun a b h => ItemN.keep h K10 hL6) it6), paired_imp (fun a b h => PathN.keep h K10) ps6, ?_, rfl, ?_, ?_⟩
          · rw [sizes_snoc]; show sizes its' + b.size < sizes its' + (b.size + 1); omega
          · rw [pend_snoc, <- under_form]; exact heq
          · rw [sizes_snoc]; show sizes its' + b.size <= t.size; omega
          · intro q hq
            rcases List.mem_append.mp hq with hq | hq
            · exact hall' q hq
            · rw [List.mem_singleton.mp hq]
              show (p1 ++ [0]).length + b.size <= t.size
              rw [List.length_append, List.length_singleton]
              omega
        | @call a1 xv yv x y h hx hy =>
          have hcs : T.size (.call x y : Tm) = x.size + y.size + 1 := rfl
          refine ⟨_, rfl, _, _, _, _, rfl, rfl, SqT.of h, at0, rfl, _, rfl, ifF n_cf ⟨_, rfl, _, _, _, _, rfl, rfl, SqT.of h, at0, rfl, _, rfl, ifT rfl ?_⟩⟩
          refine rd_push rfl rfl rfl h at1 hl6 hd6 (by omega) (by omega) fun b8 b9 H7 k7 hd7 n9 n8 h9 h8 => ?_
          have K7 : Keep [f, d] H6 H7 := k7.sub (by simp)
          have n8L : b8 ∉ [f, d] := by simp [(ne_of_none hf6 n8).symm, (ne_of_none hd6 n8).symm]
          have h7 := K7.tups hL6 _ _ h
          have hf7 := k7.at hf6 nfd
          have hL7 := lists2 hf7 hd7
          refine rd_push rfl rfl rfl h7 at2 (K7 _ _ nl hl6) hd7 (by rw [List.length_append, List.length_singleton]; omega) (by omega) fun c8 c9 H8 k8 hd8 m9 m8 g9 g8 => ?_
          have K8 : Keep [f, d] H7 H8 := k8.sub (by simp)
          have m8L : c8 ∉ [f, d] := by simp [(ne_of_none hf7 m8).symm, (ne_of_none hd7 m8).symm]
          have h8c := K8.tups hL7 _ _ h7
          have hf8 := k8.at hf7 nfd
          have K68 := K7.trans K8
          obtain ⟨a', z, r, ev, hx'⟩ := (hx.mono (K68.tups hL6)).tup
          have it8 := paired_snoc (F := ItemN [f, d] H8) (x := V.ref c9) (y := (y, p1 ++ [1])) ⟨c9, _, _, rfl, g9, hy.mono (K68.tups hL6), c8, rfl, m8L, g8⟩
            (paired_imp (fun a b h => ItemN.keep h K8 hL7) (paired_snoc (F := ItemN [f, d] H7) (x := V.ref b9) (y := (x, p1 ++ [0])) ⟨b9, _, _, rfl, h9, hx.mono (K7.tups hL6), b8, rfl, n8L, h8⟩ (paired_imp (fun a b h => ItemN.keep h K7 hL6) it6)))
          have ps8 := paired_imp (fun a b h => PathN.keep h K68) ps6
          have hlt : sizes ((its' ++ [(x, p1 ++ [0])]) ++ [(y, p1 ++ [1])]) < sizes its' + (x.size + y.size + 1) := by
            rw [sizes_snoc, sizes_snoc]
            show sizes its' + x.size + y.size < _
            omega
          have hle : sizes ((its' ++ [(x, p1 ++ [0])]) ++ [(y, p1 ++ [1])]) <= t.size := by omega
          have hal : ∀ q ∈ (its' ++ [(x, p1 ++ [0])]) ++ [(y, p1 ++ [1])], q.2.length + q.1.size <= t.size := by
            intro q hq
            rcases List.mem_append.mp hq with hq | hq
            · rcases List.mem_append.mp hq with hq | hq
              · exact hall' q hq
              · rw [List.mem_singleton.mp hq]
                show (p1 ++ [0]).length + x.size <= t.size
                rw [List.length_append, List.length_singleton]
                omega
            · rw [List.mem_singleton.mp hq]
              show (p1 ++ [1]).length + y.size <= t.size
              rw [List.length_append, List.length_singleton]
              omega
          subst ev
          refine ⟨_, rfl, _, _, _, _, rfl, rfl, SqT.of h8c, at1, _, _, _, _, rfl, rfl, SqT.of hx', at0, rfl, _, rfl, ?_⟩
          rw [tag_form]
          refine ifB (fun e => ?_) (fun e => ?_)
          · refine ⟨_, rfl, Or.inl ⟨rfl, _, SqL.of hf8⟩, _, rfl, _, _, _, rfl, rfl, hf8, small (by omega), fun H9 k9 hf9 => ?_⟩
            have K9 : Keep [f, d] H8 H9 := k9.sub (by simp)
            have hL8 := lists2 hf8 hd8
            refine ⟨_, hlt, _, _, _, _, _, _, rfl, same_keep s6 (K68.trans K9) nL, hf9, k9.at hd8 nfd.symm, paired_imp (fun a b h => ItemN.keep h K9 hL8) it8,
              paired_snoc (x := V.ref l) (y := p1) ⟨l, rfl, nl, K9 _ _ nl (K68 _ _ nl hl6)⟩ (paired_imp (fun a b h => PathN.keep h K9) ps8), ?_, rfl, hle, hal⟩
            rw [pend_snoc, pend_snoc]
            refine List.Perm.trans ?_ heq
            rw [under_call, if_pos e, List.append_assoc, List.append_assoc]
            refine List.Perm.append_left _ (List.Perm.append_left _ ?_)
            rw [List.append_assoc, <- List.append_assoc, <- List.append_assoc]
            exact List.Perm.append_right _ List.perm_append_comm
          · refine ⟨_, hlt, _, _, _, _, _, _, rfl, same_keep s6 K68 nL, hf8, hd8, it8, ps8, ?_, rfl, hle, hal⟩
            rw [pend_snoc, pend_snoc]
            refine List.Perm.trans ?_ heq
            rw [under_call, if_neg (by rw [e]; exact Bool.false_ne_true), List.nil_append]
            refine List.Perm.append_left _ ?_
            rw [List.append_assoc, <- List.append_assoc, <- List.append_assoc]
            exact List.Perm.append_right _ List.perm_append_comm
abbrev s__law_whole : Stmt := top 29
theorem sc__law_whole : FnScope ["_law_found"] ["_law_found"] (defScope s__law_whole) := ⟨rfl, rfl, rfl, by decide +kernel, rfl, by decide +kernel, by decide +kernel⟩
inductive Sp_wholeI (vs : List V) (H : Hp) (Q : VK) : Prop where
  | mk (i : _) (c1 : vs = [.int i]) (c2 : Q (.bl true) H)
def sp_whole : Sp := fun vs H Q u3_ => Sp_wholeI vs H Q
theorem ok__law_whole {f : Addr} {fd : FuncData} (F : Fun K "_law_whole" "_law_whole" s__law_whole f fd) (N_ : NoNames mg) : FnOk P w K mg base CX0 1 f fd ["_law_found"] sp_whole := by
  refine F.ok sc__law_whole (fun vs H Q E h => ?_) (fun cdv A outer s H vs Q E hr h => ?_)
  · obtain ⟨i, rfl, _⟩ := h
    rfl
  · obtain ⟨i, rfl, k⟩ := h
    refine ⟨_, (pss_one (ps_ret (pe_and (pCB call_isi (by rfl) N_.isinstance boot_isinstance (pa_c (pv 0) (pa_c (pe_bltn (v := V.ty "int") rfl N_.int boot_int rfl) pa_nil))) (pe_one (pe_not (pCB call_isi (by rfl) N_.isinstance boot_isinstance (pa_c (pv 0) (pa_c (pe_bltn (v := V.ty "bool") rfl N_.bool boot_bool rfl) pa_nil)))))))), ?_⟩
    exact ⟨_, rfl, _, _, _, _, rfl, .int i, kit_ii K, _, rfl, iteT ⟨_, rfl, _, _, _, _, rfl, .int i, kit_ib K, _, rfl, k⟩⟩
abbrev s__law_any : Stmt := top 44
theorem sc__law_any : FnScope ["_law_cell", "_law_size"] ["_law_cell"] (defScope s__law_any) := ⟨rfl, rfl, rfl, by decide +kernel, rfl, by decide +kernel, by decide +kernel⟩
inductive Sp_anyI (vs : List V) (H : Hp) (Q : VK) : Prop where
  | mk (c : _) (c1 : vs = [.int c]) (c2 : ∀ i H', Same H H' -> Q (.int i) H')
def sp_any : Sp := fun vs H Q u3_ => Sp_anyI vs H Q
theorem ok__law_any {f : Addr} {fd : FuncData} (F : Fun K "_law_any" "_law_any" s__law_any f fd) : FnOk P w K mg base CX0 1 f fd ["_law_cell"] sp_any := by
  refine F.ok sc__law_any (fun vs H Q E h => ?_) (fun cdv A outer s H vs Q E hr h => ?_)
  · obtain ⟨c, rfl, _⟩ := h
    rfl
  · obtain ⟨c, rfl, k⟩ := h
    refine ⟨_, (pss_cons (ps_set (i := 1) sc__law_any.nd rfl (Or.inl rfl) (pe_op op_mod (pe_op op_fdiv (pv 0) pe_int) (pe_op op_pow pe_int pe_int)))
      (pss_one (ps_ret (pe_op op_mul (pv 1) (pe_ix ix_list (pLst (pa_c pe_int (pa_c (pe_un un_neg pe_int) pa_nil))) (pe_op op_mod (pv 0) pe_int) (fun _ _ => rfl)))))), ?_⟩
    show (let V1_ : TS := _; tSeq _ V1_ _ _ _)
    intro V1_
    refine ⟨_, rfl, _, _, rfl, rfl, ⟨by decide, by decide⟩, _, _, rfl, rfl, ⟨by decide, by decide, by decide⟩, _, _, rfl, rfl, (show (0 : Int) < 10 ^ (59 : Int).toNat by decide +kernel), ?_⟩
    refine ⟨_, rfl, _, rfl, small' (by simp), fun p H1 np s1 h1 => ⟨_, rfl, _, _, rfl, rfl, (show (0 : Int) < 2 by decide), ?_⟩⟩
    have hc : c % 2 = 0 ∨ c % 2 = 1 := by omega
    rcases hc with e | e
    · refine ⟨_, _, _, _, rfl, rfl, SqL.of h1, by rw [e]; exact at0, _, _, rfl, rfl, Or.inr ⟨by decide, by decide⟩, k _ _ s1⟩
    · refine ⟨_, _, _, _, rfl, rfl, SqL.of h1, by rw [e]; exact at1, _, _, rfl, rfl, Or.inr ⟨by decide, by decide⟩, k _ _ s1⟩
abbrev s__law_any_word : Stmt := top 43
theorem sc__law_any_word : FnScope ["_law_cell", "_law_left", "_law_word"] ["_law_cell"] (defScope s__law_any_word) := ⟨rfl, rfl, rfl, by decide +kernel, rfl, by decide +kernel, by decide +kernel⟩
inductive Sp_any_wordI (vs : List V) (H : Hp) (Q : VK) : Prop where
  | mk (c : _) (c1 : vs = [.int c]) (c2 : ∀ w : Str, Q (.str w) H)
def sp_any_word : Sp := fun vs H Q u3_ => Sp_any_wordI vs H Q
theorem word_bound {k L : Nat} (h : 26 ^ k * L <= 10 ^ 39) (hL : 1 <= L) : k <= 28 := by
  refine Nat.le_of_not_lt fun z => ?_
  have h1 : 26 ^ 28 <= 26 ^ k := Nat.pow_le_pow_right (by decide) (by omega)
  have h2 : 26 ^ k * 1 <= 26 ^ k * L := Nat.mul_le_mul_left _ hL
  have h3 : ¬ (26 ^ 28 <= 10 ^ 39) := by decide +kernel
  omega
theorem ok__law_any_word {f : Addr} {fd : FuncData} (F : Fun K "_law_any_word" "_law_any_word" s__law_any_word f fd) (N_ : NoNames mg) : FnOk P w K mg base CX0 1 f fd ["_law_cell"] sp_any_word := by
  refine F.ok sc__law_any_word (fun vs H Q E h => ?_) (fun cdv A outer s H vs Q E hr h => ?_)
  · obtain ⟨c, rfl, _⟩ := h
    rfl
  · obtain ⟨c, rfl, k⟩ := h
    refine ⟨_, (pss_cons (ps_set (i := 1) sc__law_any_word.nd rfl (Or.inl rfl) (pe_op op_mod (pCB call_abs (by rfl) N_.abs boot_abs (pa_c (pv 0) pa_nil)) (pe_op op_pow pe_int pe_int)))
      (pss_cons (ps_set (i := 2) sc__law_any_word.nd rfl (Or.inl rfl) pe_str)
      (pss_cons (ps_while PassesOwn.never (pt_cmpR op_ge (pv 1) pe_int (nomark _)) (pss_cons (ps_set (i := 2) sc__law_any_word.nd rfl (Or.inl rfl) (pe_op op_add_str (pe_ix ix_str pe_str (pe_op op_mod (pv 1) pe_int) (fun _ _ => rfl)) (pv 2)))
      (pss_one (ps_set (i := 1) sc__law_any_word.nd rfl (Or.inl rfl) (pe_op op_sub (pe_op op_fdiv (pv 1) pe_int) pe_int)))))
      (pss_one (ps_ret (pv 2)))))), ?_⟩
    show (let V1_ : TS := _; let V2_ : TS := _; let V3_ : TS := tSeq _ V2_; let V4_ : TS := tSeq (tWhile _ V3_) V1_; let V5_ : TS := tSeq _ V4_; tSeq _ V5_ _ _ _)
    intro V1_ V2_ V3_ V4_ V5_
    refine ⟨_, rfl, _, rfl, _, _, rfl, rfl, ⟨by decide, by decide, by decide⟩, _, _, rfl, rfl, (show (0 : Int) < 10 ^ (39 : Int).toNat by decide +kernel), ?_⟩
    obtain ⟨M, hM⟩ : ∃ M, ((if c < 0 then -c else c) % (10 : Int) ^ ((39 : Int).toNat)) = M := ⟨_, rfl⟩
    have hM0 : 0 <= M := by rw [<- hM]; exact Int.emod_nonneg _ (by decide +kernel)
    have hM1 : M < 10 ^ 39 := by rw [<- hM]; exact Int.emod_lt_of_pos _ (by decide +kernel)
    refine ⟨fun m σ H' => ∃ (n : Nat) (w : Str), σ = [some (.int c), some (.int ((m : Int) - 1)), some (.str w)] /\ H' = H /\ w.length = n /\ 26 ^ n * m <= 10 ^ 39, ⟨M.toNat + 1, 0, "", ?_, rfl, rfl, ?_⟩, ?_⟩
    · have e : ((M.toNat + 1 : Nat) : Int) - 1 = M := by omega
      rw [e, <- hM]
      rfl
    · have : M.toNat + 1 <= 10 ^ 39 := by omega
      simpa using this
    · rintro m σ H' ⟨n, w, rfl, rfl, hn, hb⟩
      refine ⟨_, rfl, _, _, rfl, rfl, _, rfl, ifD (fun hc => ?_) (fun hc => ⟨_, rfl, k w⟩)⟩
      have hm : 1 <= m := by omega
      have hn28 := word_bound hb hm
      refine ⟨fun σ' H'' => ∃ m', m' < m /\ ∃ (n : Nat) (w : Str), σ' = [some (.int c), some (.int ((m' : Int) - 1)), some (.str w)] /\ H'' = H' /\ w.length = n /\ 26 ^ n * m' <= 10 ^ 39, fun _ _ h => h, ?_⟩
      obtain ⟨ch, hch, _⟩ := atL (xs := (Str.ofString "abcdefghijklmnopqrstuvwxyz").cps.toList) (i := ((m : Int) - 1) % 26) (by omega) (by
        rw [show (Str.ofString "abcdefghijklmnopqrstuvwxyz").cps.toList.length = 26 by decide +kernel]; omega)
      refine ⟨_, rfl, _, _, rfl, rfl, (show (0 : Int) < 26 by decide), _, _, _, rfl, rfl, small' (by decide +kernel), hch, _, rfl, _, _, rfl, rfl, small' (by rw [hn]; show 1 + n <= _; omega), ?_⟩
      refine ⟨_, rfl, _, _, rfl, rfl, ⟨by decide, by decide⟩, _, _, rfl, rfl, ?_⟩
      refine ⟨(m - 1) / 26, by omega, n + 1, ⟨#[ch]⟩ ++ w, ?_, rfl, ?_, ?_⟩
      · have e : ((m : Int) - 1) / 26 - 1 = (((m - 1) / 26 : Nat) : Int) - 1 := by omega
        rw [<- e]
        rfl
      · rw [Str.length_append, hn]
        show 1 + n = n + 1
        omega
      · have h1 : 26 ^ (n + 1) * ((m - 1) / 26) = 26 ^ n * (26 * ((m - 1) / 26)) := by rw [Nat.pow_succ, Nat.mul_assoc]
        rw [h1]
        refine Nat.le_trans (Nat.mul_le_mul_left _ ?_) hb
        omega
abbrev s__law_room : Stmt := top 45
theorem sc__law_room : FnScope ["_law_script", "_law_most", "_law_bound"] ["_law_script", "_law_most", "_law_bound"] (defScope s__law_room) := ⟨rfl, rfl, rfl, by decide +kernel, rfl, by decide +kernel, by decide +kernel⟩
inductive Sp_roomI (K : PySem.W.Frag) (vs : List V) (H : Hp) (Q : VK) : Prop where
  | mk (a : _) (ns : List Int) (m : _) (b : _) (c1 : vs = [.ref a, m, b]) (c2 : SqL K H a (ns.map V.int)) (c3 : ns.length <= 63) (c4 : Q m H)
def sp_room (K : PySem.W.Frag) : Sp := fun vs H Q u3_ => Sp_roomI K vs H Q
theorem ok__law_room {f : Addr} {fd : FuncData} (F : Fun K "_law_room" "_law_room" s__law_room f fd) (N_ : NoNames mg) : FnOk P w K mg base CX0 1 f fd ["_law_script", "_law_most", "_law_bound"] (sp_room K) := by
  refine F.ok sc__law_room (fun vs H Q E h => ?_) (fun cdv A outer s H vs Q E hr h => ?_)
  · obtain ⟨a, ns, m, b, rfl, _⟩ := h
    rfl
  · obtain ⟨a, ns, m, b, rfl, hS, hl, k⟩ := h
    refine ⟨_, (pss_cons (ps_if (pt_cmpR op_gt (pCB call_len_seq (by rfl) N_.len boot_len (pa_c (pv 0) pa_nil)) pe_int (nomark _)) (pss_one (ps_ret (pv 2))) pss_nil)
      (pss_one (ps_ret (pv 1)))), ?_⟩
    show (let V1_ : TS := _; let V2_ : TS := _; tSeq (tIfS _ V2_ _) V1_ _ _ _)
    intro V1_ V2_
    exact ⟨_, rfl, _, _, rfl, Or.inl hS, _, _, rfl, rfl, _, rfl, ifF (by rw [List.length_map]; omega) ⟨_, rfl, k⟩⟩
abbrev s__law_are_paths : Stmt := top 39
theorem sc__law_are_paths : FnScope ["_law_found", "_law_path", "_law_turn"] ["_law_found"] (defScope s__law_are_paths) := ⟨rfl, rfl, rfl, by decide +kernel, rfl, by decide +kernel, by decide +kernel⟩
inductive Sp_are_pathsI (vs : List V) (H : Hp) (Q : VK) : Prop where
  | mk (a : _) (rs : _) (ps : _) (c1 : vs = [.ref a]) (c2 : H a = some (.lst rs)) (c3 : Paired (PathV H) rs ps) (c4 : Q (.bl true) H)
def sp_are_paths : Sp := fun vs H Q u3_ => Sp_are_pathsI vs H Q
theorem ok__law_are_paths {f : Addr} {fd : FuncData} (F : Fun K "_law_are_paths" "_law_are_paths" s__law_are_paths f fd) (N_ : NoNames mg) (G__law_whole : GF P w K mg base CX0 1 "_law_whole" ["_law_found"] sp_whole) :
    FnOk P w K mg base CX0 2 f fd ["_law_found"] sp_are_paths := by
  refine F.ok sc__law_are_paths (fun vs H Q E h => ?_) (fun cdv A outer s H vs Q E hr h => ?_)
  · obtain ⟨a, rs, ps, rfl, _⟩ := h
    rfl
  · obtain ⟨a, rs, ps, rfl, ha, hp, k⟩ := h
    refine ⟨_, (pss_cons (ps_if (pt_not (pt_val (pCB call_isi (by rfl) N_.isinstance boot_isinstance (pa_c (pv 0) (pa_c (pe_bltn (v := V.ty "list") rfl N_.list boot_list rfl) pa_nil))))) (pss_one (ps_ret pe_bl)) pss_nil)
      (pss_cons (ps_for PassesOwn.never rfl (pi_list (pv 0)) (pg_name (i := 1) sc__law_are_paths.nd rfl (Or.inl rfl)) (pss_cons (ps_if (pt_not (pt_val (pCB call_isi (by rfl) N_.isinstance boot_isinstance (pa_c (pv 1) (pa_c (pe_bltn (v := V.ty "list") rfl N_.list boot_list rfl) pa_nil))))) (pss_one (ps_ret pe_bl)) pss_nil)
      (pss_one (ps_for PassesOwn.never rfl (pi_list (pv 1)) (pg_name (i := 2) sc__law_are_paths.nd rfl (Or.inl rfl)) (pss_one (ps_if (pt_not (pt_val (pe_gf G__law_whole (hr.mono (by decide)) rfl pass0 (pa_c (pv 2) pa_nil)))) (pss_one (ps_ret pe_bl)) pss_nil))))))
      (pss_one (ps_ret pe_bl)))), ?_⟩
    show (let V1_ : TS := _; let V2_ : TS := _; let V3_ : TS := tIfS _ V2_ _; let V4_ : TS := tFor _ _ V3_; let V5_ : TS := _; let V6_ : TS := tSeq (tIfS _ V5_ _) V4_; let V7_ : TS := tSeq (tFor _ _ V6_) V1_; let V8_ : TS := _; tSeq (tIfS _ V8_ _) V7_ _ _ _)
    intro V1_ V2_ V3_ V4_ V5_ V6_ V7_ V8_
    refine ⟨_, rfl, _, _, _, _, rfl, .lst ha, kit_ll K, _, rfl, iteF ?_⟩
    refine ⟨_, rfl, a, rfl, ⟨_, SqL.of ha⟩, for_list (K := K) (a := a) (xs := rs) (fun i σ H' => H' = H /\ ∃ x1 x2, σ = [some (.ref a), x1, x2]) ⟨rfl, _, _, rfl⟩ (fun i σ H' _ ⟨e, _⟩ => by rw [e]; exact SqL.of ha) ?_ ?_⟩
    · rintro i x σ H' hi ⟨rfl, x1, x2, rfl⟩
      obtain ⟨p, _, l, rfl, hl⟩ := paired_get hp hi
      refine ⟨_, rfl, _, _, _, _, rfl, .lst hl, kit_ll K, _, rfl, iteF ?_⟩
      refine ⟨_, rfl, l, rfl, ⟨_, SqL.of hl⟩, for_list (K := K) (a := l) (xs := p.map V.int) (fun j σ H2 => H2 = H' /\ ∃ x2, σ = [some (.ref a), some (.ref l), x2]) ⟨rfl, _, rfl⟩ (fun j σ H2 _ ⟨e, _⟩ => by rw [e]; exact SqL.of hl) ?_ ?_⟩
      · rintro j y σ H2 hj ⟨rfl, x2, rfl⟩
        obtain ⟨z, rfl⟩ : ∃ z, y = V.int z := by
          rw [List.getElem?_map] at hj
          cases e : p[j]? with
          | none => rw [e] at hj; cases hj
          | some z => rw [e] at hj; exact ⟨z, (Option.some.inj hj).symm⟩
        exact ⟨_, rfl, z, rfl, _, rfl, iteF ⟨rfl, _, rfl⟩⟩
      · rintro σ H2 ⟨rfl, x2, rfl⟩
        exact ⟨rfl, _, _, rfl⟩
    · rintro σ H' ⟨rfl, x1, x2, rfl⟩
      exact k
end
end NC
namespace NC
open PySem PySem.Spec PyProof.Rows L2
section
variable {P : Program} {w : World} {K : PySem.W.Frag} {mg : Str -> Option Value} {base : Heap}
seal L2.PE L2.PA L2.PT L2.PS L2.PSs L2.PW L2.PG L2.PGs L2.PI L2.PO L2.OpR L2.UnR L2.CallR L2.TruR L2.IxR L2.SlR
abbrev s__law_grown : Stmt := top 31
theorem sc__law_grown : FnScope ["_law_cells", "_law_pile", "_law_cell", "_law_way", "_law_inner", "_law_other", "_law_one", "_law_menu"] ["_law_cells"] (defScope s__law_grown) := ⟨rfl, rfl, rfl, by decide +kernel, rfl, by decide +kernel, by decide +kernel⟩
def sumT (ts : List Tm) : Nat := (ts.map T.size).sum
theorem sumT_snoc (ts : List Tm) (t : Tm) : sumT (ts ++ [t]) = sumT ts + t.size := by
  unfold sumT
  rw [List.map_append, List.sum_append]
  simp
inductive Sp_grownI (K : PySem.W.Frag) (vs : List V) (H : Hp) (Q : VK) : Prop where
  | mk (a : _) (ns : List Int) (c1 : vs = [.ref a]) (c2 : SqL K H a (ns.map V.int)) (c3 : ns.length <= 100) (c4 : ∀ v t H', Same H H' -> TermAt H' v t -> t.size <= 2 * ns.length + 1 -> Q v H')
def sp_grown (K : PySem.W.Frag) : Sp := fun vs H Q u3_ => Sp_grownI K vs H Q
inductive InvPileI (H : Hp) (p : Addr) (n : Nat) (H' : Hp) : Prop where
  | mk (xs : _) (ts : _) (c1 : Same H H') (c2 : H' p = some (.lst xs)) (c3 : Paired (TermAt H') xs ts) (c4 : sumT ts + ts.length <= n)
def InvPile (H : Hp) (p : Addr) (n : Nat) (H' : Hp) : Prop := InvPileI H p n H'
inductive InvMI (H : Hp) (p : Addr) (n : Nat) (H' : Hp) : Prop where
  | mk (xs : _) (ts : _) (c1 : Same H H') (c2 : H' p = some (.lst xs)) (c3 : Paired (TermAt H') xs ts) (c4 : sumT ts + ts.length <= n) (c5 : ts ≠ [])
def InvM (H : Hp) (p : Addr) (n : Nat) (H' : Hp) : Prop := InvMI H p n H'
theorem terms_same {H H' : Hp} {xs : List V} {ts : List Tm} (h : Paired (TermAt H) xs ts) (k : Same H H') : Paired (TermAt H') xs ts := paired_imp (fun a b h => h.same k) h
theorem abs_nat (i : Int) : (if i < 0 then -i else i) = ((i.natAbs : Nat) : Int) := by split <;> omega
theorem ok__law_grown {f : Addr} {fd : FuncData} (F : Fun K "_law_grown" "_law_grown" s__law_grown f fd) (N_ : NoNames mg) (G__law_any : GF P w K mg base CX0 1 "_law_any" ["_law_cell"] sp_any) (G__law_any_word : GF P w K mg base CX0 1 "_law_any_word" ["_law_cell"] sp_any_word) :
    FnOk P w K mg base CX0 2 f fd ["_law_cells"] (sp_grown K) := by
  refine F.ok sc__law_grown (fun vs H Q E h => ?_) (fun cdv A outer s H vs Q E hr h => ?_)
  · obtain ⟨a, ns, rfl, _⟩ := h
    rfl
  · obtain ⟨a, ns, rfl, hS, hl, k⟩ := h
    have hu0 := hr.units0
    refine ⟨_, (pss_cons (ps_set (i := 1) sc__law_grown.nd rfl (Or.inl rfl) (pLst pa_nil))
      (pss_cons (ps_for PassesOwn.never rfl (pi_list (pv 0)) (pg_name (i := 2) sc__law_grown.nd rfl (Or.inl rfl)) (pss_cons (ps_set (i := 3) sc__law_grown.nd rfl (Or.inl rfl) (pe_op op_mod (pv 2) pe_int))
      (pss_one (ps_if (PW.pt (pw_and (pt_cmpR op_eq (pv 3) pe_int (nomark _)) (pw_and1 (pt_cmpR (op_neNil hu0) (pv 1) (pLst pa_nil) (nomark _))))) (pss_cons (ps_set (i := 4) sc__law_grown.nd rfl (Or.inl rfl) (pPop (pv 1)))
      (pss_one (ps_expr (pApp (pv 1) (pTup (pa_c pe_str (pa_c (pv 4) pa_nil))))))) (pss_one (ps_if (PW.pt (pw_and (pt_cmpR op_gt (pv 3) pe_int (nomark _)) (pw_and1 (pt_cmpR op_gt (pCB call_len_seq (by rfl) N_.len boot_len (pa_c (pv 1) pa_nil)) pe_int (nomark _))))) (pss_cons (ps_set (i := 5) sc__law_grown.nd rfl (Or.inl rfl) (pPop (pv 1)))
      (pss_cons (ps_set (i := 6) sc__law_grown.nd rfl (Or.inl rfl) (pPop (pv 1)))
      (pss_cons (ps_if (pt_cmpR op_gt (pv 3) pe_int (nomark _)) (pss_one (ps_set (i := 6) sc__law_grown.nd rfl (Or.inl rfl) (pTup (pa_c pe_str (pa_c (pv 6) pa_nil))))) pss_nil)
      (pss_one (ps_expr (pApp (pv 1) (pTup (pa_c pe_str (pa_c (pv 6) (pa_c (pv 5) pa_nil)))))))))) (pss_cons (ps_set (i := 7) sc__law_grown.nd rfl (Or.inl rfl) (pLst (pa_c (pTup (pa_c pe_str (pa_c pe_int pa_nil))) (pa_c (pTup (pa_c pe_str (pa_c pe_int pa_nil))) (pa_c (pTup (pa_c pe_str (pa_c pe_int pa_nil))) (pa_c (pTup (pa_c pe_str (pa_c pe_str pa_nil))) (pa_c (pTup (pa_c pe_str (pa_c pe_str pa_nil))) pa_nil)))))))
      (pss_cons (ps_expr (pApp (pv 7) (pTup (pa_c pe_str (pa_c (pCB call_abs (by rfl) N_.abs boot_abs (pa_c (pe_gf G__law_any (hr.mono (by decide)) rfl pass0 (pa_c (pv 2) pa_nil)) pa_nil)) pa_nil)))))
      (pss_cons (ps_expr (pApp (pv 7) (pTup (pa_c pe_str (pa_c (pe_gf G__law_any_word (hr.mono (by decide)) rfl pass0 (pa_c (pe_op op_fdiv (pv 2) pe_int) pa_nil)) pa_nil)))))
      (pss_one (ps_expr (pApp (pv 1) (pe_ix ix_list (pv 7) (pe_op op_mod (pe_op op_fdiv (pv 2) pe_int) pe_int) (fun _ _ => rfl))))))))))))))
      (pss_cons (ps_if (pt_cmpR (op_eqNil hu0) (pv 1) (pLst pa_nil) (nomark _)) (pss_one (ps_expr (pApp (pv 1) (pTup (pa_c pe_str (pa_c pe_str pa_nil)))))) pss_nil)
      (pss_cons (ps_while PassesOwn.never (pt_cmpR op_gt (pCB call_len_seq (by rfl) N_.len boot_len (pa_c (pv 1) pa_nil)) pe_int (nomark _)) (pss_cons (ps_set (i := 5) sc__law_grown.nd rfl (Or.inl rfl) (pPop (pv 1)))
      (pss_cons (ps_set (i := 6) sc__law_grown.nd rfl (Or.inl rfl) (pPop (pv 1)))
      (pss_one (ps_expr (pApp (pv 1) (pTup (pa_c pe_str (pa_c (pv 6) (pa_c (pv 5) pa_nil))))))))))
      (pss_one (ps_ret (pe_ix ix_list (pv 1) pe_int (fun _ _ => rfl)))))))), ?_⟩
    show (let V1_ : TS := _; let V2_ : TS := _; let V3_ : TS := tSeq _ V2_; let V4_ : TS := tSeq _ V3_; let V5_ : TS := tSeq (tWhile _ V4_) V1_; let V6_ : TS := _; let V7_ : TS := tSeq (tIfS _ V6_ _) V5_; let V8_ : TS := _; let V9_ : TS := tSeq _ V8_; let V10_ : TS := _; let V11_ : TS := _; let V12_ : TS := tSeq (tIfS _ V11_ _) V10_; let V13_ : TS := tSeq _ V12_; let V14_ : TS := tSeq _ V13_; let V15_ : TS := _; let V16_ : TS := tSeq _ V15_; let V17_ : TS := tSeq _ V16_; let V18_ : TS := tSeq _ V17_; let V19_ : TS := tIfS _ V14_ V18_; let V20_ : TS := tIfS _ V9_ V19_; let V21_ : TS := tSeq _ V20_; let V22_ : TS := tSeq (tFor _ _ V21_) V7_; tSeq _ V22_ _ _ _)
    intro V1_ V2_ V3_ V4_ V5_ V6_ V7_ V8_ V9_ V10_ V11_ V12_ V13_ V14_ V15_ V16_ V17_ V18_ V19_ V20_ V21_ V22_
    refine ⟨small' (by simp), fun p H1 np s1 hp1 => ?_⟩
    refine ⟨_, rfl, a, rfl, ⟨_, s1.seq hS⟩, for_list (K := K) (a := a) (xs := ns.map V.int) (fun i σ H' => InvPile H p (2 * i) H' /\ i <= ns.length /\ ∃ x2 x3 x4 x5 x6 x7, σ = [some (.ref a), some (.ref p), x2, x3, x4, x5, x6, x7])
      ⟨⟨[], [], s1, hp1, .nil, Nat.le_refl _⟩, Nat.zero_le _, _, _, _, _, _, _, rfl⟩ (fun i σ H' _ ⟨⟨_, _, s', _, _, _⟩, _⟩ => s'.seq hS) ?_ ?_⟩
    · rintro i y σ H2 hi ⟨⟨xs, ts, s2, hp2, hts, hsum⟩, hin, x2, x3, x4, x5, x6, x7, rfl⟩
      have hil : i < ns.length := by
        have := (List.getElem?_eq_some_iff.mp hi).1
        rw [List.length_map] at this
        exact this
      obtain ⟨c, rfl⟩ : ∃ z, y = V.int z := by
        rw [List.getElem?_map] at hi
        cases e : ns[i]? with
        | none => rw [e] at hi; cases hi
        | some z => rw [e] at hi; exact ⟨z, (Option.some.inj hi).symm⟩
      have hlt : ts.length <= 200 := by omega
      have hxl : xs.length <= 200 := by rw [Paired.length hts]; exact hlt
      refine ⟨_, rfl, _, _, rfl, rfl, (show (0 : Int) < 7 by decide), ?_⟩
      have s3 := Same.refl H2
      have np2 : H p = none := np
      refine ⟨_, rfl, rfl, _, rfl, ifD (fun hA => ⟨_, rfl, small' (by simp), fun e0 H3 n3 s3 h3 => ⟨_, _, _, rfl, rfl, SqL.of (s3 _ _ hp2), SqL.of h3, _, rfl, ifB (fun hE => ?form)
          (fun hE => ⟨_, rfl, _, _, rfl, rfl, _, rfl, ifF (by have e : c % 7 = 2 := (by injection hA); show ¬ ((2 : Int) < c % 7); omega) (iteF ?leaf1)⟩)⟩⟩)
        (fun hA => iteF ⟨_, rfl, _, _, rfl, rfl, _, rfl, ifD (fun hB => ⟨_, rfl, _, _, rfl, Or.inl (SqL.of hp2), _, _, rfl, rfl, _, rfl, ifD (fun hC => ?call) (fun hC => ?leaf3)⟩) (fun hB => iteF ?leaf2)⟩)⟩
      case form =>
          have hE' : ts ≠ [] := by
            intro z
            subst z
            cases paired_nil hts
            exact absurd hE (by simp)
          obtain ⟨ts', t1, rfl⟩ := snoc_of hE'
          obtain ⟨xs', x, rfl, hts', hx⟩ := paired_snoc_inv hts
          have hp3 := s3 _ _ hp2
          refine ⟨_, rfl, Or.inl ⟨rfl, _, SqL.of hp3⟩, _, _, _, rfl, rfl, hp3, fun H4 k4 hp4 => ?_⟩
          refine ⟨_, rfl, Or.inl ⟨rfl, _, SqL.of hp4⟩, _, rfl, small' (by simp), fun q H5 n5 s5 h5 => ⟨_, _, _, rfl, rfl, s5 _ _ hp4, small (by simp at hxl; omega), fun H6 k6 hp6 => ?_⟩⟩
          have hp5 := s5 _ _ hp4
          have tu : Tups H2 H6 := (Tups.of_same s3).trans ((k4.tup1 hp3).trans ((Tups.of_same s5).trans (k6.tup1 hp5)))
          refine ⟨⟨_, ts' ++ [.form t1], same_keep1 ((same_keep1 (s2.trans s3) k4 np).trans s5) k6 np, hp6, paired_snoc (.form (k6.tup1 hp5 _ _ h5) (hx.mono tu)) (paired_imp (fun a b h => h.mono tu) hts'), ?_⟩, hil, _, _, _, _, _, _, rfl⟩
          rw [sumT_snoc, List.length_append, List.length_singleton] at hsum ⊢
          show sumT ts' + (t1.size + 1) + (ts'.length + 1) <= _
          omega
      case call =>
        have hC' : 1 < ts.length := by
          have : (1 : Int) < (xs.length : Int) := hC
          rw [Paired.length hts] at this
          omega
        obtain ⟨ts1, t1, rfl⟩ := snoc_of (show ts ≠ [] by intro z; rw [z] at hC'; simp at hC')
        obtain ⟨ts2, t2, rfl⟩ := snoc_of (show ts1 ≠ [] by intro z; rw [z] at hC'; simp at hC')
        obtain ⟨xs1, x1, rfl, hts1, hx1⟩ := paired_snoc_inv hts
        obtain ⟨xs2, x2', rfl, hts2, hx2⟩ := paired_snoc_inv hts1
        rw [sumT_snoc, sumT_snoc, List.length_append, List.length_singleton, List.length_append, List.length_singleton] at hsum
        simp only [List.length_append, List.length_singleton] at hxl
        refine ⟨_, rfl, Or.inl ⟨rfl, _, SqL.of hp2⟩, _, _, _, rfl, rfl, hp2, fun H3 k3 hp3 => ⟨_, rfl, Or.inl ⟨rfl, _, SqL.of hp3⟩, _, _, _, rfl, rfl, hp3, fun H4 k4 hp4 => ?_⟩⟩
        have tu4 : Tups H2 H4 := (k3.tup1 hp2).trans (k4.tup1 hp3)
        have s4 : Same H H4 := same_keep1 (same_keep1 s2 k3 np) k4 np
        refine ⟨_, rfl, _, _, rfl, rfl, _, rfl, ifD (fun hF => ?_) (fun hF => ?_)⟩
        · refine ⟨_, rfl, small' (by simp), fun q H5 n5 s5 h5 => ?_⟩
          refine ⟨_, rfl, Or.inl ⟨rfl, _, SqL.of (s5 _ _ hp4)⟩, _, rfl, _, rfl, small' (by simp), fun r H6 n6 s6 h6 => ⟨_, _, _, rfl, rfl, s6 _ _ (s5 _ _ hp4), small (by omega), fun H7 k7 hp7 => ?_⟩⟩
          have hp6 := s6 _ _ (s5 _ _ hp4)
          have tu : Tups H4 H7 := (Tups.of_same (s5.trans s6)).trans (k7.tup1 hp6)
          have tu' := tu4.trans tu
          refine ⟨⟨_, ts2 ++ [.call (.form t2) t1], same_keep1 ((s4.trans s5).trans s6) k7 np, hp7, paired_snoc (.call (k7.tup1 hp6 _ _ h6) (.form (k7.tup1 hp6 _ _ (s6 _ _ h5)) (hx2.mono tu')) (hx1.mono tu')) (paired_imp (fun a b h => h.mono tu') hts2), ?_⟩, hil, _, _, _, _, _, _, rfl⟩
          rw [sumT_snoc, List.length_append, List.length_singleton]
          show sumT ts2 + (t2.size + 1 + t1.size + 1) + (ts2.length + 1) <= _
          omega
        · refine ⟨_, rfl, Or.inl ⟨rfl, _, SqL.of hp4⟩, _, rfl, _, rfl, small' (by simp), fun r H6 n6 s6 h6 => ⟨_, _, _, rfl, rfl, s6 _ _ hp4, small (by omega), fun H7 k7 hp7 => ?_⟩⟩
          have hp6 := s6 _ _ hp4
          have tu : Tups H4 H7 := (Tups.of_same s6).trans (k7.tup1 hp6)
          have tu' := tu4.trans tu
          refine ⟨⟨_, ts2 ++ [.call t2 t1], same_keep1 (s4.trans s6) k7 np, hp7, paired_snoc (.call (k7.tup1 hp6 _ _ h6) (hx2.mono tu') (hx1.mono tu')) (paired_imp (fun a b h => h.mono tu') hts2), ?_⟩, hil, _, _, _, _, _, _, rfl⟩
          rw [sumT_snoc, List.length_append, List.length_singleton]
          show sumT ts2 + (t2.size + t1.size + 1) + (ts2.length + 1) <= _
          omega
      case leaf1 | leaf2 | leaf3 =>
        have hp3 := s3 _ _ hp2
        refine ⟨small' (by simp), fun q0 A0 n0 t0 h0 => ⟨small' (by simp), fun q1 A1 n1 t1 h1 => ⟨small' (by simp), fun q2 A2 n2 t2 h2 => ⟨small' (by simp), fun q3 A3 n3 t3 h3 => ⟨small' (by simp), fun q4 A4 n4 t4 h4 => ⟨small' (by simp), fun mn A5 n5 t5 h5 => ?_⟩⟩⟩⟩⟩⟩
        have sA : Same H2 A4 := s3.trans (t0.trans (t1.trans (t2.trans (t3.trans t4))))
        have hpm : p ≠ mn := ne_of_none (sA _ _ hp2) n5
        have nm : H mn = none := (s2.trans sA).free n5
        refine ⟨_, rfl, Or.inl ⟨rfl, _, SqL.of h5⟩, _, rfl, _, rfl, fun i0 B0 u0 => ⟨_, rfl, small' (by simp), fun q5 B1 m5 u1 g5 => ⟨_, _, _, rfl, rfl, u1 _ _ (u0 _ _ h5), small (by simp), fun B2 kB2 hB2 => ?_⟩⟩⟩
        refine ⟨_, rfl, Or.inl ⟨rfl, _, SqL.of hB2⟩, _, rfl, _, _, rfl, rfl, ⟨by decide, by decide⟩, _, rfl, fun w0 => ⟨small' (by simp), fun q6 C1 m6 w1 g6 => ⟨_, _, _, rfl, rfl, w1 _ _ hB2, small (by simp), fun C2 kC2 hC2 => ?_⟩⟩⟩
        have hmB1 := u1 _ _ (u0 _ _ h5)
        have hmC1 := w1 _ _ hB2
        have tuC1 : Tups C1 C2 := kC2.tup1 hmC1
        have tuB2 : Tups B2 C2 := (Tups.of_same w1).trans tuC1
        have tuB1 : Tups B1 C2 := (kB2.tup1 hmB1).trans tuB2
        have tuA5 : Tups A5 C2 := (Tups.of_same (u0.trans u1)).trans tuB1
        have tuA4 : Tups A4 C2 := (Tups.of_same t5).trans tuA5
        have hpC : C2 p = some (.lst xs) := kC2.at (w1 _ _ (kB2.at (u1 _ _ (u0 _ _ (t5 _ _ (sA _ _ hp2)))) hpm)) hpm
        have sC : Same H C2 := same_keep1 ((same_keep1 ((s2.trans (sA.trans t5)).trans (u0.trans u1)) kB2 nm).trans w1) kC2 nm
        have all : ∀ v ∈ ([V.ref q0, .ref q1, .ref q2, .ref q3, .ref q4] ++ [V.ref q5]) ++ [V.ref q6], ∃ t : Tm, TermAt C2 v t /\ t.size = 1 := by
          intro v hv
          simp only [List.cons_append, List.nil_append, List.mem_cons, List.not_mem_nil, or_false] at hv
          rcases hv with rfl | rfl | rfl | rfl | rfl | rfl | rfl
          · exact ⟨.place 0, .place (tuA4 _ _ (t4 _ _ (t3 _ _ (t2 _ _ (t1 _ _ h0))))), rfl⟩
          · exact ⟨.place 1, .place (tuA4 _ _ (t4 _ _ (t3 _ _ (t2 _ _ h1)))), rfl⟩
          · exact ⟨.place 2, .place (tuA4 _ _ (t4 _ _ (t3 _ _ h2))), rfl⟩
          · exact ⟨.name _, .name (tuA4 _ _ (t4 _ _ h3)), rfl⟩
          · exact ⟨.name _, .name (tuA4 _ _ h4), rfl⟩
          · refine ⟨.place i0.natAbs, .place ?_, rfl⟩
            have q := tuB1 _ _ g5
            rw [abs_nat] at q
            exact q
          · exact ⟨.name w0, .name (tuC1 _ _ g6), rfl⟩
        obtain ⟨v, hat, hv⟩ := atL (xs := ([V.ref q0, .ref q1, .ref q2, .ref q3, .ref q4] ++ [V.ref q5]) ++ [V.ref q6]) (i := c / 7 % 7) (by omega) (by simp; omega)
        obtain ⟨t, ht, ht1⟩ := all v hv
        refine ⟨_, rfl, Or.inl ⟨rfl, _, SqL.of hpC⟩, _, rfl, _, rfl, _, _, rfl, rfl, ⟨by decide, by decide⟩, _, _, rfl, rfl, (show (0 : Int) < 7 by decide), _, _, _, _, rfl, rfl, SqL.of hC2, hat, _, _, _, rfl, rfl, hpC, small (by omega), fun D1 kD1 hD1 => ?_⟩
        have tuD : Tups C2 D1 := kD1.tup1 hpC
        refine ⟨⟨_, ts ++ [t], same_keep1 sC kD1 np2, hD1, paired_snoc (ht.mono tuD) (paired_imp (fun a b h => h.mono (((Tups.of_same sA).trans tuA4).trans tuD)) hts), ?_⟩, hil, _, _, _, _, _, _, rfl⟩
        rw [sumT_snoc, List.length_append, List.length_singleton]
        omega
    · rintro σ H2 ⟨⟨xs, ts, s2, hp2, hts, hsum⟩, hin, x2, x3, x4, x5, x6, x7, rfl⟩
      rw [List.length_map] at hsum
      refine ⟨_, rfl, small' (by simp), fun e0 H3 n3 s3 h3 => ⟨_, _, _, rfl, rfl, SqL.of (s3 _ _ hp2), SqL.of h3, _, rfl, ifB
        (fun hE => ⟨_, rfl, Or.inl ⟨rfl, _, SqL.of (s3 _ _ hp2)⟩, small' (by simp), fun q H4 n4 s4 h4 => ⟨_, _, _, rfl, rfl, s4 _ _ (s3 _ _ hp2), ?len, fun H5 k5 hp5 => have hI : InvM H p (2 * ns.length + 2) H5 := ?hi1; ?w1⟩⟩)
        (fun hE => have hI : InvM H p (2 * ns.length + 2) H3 := ?hi2; ?w2)⟩⟩
      case len =>
        have e : xs = [] := List.isEmpty_iff.mp (by simpa using hE)
        rw [e]
        exact small (by simp)
      case hi1 =>
        have e : xs = [] := List.isEmpty_iff.mp (by simpa using hE)
        subst e
        have hp4 := s4 _ _ (s3 _ _ hp2)
        exact ⟨_, [.name "sat"], same_keep1 ((s2.trans s3).trans s4) k5 np, hp5, .cons (.name (k5.tup1 hp4 _ _ h4)) .nil, (by show 1 + 1 <= _; omega), by simp⟩
      case hi2 =>
        refine ⟨xs, ts, s2.trans s3, s3 _ _ hp2, terms_same hts s3, by omega, ?_⟩
        intro z
        subst z
        cases paired_nil hts
        exact absurd hE (by simp)
      case w1 | w2 =>
        refine ⟨fun m σ H' => (∃ xs ts, Same H H' /\ H' p = some (.lst xs) /\ Paired (TermAt H') xs ts /\ sumT ts + ts.length <= 2 * ns.length + 2 /\ ts ≠ [] /\ m = ts.length) /\ ∃ x2 x3 x4 x5 x6 x7, σ = [some (.ref a), some (.ref p), x2, x3, x4, x5, x6, x7], ?_, ?_⟩
        · obtain ⟨xs, ts, a1, a2, a3, a4, a5⟩ := hI
          exact ⟨_, ⟨xs, ts, a1, a2, a3, a4, a5, rfl⟩, _, _, _, _, _, _, rfl⟩
        · rintro m σ H6 ⟨⟨xs, ts, s6, hp6, hts, hsum, hne, rfl⟩, x2, x3, x4, x5, x6, x7, rfl⟩
          refine ⟨_, rfl, _, _, rfl, Or.inl (SqL.of hp6), _, _, rfl, rfl, _, rfl, ifD (fun hC => ?_) (fun hC => ?_)⟩
          · have hC' : 1 < ts.length := by
              have : (1 : Int) < (xs.length : Int) := hC
              rw [Paired.length hts] at this
              omega
            refine ⟨fun σ' H' => ∃ m', m' < ts.length /\ ((∃ xs ts, Same H H' /\ H' p = some (.lst xs) /\ Paired (TermAt H') xs ts /\ sumT ts + ts.length <= 2 * ns.length + 2 /\ ts ≠ [] /\ m' = ts.length) /\ ∃ x2 x3 x4 x5 x6 x7, σ' = [some (.ref a), some (.ref p), x2, x3, x4, x5, x6, x7]), fun _ _ h => h, ?_⟩
            obtain ⟨ts1, t1, rfl⟩ := snoc_of hne
            obtain ⟨ts2, t2, rfl⟩ := snoc_of (show ts1 ≠ [] by intro z; rw [z] at hC'; simp at hC')
            obtain ⟨xs1, x1, rfl, hts1, hx1⟩ := paired_snoc_inv hts
            obtain ⟨xs2, x2', rfl, hts2, hx2⟩ := paired_snoc_inv hts1
            rw [sumT_snoc, sumT_snoc, List.length_append, List.length_singleton, List.length_append, List.length_singleton] at hsum
            refine ⟨_, rfl, Or.inl ⟨rfl, _, SqL.of hp6⟩, _, _, _, rfl, rfl, hp6, fun H7 k7 hp7 => ⟨_, rfl, Or.inl ⟨rfl, _, SqL.of hp7⟩, _, _, _, rfl, rfl, hp7, fun H8 k8 hp8 => ?_⟩⟩
            have hl2 := Paired.length hts2
            refine ⟨_, rfl, Or.inl ⟨rfl, _, SqL.of hp8⟩, _, rfl, _, rfl, small' (by simp), fun r H9 n9 s9 h9 => ⟨_, _, _, rfl, rfl, s9 _ _ hp8, small (by omega), fun H10 k10 hp10 => ?_⟩⟩
            have hp9 := s9 _ _ hp8
            have tu : Tups H6 H10 := ((k7.tup1 hp6).trans (k8.tup1 hp7)).trans ((Tups.of_same s9).trans (k10.tup1 hp9))
            refine ⟨_, ?_, ⟨_, ts2 ++ [.call t2 t1], same_keep1 ((same_keep1 (same_keep1 s6 k7 np) k8 np).trans s9) k10 np, hp10, paired_snoc (.call (k10.tup1 hp9 _ _ h9) (hx2.mono tu) (hx1.mono tu)) (paired_imp (fun a b h => h.mono tu) hts2), ?_, by simp, rfl⟩, _, _, _, _, _, _, rfl⟩
            · simp
            · rw [sumT_snoc, List.length_append, List.length_singleton]
              show sumT ts2 + (t2.size + t1.size + 1) + (ts2.length + 1) <= _
              omega
          · have hC' : ¬ 1 < ts.length := by
              intro z
              refine hC ?_
              show (1 : Int) < (xs.length : Int)
              rw [Paired.length hts]
              omega
            match ts, hts, hne, hC', hsum with
            | [t], .cons (a := x) (l₁ := r) hx hr, _, _, hsum =>
              cases hr
              refine ⟨_, rfl, _, _, _, _, rfl, rfl, SqL.of hp6, at0, k _ t H6 s6 hx ?_⟩
              have : t.size + 0 + 1 <= 2 * ns.length + 2 := hsum
              omega
            | _ :: _ :: _, _, _, hC', _ => exact absurd hC' (by simp)
end
end NC
namespace NC
open PySem PySem.Spec PyProof.Rows L2
section
variable {P : Program} {w : World} {K : PySem.W.Frag} {mg : Str -> Option Value} {base : Heap}
seal L2.PE L2.PA L2.PT L2.PS L2.PSs L2.PW L2.PG L2.PGs L2.PI L2.PO L2.OpR L2.UnR L2.CallR L2.TruR L2.IxR L2.SlR
abbrev s_is_outer : Stmt := top 6
theorem sc_is_outer : FnScope ["part", "forms"] ["part", "forms"] (defScope s_is_outer) := ⟨rfl, rfl, rfl, by decide +kernel, rfl, by decide +kernel, by decide +kernel⟩
def T.outer (t : Tm) (k : Nat) : Bool := match t with | .place n => decide (k <= n) | _ => false
inductive Sp_is_outerI (vs : List V) (H : Hp) (Q : VK) : Prop where
  | mk (v : _) (t : _) (k : Nat) (c1 : vs = [v, .int (k : Int)]) (c2 : TermAt H v t) (c3 : Q (.bl (T.outer t k)) H)
def sp_is_outer : Sp := fun vs H Q u3_ => Sp_is_outerI vs H Q
theorem ok_is_outer {f : Addr} {fd : FuncData} (F : Fun K "is_outer" "is_outer" s_is_outer f fd) : FnOk P w K mg base CX0 1 f fd ["part", "forms"] sp_is_outer := by
  refine F.ok sc_is_outer (fun vs H Q E h => ?_) (fun cdv A outer s H vs Q E hr h => ?_)
  · obtain ⟨v, t, k, rfl, _⟩ := h
    rfl
  · obtain ⟨v, t, n, rfl, ht, k⟩ := h
    refine ⟨_, (pss_one (ps_ret (pe_and (pe_cmpR op_eq (pe_ix ix_tup (pv 0) pe_int (fun _ _ => rfl)) pe_str (nomark _)) (pe_one (pe_cmpR op_ge (pe_ix ix_tup (pv 0) pe_int (fun _ _ => rfl)) (pv 1) (nomark _)))))), ?_⟩
    cases ht with
    | name h => exact ⟨_, rfl, _, _, _, _, rfl, rfl, SqT.of h, at0, rfl, _, rfl, ifF n_np k⟩
    | form h _ => exact ⟨_, rfl, _, _, _, _, rfl, rfl, SqT.of h, at0, rfl, _, rfl, ifF n_fp k⟩
    | call h _ _ => exact ⟨_, rfl, _, _, _, _, rfl, rfl, SqT.of h, at0, rfl, _, rfl, ifF n_cp k⟩
    | @place a m h =>
      refine ⟨_, rfl, _, _, _, _, rfl, rfl, SqT.of h, at0, rfl, _, rfl, ifT rfl ⟨_, rfl, _, _, _, _, rfl, rfl, SqT.of h, at1, _, rfl, _, _, rfl, rfl, ?_⟩⟩
      have e : decide ((m : Int) ≥ (n : Int)) = T.outer (.place m) n := by
        show _ = decide (n <= m)
        by_cases q : n <= m
        · rw [decide_eq_true q, decide_eq_true (by omega)]
        · rw [decide_eq_false q, decide_eq_false (by omega)]
      show Q (V.bl (decide ((n : Int) <= (m : Int)))) H
      rw [show decide ((n : Int) <= (m : Int)) = T.outer (.place m) n from e]
      exact k
abbrev s_walk : Stmt := top 2
theorem sc_walk : FnScope ["term", "around", "inward", "found", "todo", "pair", "part"] ["term", "around", "inward"] (defScope s_walk) := ⟨rfl, rfl, rfl, by decide +kernel, rfl, by decide +kernel, by decide +kernel⟩
inductive Sp_inwI (J : Hp -> Prop) (vs : List V) (H : Hp) (Q : VK) : Prop where
  | mk (v : _) (k : Nat) (c1 : vs = [v, .int (k : Int)]) (c2 : J H) (c3 : Q (.int ((k + 1 : Nat) : Int)) H)
def sp_inw (J : Hp -> Prop) : Sp := fun vs H Q u3_ => Sp_inwI J vs H Q
inductive Sp_walkI (kf : Nat) (P : Program) (w : World) (K : PySem.W.Frag) (mg : Str -> Option Value) (base : Heap) (vs : List V) (H : Hp) (Q : VK) : Prop where
  | mk (v : _) (t : _) (k0 : Nat) (f : _) (ps : _) (J : _) (c1 : vs = [v, .int (k0 : Int), .ref f]) (c2 : TermAt H v t) (c3 : t.size <= 100000) (c4 : FV P w K mg base CX0 kf f ps (sp_inw J)) (c5 : (∀ H', Same H H' -> J H')) (c6 : ∀ l rs H', Same H H' -> H l = none -> H' l = some (.lst rs) -> Paired (PairAt H') rs (t.parts k0) -> Q (.ref l) H')
def sp_walk (kf : Nat) (P : Program) (w : World) (K : PySem.W.Frag) (mg : Str -> Option Value) (base : Heap) : Sp := fun vs H Q u3_ => Sp_walkI kf P w K mg base vs H Q
inductive InvWalkI (H : Hp) (v : V) (t : Tm) (k0 : Nat) (u : V) (f d : Addr) (m : Nat) (σ : L2.St) (H' : Hp) : Prop where
  | mk (its : _) (xs : _) (fs : _) (ps : _) (x3 : _) (x4 : _) (c1 : σ = [some v, some (.int (k0 : Int)), some u, some (.ref f), some (.ref d), x3, x4]) (c2 : Same H H') (c3 : H' f = some (.lst fs)) (c4 : H' d = some (.lst xs)) (c5 : Paired (PairAt H') xs its) (c6 : Paired (PairAt H') fs ps) (c7 : ps ++ pendP its = t.parts k0) (c8 : m = sizesP its) (c9 : sizesP its <= t.size)
def InvWalk (H : Hp) (v : V) (t : Tm) (k0 : Nat) (u : V) (f d : Addr) (m : Nat) (σ : L2.St) (H' : Hp) : Prop := InvWalkI H v t k0 u f d m σ H'
theorem atm1 {α : Type} {a b : α} : atI [a, b] (-1) = some b := rfl
theorem ok_walk {f : Addr} {fd : FuncData} {kf : Nat} (F : Fun K "walk" "walk" s_walk f fd) : FnOk P w K mg base CX0 (kf + 1) f fd ["term", "around", "inward"] (sp_walk kf P w K mg base) := by
  refine F.ok sc_walk (fun vs H Q E h => ?_) (fun cdv A outer s H vs Q E hr h => ?_)
  · obtain ⟨v, t, k0, g, ps, J, rfl, _⟩ := h
    rfl
  · obtain ⟨v, t, k0, g, gps, J, rfl, ht, hsz, hfv, hJ, k⟩ := h
    have hrF : Room kf (A.deeper (envOfC "walk" (defScope s_walk) s.heap.objs.size _ cdv)) := hr
    refine ⟨_, (pss_cons (ps_set (i := 3) sc_walk.nd rfl (Or.inl rfl) (pLst pa_nil))
      (pss_cons (ps_set (i := 4) sc_walk.nd rfl (Or.inl rfl) (pLst (pa_c (pTup (pa_c (pv 0) (pa_c (pv 1) pa_nil))) pa_nil)))
      (pss_cons (ps_while PassesOwn.never (pt_truth (pv 4) (fun _ => rfl)) (pss_cons (ps_set (i := 5) sc_walk.nd rfl (Or.inl rfl) (pPop (pv 4)))
      (pss_cons (ps_expr (pApp (pv 3) (pv 5)))
      (pss_cons (ps_set (i := 6) sc_walk.nd rfl (Or.inl rfl) (pe_ix ix_tup (pv 5) pe_int (fun _ _ => rfl)))
      (pss_one (ps_if (pt_cmpR op_eq (pe_ix ix_tup (pv 6) pe_int (fun _ _ => rfl)) pe_str (nomark _)) (pss_one (ps_expr (pApp (pv 4) (pTup (pa_c (pe_ix ix_tup (pv 6) (pe_un un_neg pe_int) (fun _ _ => rfl)) (pa_c (pe_fvE 2 hrF pass0 (pa_c (pv 6) (pa_c (pe_ix ix_tup (pv 5) pe_int (fun _ _ => rfl)) pa_nil))) pa_nil)))))) (pss_one (ps_if (pt_cmpR op_eq (pe_ix ix_tup (pv 6) pe_int (fun _ _ => rfl)) pe_str (nomark _)) (pss_cons (ps_expr (pApp (pv 4) (pTup (pa_c (pe_ix ix_tup (pv 6) pe_int (fun _ _ => rfl)) (pa_c (pe_ix ix_tup (pv 5) pe_int (fun _ _ => rfl)) pa_nil)))))
      (pss_one (ps_expr (pApp (pv 4) (pTup (pa_c (pe_ix ix_tup (pv 6) pe_int (fun _ _ => rfl)) (pa_c (pe_ix ix_tup (pv 5) pe_int (fun _ _ => rfl)) pa_nil))))))) pss_nil))))))))
      (pss_one (ps_ret (pv 3)))))), ?_⟩
    show (let V1_ : TS := _; let V2_ : TS := _; let V3_ : TS := _; let V4_ : TS := tSeq _ V3_; let V5_ : TS := tIfS _ V4_ _; let V6_ : TS := tIfS _ V2_ V5_; let V7_ : TS := tSeq _ V6_; let V8_ : TS := tSeq _ V7_; let V9_ : TS := tSeq _ V8_; let V10_ : TS := tSeq (tWhile _ V9_) V1_; let V11_ : TS := tSeq _ V10_; tSeq _ V11_ _ _ _)
    intro V1_ V2_ V3_ V4_ V5_ V6_ V7_ V8_ V9_ V10_ V11_
    refine ⟨small' (by simp), fun f H1 nf s1 hf1 => ⟨_, rfl, _, rfl, small' (by simp), fun q H3 nq s3 hq3 => ⟨small' (by simp), fun d H4 nd s4 hd4 => ?_⟩⟩⟩
    have s04 : Same H H4 := (s1.trans s3).trans s4
    have hf4 : H4 f = some (.lst []) := s4 _ _ (s3 _ _ hf1)
    have nfd : f ≠ d := ne_of_none (s3 _ _ hf1) nd
    have n_f : H f = none := nf
    have n_d : H d = none := (s1.trans s3).free nd
    have nL : ∀ x ∈ [f, d], H x = none := fun x hx => by
      rcases List.mem_cons.mp hx with e | hx
      · rw [e]; exact n_f
      · rw [List.mem_singleton.mp hx]; exact n_d
    refine ⟨InvWalk H v t k0 (.ref g) f d, ⟨sizesP [(t, k0)], ?_⟩, ?_⟩
    · refine ⟨[(t, k0)], [.ref q], [], [], none, none, rfl, s04, hf4, hd4, .cons ⟨q, v, rfl, s4 _ _ hq3, ht.same s04⟩ .nil, .nil, ?_, rfl, ?_⟩
      · show [] ++ (t.parts k0 ++ []) = _
        rw [List.append_nil, List.nil_append]
      · show t.size + 0 <= t.size
        omega
    · rintro m σ H5 ⟨its, xs, fs, ps, x3, x4, rfl, s5, hf5, hd5, hit, hps, heq, rfl, hsum⟩
      by_cases hnil : its = []
      · subst hnil
        cases paired_nil hit
        refine ⟨_, rfl, false, Or.inl ⟨_, SqL.of hd5, rfl⟩, iteF ⟨_, rfl, ?_⟩⟩
        have e : ps = t.parts k0 := by rw [<- heq]; unfold pendP; simp
        subst e
        exact k f fs H5 s5 n_f hf5 hps
      · obtain ⟨its', ⟨t1, k1⟩, rfl⟩ := snoc_of hnil
        obtain ⟨xs', x, rfl, hit', a, tv, rfl, ha, htv⟩ := paired_snoc_inv hit
        have htv : TermAt H5 tv t1 := htv
        refine ⟨_, rfl, true, Or.inl ⟨_, SqL.of hd5, by simp⟩, iteT ⟨fun σ' H' => ∃ m', m' < sizesP (its' ++ [(t1, k1)]) /\ InvWalk H v t k0 (.ref g) f d m' σ' H', fun _ _ h => h, ?_⟩⟩
        refine ⟨_, rfl, Or.inl ⟨rfl, _, SqL.of hd5⟩, d, xs', .ref a, rfl, rfl, hd5, fun H6 k6 hd6 => ?_⟩
        have hL := lists2 hf5 hd5
        have K6 : Keep [f, d] H5 H6 := k6.sub (by simp)
        have tu6 := K6.tups hL
        have ha6 := tu6 _ _ ha
        have hf6 : H6 f = some (.lst fs) := k6.at hf5 nfd
        have s6 : Same H H6 := same_keep s5 K6 nL
        have it6 := paired_imp (fun a b h => PairAt.mono h tu6) hit'
        have ps6 := paired_imp (fun a b h => PairAt.mono h tu6) hps
        have hL6 := lists2 hf6 hd6
        rw [pendP_snoc] at heq
        rw [sizesP_snoc] at hsum
        rw [sizesP_snoc]
        have hxl : xs'.length <= t.size := by
          rw [Paired.length it6]
          have := len_sizesP its'
          have h1 : sizesP its' + t1.size <= t.size := hsum
          omega
        have hfl : fs.length <= t.size := by
          rw [Paired.length ps6]
          have h1 := congrArg List.length heq
          rw [List.length_append, parts_len] at h1
          omega
        have hs1 : sizesP its' + t1.size <= t.size := hsum
        refine ⟨_, rfl, Or.inl ⟨rfl, _, SqL.of hf6⟩, _, rfl, _, _, _, rfl, rfl, hf6, small (by omega), fun H7 k7 hf7 => ?_⟩
        have K7 : Keep [f, d] H6 H7 := k7.sub (by simp)
        have hd7 : H7 d = some (.lst xs') := k7.at hd6 nfd.symm
        have tu7 := K7.tups hL6
        have ha7 := tu7 _ _ ha6
        have htv7 := (htv.mono tu6).mono tu7
        have s7 : Same H H7 := same_keep s6 K7 nL
        have it7 := paired_imp (fun a b h => PairAt.mono h tu7) it6
        have ps7 := paired_snoc (x := V.ref a) (y := (t1, k1)) ⟨a, tv, rfl, ha7, htv7⟩ (paired_imp (fun a b h => PairAt.mono h tu7) ps6)
        have hL7 := lists2 hf7 hd7
        refine ⟨_, rfl, _, _, _, _, rfl, rfl, SqT.of ha7, at0, ?_⟩
        have heq : ps ++ (t1.parts k1 ++ pendP its') = t.parts k0 := heq
        cases htv7 with
        | name h =>
          refine ⟨_, rfl, _, _, _, _, rfl, rfl, SqT.of h, at0, rfl, _, rfl, ifF n_nf ⟨_, rfl, _, _, _, _, rfl, rfl, SqT.of h, at0, rfl, _, rfl, ifF n_nc ?_⟩⟩
          refine ⟨_, by show sizesP its' < sizesP its' + 1; omega, its', xs', _, _, _, _, rfl, s7, hf7, hd7, it7, ps7, ?_, rfl, by omega⟩
          rw [List.append_assoc]; exact heq
        | place h =>
          refine ⟨_, rfl, _, _, _, _, rfl, rfl, SqT.of h, at0, rfl, _, rfl, ifF n_pf ⟨_, rfl, _, _, _, _, rfl, rfl, SqT.of h, at0, rfl, _, rfl, ifF n_pc ?_⟩⟩
          refine ⟨_, by show sizesP its' < sizesP its' + 1; omega, its', xs', _, _, _, _, rfl, s7, hf7, hd7, it7, ps7, ?_, rfl, by omega⟩
          rw [List.append_assoc]; exact heq
        | @form a1 bv b h hb =>
          have hbs : T.size (.form b : Tm) = b.size + 1 := rfl
          refine ⟨_, rfl, _, _, _, _, rfl, rfl, SqT.of h, at0, rfl, _, rfl, ifT rfl ?_⟩
          refine ⟨_, rfl, Or.inl ⟨rfl, _, SqL.of hd7⟩, _, rfl, _, rfl, _, _, _, _, rfl, rfl, SqT.of h, atm1, g, _, _, rfl, hfv, _, rfl, _, rfl, _, _, _, _, rfl, rfl, SqT.of ha7, at1, _, k1, rfl, hJ _ s7, small' (by show 2 <= 1000000; decide), fun b9 H9 n9 s9 h9 => ⟨_, _, _, rfl, rfl, s9 _ _ hd7, small (by omega), fun H10 k10 hd10 => ?_⟩⟩
          have K10 : Keep [f, d] H7 H10 := (Keep.of_same s9).trans (k10.sub (by simp))
          have tu10 := K10.tups hL7
          refine ⟨_, ?_, its' ++ [(b, k1 + 1)], _, _, _, _, _, rfl, same_keep s7 K10 nL, k10.at (s9 _ _ hf7) nfd, hd10, paired_snoc ⟨b9, bv, rfl, k10.tup1 (s9 _ _ hd7) _ _ h9, hb.mono tu10⟩ (paired_imp (fun a b h => PairAt.mono h tu10) it7), paired_imp (fun a b h => PairAt.mono h tu10) ps7, ?_, rfl, ?_⟩
          · rw [sizesP_snoc]; show sizesP its' + b.size < sizesP its' + (b.size + 1); omega
          · rw [pendP_snoc, List.append_assoc]; exact heq
          · rw [sizesP_snoc]; show sizesP its' + b.size <= t.size; omega
        | @call a1 xv yv x y h hx hy =>
          have hcs : T.size (.call x y : Tm) = x.size + y.size + 1 := rfl
          refine ⟨_, rfl, _, _, _, _, rfl, rfl, SqT.of h, at0, rfl, _, rfl, ifF n_cf ⟨_, rfl, _, _, _, _, rfl, rfl, SqT.of h, at0, rfl, _, rfl, ifT rfl ?_⟩⟩
          refine ⟨_, rfl, Or.inl ⟨rfl, _, SqL.of hd7⟩, _, rfl, _, _, _, _, rfl, rfl, SqT.of h, at2, _, rfl, _, _, _, _, rfl, rfl, SqT.of ha7, at1, small' (by show 2 <= 1000000; decide), fun b9 H9 n9 s9 h9 => ⟨_, _, _, rfl, rfl, s9 _ _ hd7, small (by omega), fun H10 k10 hd10 => ?_⟩⟩
          have K10 : Keep [f, d] H7 H10 := (Keep.of_same s9).trans (k10.sub (by simp))
          have tu10 := K10.tups hL7
          have hf10 := k10.at (s9 _ _ hf7) nfd
          have hL10 := lists2 hf10 hd10
          have it10 := paired_snoc (x := V.ref b9) (y := (y, k1)) ⟨b9, yv, rfl, k10.tup1 (s9 _ _ hd7) _ _ h9, hy.mono tu10⟩ (paired_imp (fun a b h => PairAt.mono h tu10) it7)
          refine ⟨_, rfl, Or.inl ⟨rfl, _, SqL.of hd10⟩, _, rfl, _, _, _, _, rfl, rfl, SqT.of (tu10 _ _ h), at1, _, rfl, _, _, _, _, rfl, rfl, SqT.of (tu10 _ _ ha7), at1, small' (by show 2 <= 1000000; decide), fun c9 H11 m9 s11 g9 => ⟨_, _, _, rfl, rfl, s11 _ _ hd10, small (by rw [List.length_append, List.length_singleton]; omega), fun H12 k12 hd12 => ?_⟩⟩
          have K12 : Keep [f, d] H10 H12 := (Keep.of_same s11).trans (k12.sub (by simp))
          have tu12 := K12.tups hL10
          refine ⟨_, ?_, (its' ++ [(y, k1)]) ++ [(x, k1)], _, _, _, _, _, rfl, same_keep s7 (K10.trans K12) nL, k12.at (s11 _ _ hf10) nfd, hd12, paired_snoc ⟨c9, xv, rfl, k12.tup1 (s11 _ _ hd10) _ _ g9, (hx.mono tu10).mono tu12⟩ (paired_imp (fun a b h => PairAt.mono h tu12) it10), paired_imp (fun a b h => (PairAt.mono h tu10).mono tu12) ps7, ?_, rfl, ?_⟩
          · rw [sizesP_snoc, sizesP_snoc]; show sizesP its' + y.size + x.size < sizesP its' + (x.size + y.size + 1); omega
          · rw [pendP_snoc, pendP_snoc, List.append_assoc]
            show ps ++ ((.call x y, k1) :: (x.parts k1 ++ (y.parts k1 ++ pendP its'))) = _
            rw [<- heq]
            show _ = ps ++ ((.call x y, k1) :: (x.parts k1 ++ y.parts k1) ++ pendP its')
            simp
          · rw [sizesP_snoc, sizesP_snoc]; show sizesP its' + y.size + x.size <= _; omega
abbrev s_parts_of : Stmt := top 4
theorem sc_parts_of : FnScope ["term"] ["term"] (defScope s_parts_of) := ⟨rfl, rfl, rfl, by decide +kernel, rfl, by decide +kernel, by decide +kernel⟩
abbrev l_parts_of_0 : Expr := retArg s_parts_of 0 2
def q_parts_of_0 : Str := ("parts_of" : Str) ++ ".<locals>." ++ "<lambda>"
theorem sl_parts_of_0 : CloScope ["form", "forms"] [] (lamScope l_parts_of_0) := ⟨rfl, rfl, rfl, by decide +kernel, by decide +kernel, by decide +kernel, by decide +kernel, by decide +kernel⟩
theorem ok_inw {f c : Addr} {pm ctv : Value} {J : Hp -> Prop} (ho : base.get? f = some (PySem.W.kla_obj "<lambda>" q_parts_of_0 (lamArgs l_parts_of_0) (lamBody l_parts_of_0) (lamScope l_parts_of_0) [] pm c ctv)) (hJ : ∀ H, J H -> H c = some (CodeX c q_parts_of_0)) :
    FV P w K mg base CX0 1 f ["form", "forms"] (sp_inw J) := by
  refine ⟨_, _, _, _, fn_lamT (k := 0) (CX := CX0) (fvs := []) (fs := []) ho sl_parts_of_0 .nil ?_ ?_ ?_ ?_ ?_, ho, ?_⟩
  · intro x c' h; cases h
  · intro x y c' h1 h2; cases h1
  · intro vs H Q E h
    obtain ⟨v, k, rfl, _⟩ := h
    rfl
  · intro vs H Q E h
    obtain ⟨v, k, rfl, j, _⟩ := h
    exact hJ _ j
  · intro A outer s H vs Q E hr h
    obtain ⟨v, n, rfl, hj, k⟩ := h
    exact ⟨_, (pe_op op_add (pv 1) pe_int), _, rfl, _, _, rfl, rfl, k⟩
  · exact .all fun us hl => match us, hl with | [_, _], _ => rfl
inductive Sp_partsI (TL : Tabs) (vs : List V) (H : Hp) (Q : VK) : Prop where
  | mk (v : _) (t : _) (c1 : vs = [v]) (c2 : TermAt H v t) (c3 : t.size <= 100000) (c4 : TO TL H) (c5 : ∀ l rs H', ST TL H H' -> OthT (TL.map (·.1)) H H' -> H l = none -> H' l = some (.lst rs) -> Paired (PairAt H') rs (t.parts 0) -> Q (.ref l) H')
def sp_parts (TL : Tabs) : Sp := fun vs H Q u3_ => Sp_partsI TL vs H Q
theorem ok_parts_of {f c0 T0 : Addr} {fd : FuncData} {TL : Tabs} (F : FunC K "parts_of" "parts_of" s_parts_of f fd c0) (hC : PySem.W.codeHdIn K c0 T0 = true) (BB : BltAt base mg) (dis : TDis TL) (hT : (T0, lamPos l_parts_of_0, q_parts_of_0) ∈ TL)
    (G_walk : GB P w K mg base CX0 2 "walk" ["term", "around", "inward"] (sp_walk 1 P w K mg)) : FnOk P w K mg base CX0 3 f fd ["term"] (sp_parts TL) := by
  refine F.ok sc_parts_of (fun vs H Q E h => ?_) (fun A outer s H vs Q E hr h => ?_)
  · obtain ⟨v, t, rfl, _⟩ := h
    rfl
  · obtain ⟨v, t, rfl, ht, hsz, to, k⟩ := h
    refine ⟨_, (pss_one (ps_ret (pe_ex (E := E0) G_walk (hr.mono (by decide)) rfl (fun _ _ _ _ _ _ _ _ h => h.elim) (pa_c (pv 0) (pa_c pe_int (pa_c (pe_lam (params := lamArgs l_parts_of_0) (body := lamBody l_parts_of_0) (scope := lamScope l_parts_of_0) (pos := lamPos l_parts_of_0) (qual := q_parts_of_0) (clos := []) rfl hC BB rfl rfl) pa_nil)))))), ?_⟩
    refine ⟨_, rfl, to _ hT, fun f c H1 nf sx tab1 hc1 hf1 oth => ⟨[f], fun b hb => ?_, fun base' lg => ?_⟩⟩
    · rw [List.mem_singleton.mp hb]
      exact goes_lam hf1
    · obtain ⟨pm, ctv, ho⟩ := lg.ext f (by simp) _ hf1
      have to1 := to.made dis hT sx tab1 oth
      have ncf : c ∉ [f] := fun z => lg.nocode c z _ hc1
      refine ⟨v, t, 0, f, _, fun H => H c = some (CodeX c q_parts_of_0), rfl, (ht.mono sx.tups).mono (tups_del lg.only), hsz, ok_inw ho (fun _ h => h), fun H' s' => s' _ _ (by rw [delH_ne ncf]; exact hc1), fun l rs H2 s2 nl hl2 hr2 gone => ?_⟩
      have lf : l ∉ [f] := fun z => by rw [gone l z] at hl2; cases hl2
      rw [delH_ne lf] at nl
      have tu := tups_add (H := H1) gone
      refine k l rs _ (.trans ⟨sx, to1⟩ (.of_same to1 (same_add s2))) ((OthT.of_oth oth (List.mem_map.mpr ⟨_, hT, rfl⟩)).trans (.of_same (same_add s2))) (made_free sx tab1 oth nl) (by rw [addH_ne lf]; exact hl2) (paired_imp (fun _ _ h => PairAt.mono h tu) hr2)
abbrev s__law_parts : Stmt := top 32
theorem sc__law_parts : FnScope ["_law_term", "_law_row", "_law_todo", "_law_part", "_law_deep"] ["_law_term"] (defScope s__law_parts) := ⟨rfl, rfl, rfl, by decide +kernel, rfl, by decide +kernel, by decide +kernel⟩
inductive Sp_lpartsI (vs : List V) (H : Hp) (Q : VK) : Prop where
  | mk (v : _) (t : _) (c1 : vs = [v]) (c2 : TermAt H v t) (c3 : t.size <= 100000) (c4 : ∀ l rs H', Same H H' -> H l = none -> H' l = some (.lst rs) -> Paired (PairAt H') rs (t.lparts 0).reverse -> Q (.ref l) H')
def sp_lparts : Sp := fun vs H Q u3_ => Sp_lpartsI vs H Q
inductive InvLPartsI (H : Hp) (v : V) (t : Tm) (f d : Addr) (m : Nat) (σ : L2.St) (H' : Hp) : Prop where
  | mk (its : _) (xs : _) (fs : _) (ps : _) (x3 : _) (x4 : _) (c1 : σ = [some v, some (.ref f), some (.ref d), x3, x4]) (c2 : Same H H') (c3 : H' f = some (.lst fs)) (c4 : H' d = some (.lst xs)) (c5 : Paired (PairAt H') xs its) (c6 : Paired (PairAt H') fs ps) (c7 : ps ++ pendL its = t.lparts 0) (c8 : m = sizesP its) (c9 : sizesP its <= t.size)
def InvLParts (H : Hp) (v : V) (t : Tm) (f d : Addr) (m : Nat) (σ : L2.St) (H' : Hp) : Prop := InvLPartsI H v t f d m σ H'
theorem ok__law_parts {f : Addr} {fd : FuncData} (F : Fun K "_law_parts" "_law_parts" s__law_parts f fd) (N_ : NoNames mg) : FnOk P w K mg base CX0 1 f fd ["_law_term"] sp_lparts := by
  refine F.ok sc__law_parts (fun vs H Q E h => ?_) (fun cdv A outer s H vs Q E hr h => ?_)
  · obtain ⟨v, t, rfl, _⟩ := h
    rfl
  · obtain ⟨v, t, rfl, ht, hsz, k⟩ := h
    have hu0 := hr.units0
    refine ⟨_, (pss_cons (ps_set (i := 1) sc__law_parts.nd rfl (Or.inl rfl) (pLst pa_nil))
      (pss_cons (ps_set (i := 2) sc__law_parts.nd rfl (Or.inl rfl) (pLst (pa_c (pTup (pa_c (pv 0) (pa_c pe_int pa_nil))) pa_nil)))
      (pss_cons (ps_while PassesOwn.never (pt_cmpR (op_neNil hu0) (pv 2) (pLst pa_nil) (nomark _)) (pss_cons (ps_asg (pPop (pv 2)) (pg_tup rfl (pgs_cons (pg_name (i := 3) sc__law_parts.nd rfl (Or.inl rfl)) (pgs_cons (pg_name (i := 4) sc__law_parts.nd rfl (Or.inl rfl)) pgs_nil))))
      (pss_cons (ps_expr (pApp (pv 1) (pTup (pa_c (pv 3) (pa_c (pv 4) pa_nil)))))
      (pss_cons (ps_if (pt_cmpR op_eq (pe_ix ix_tup (pv 3) pe_int (fun _ _ => rfl)) pe_str (nomark _)) (pss_one (ps_expr (pApp (pv 2) (pTup (pa_c (pe_ix ix_tup (pv 3) pe_int (fun _ _ => rfl)) (pa_c (pe_op op_add (pv 4) pe_int) pa_nil)))))) pss_nil)
      (pss_one (ps_if (pt_cmpR op_eq (pe_ix ix_tup (pv 3) pe_int (fun _ _ => rfl)) pe_str (nomark _)) (pss_cons (ps_expr (pApp (pv 2) (pTup (pa_c (pe_ix ix_tup (pv 3) pe_int (fun _ _ => rfl)) (pa_c (pv 4) pa_nil)))))
      (pss_one (ps_expr (pApp (pv 2) (pTup (pa_c (pe_ix ix_tup (pv 3) pe_int (fun _ _ => rfl)) (pa_c (pv 4) pa_nil))))))) pss_nil))))))
      (pss_one (ps_ret (pe_lrev hr.hd rfl N_.reversed rfl N_.list (pv 1))))))), ?_⟩
    show (let V1_ : TS := _; let V2_ : TS := _; let V3_ : TS := tSeq _ V2_; let V4_ : TS := tIfS _ V3_ _; let V5_ : TS := _; let V6_ : TS := tSeq (tIfS _ V5_ _) V4_; let V7_ : TS := tSeq _ V6_; let V8_ : TS := tSeq _ V7_; let V9_ : TS := tSeq (tWhile _ V8_) V1_; let V10_ : TS := tSeq _ V9_; tSeq _ V10_ _ _ _)
    intro V1_ V2_ V3_ V4_ V5_ V6_ V7_ V8_ V9_ V10_
    refine ⟨small' (by simp), fun f H1 nf s1 hf1 => ⟨_, rfl, small' (by simp), fun q H3 nq s3 hq3 => ⟨small' (by simp), fun d H4 nd s4 hd4 => ?_⟩⟩⟩
    have s04 : Same H H4 := (s1.trans s3).trans s4
    have hf4 : H4 f = some (.lst []) := s4 _ _ (s3 _ _ hf1)
    have nfd : f ≠ d := ne_of_none (s3 _ _ hf1) nd
    have n_f : H f = none := nf
    have n_d : H d = none := (s1.trans s3).free nd
    have nL : ∀ x ∈ [f, d], H x = none := fun x hx => by
      rcases List.mem_cons.mp hx with e | hx
      · rw [e]; exact n_f
      · rw [List.mem_singleton.mp hx]; exact n_d
    refine ⟨InvLParts H v t f d, ⟨sizesP [(t, 0)], ?_⟩, ?_⟩
    · refine ⟨[(t, 0)], [.ref q], [], [], none, none, rfl, s04, hf4, hd4, .cons ⟨q, v, rfl, s4 _ _ hq3, ht.same s04⟩ .nil, .nil, ?_, rfl, ?_⟩
      · show [] ++ (t.lparts 0 ++ []) = _
        rw [List.append_nil, List.nil_append]
      · show t.size + 0 <= t.size
        omega
    · rintro m σ H5 ⟨its, xs, fs, ps, x3, x4, rfl, s5, hf5, hd5, hit, hps, heq, rfl, hsum⟩
      refine ⟨_, rfl, small' (by simp), fun e0 H5' ne0 s5' he0 => ⟨_, _, _, rfl, rfl, SqL.of (s5' _ _ hd5), SqL.of he0, _, rfl, ?_⟩⟩
      have hf5' := s5' _ _ hf5
      have hd5' := s5' _ _ hd5
      have hit := paired_imp (fun a b h => PairAt.mono h (.of_same s5')) hit
      have hps := paired_imp (fun a b h => PairAt.mono h (.of_same s5')) hps
      have s5 := s5.trans s5'
      clear hf5 hd5
      by_cases hnil : its = []
      · subst hnil
        cases paired_nil hit
        have e : ps = t.lparts 0 := by rw [<- heq]; unfold pendL; simp
        subst e
        refine iteF ⟨_, rfl, _, _, rfl, SqL.of hf5', fun l nl => ?_⟩
        have sm : Same H5' (upd H5' l (.lst fs.reverse)) := same_new nl
        exact k l _ _ (s5.trans sm) (s5.free nl) upd_same (paired_rev (paired_imp (fun a b h => PairAt.mono h (.of_same sm)) hps))
      · obtain ⟨its', ⟨t1, k1⟩, rfl⟩ := snoc_of hnil
        obtain ⟨xs', x, rfl, hit', a, tv, rfl, ha, htv⟩ := paired_snoc_inv hit
        have htv : TermAt H5' tv t1 := htv
        rw [show (if true = true then !(xs' ++ [V.ref a]).isEmpty else (xs' ++ [V.ref a]).isEmpty) = true by simp]
        refine iteT ⟨fun σ' H' => ∃ m', m' < sizesP (its' ++ [(t1, k1)]) /\ InvLParts H v t f d m' σ' H', fun _ _ h => h, ?_⟩
        refine ⟨_, rfl, Or.inl ⟨rfl, _, SqL.of hd5'⟩, d, xs', .ref a, rfl, rfl, hd5', fun H6 k6 hd6 => ?_⟩
        have hL := lists2 hf5' hd5'
        have K6 : Keep [f, d] H5' H6 := k6.sub (by simp)
        have tu6 := K6.tups hL
        have ha6 := tu6 _ _ ha
        have htv6 := htv.mono tu6
        have hf6 : H6 f = some (.lst fs) := k6.at hf5' nfd
        have s6 : Same H H6 := same_keep s5 K6 nL
        have it6 := paired_imp (fun a b h => PairAt.mono h tu6) hit'
        have ps6 := paired_imp (fun a b h => PairAt.mono h tu6) hps
        have hL6 := lists2 hf6 hd6
        rw [pendL_snoc] at heq
        rw [sizesP_snoc] at hsum
        rw [sizesP_snoc]
        have hxl : xs'.length <= t.size := by
          rw [Paired.length it6]
          have := len_sizesP its'
          have h1 : sizesP its' + t1.size <= t.size := hsum
          omega
        have hfl : fs.length <= t.size := by
          rw [Paired.length ps6]
          have h1 := congrArg List.length heq
          rw [List.length_append, lparts_len] at h1
          omega
        have hs1 : sizesP its' + t1.size <= t.size := hsum
        refine ⟨a, _, rfl, SqT.of ha6, rfl, _, _, rfl, _, _, rfl, rfl, ?_⟩
        refine ⟨_, rfl, Or.inl ⟨rfl, _, SqL.of hf6⟩, _, rfl, _, rfl, small' (by show 2 <= 1000000; decide), fun p9 H9 np9 sp9 hp9 => ⟨_, _, _, rfl, rfl, sp9 _ _ hf6, small (by omega), fun H7 k7 hf7 => ?_⟩⟩
        have K7 : Keep [f, d] H6 H7 := (Keep.of_same sp9).trans (k7.sub (by simp))
        have hd7 : H7 d = some (.lst xs') := k7.at (sp9 _ _ hd6) nfd.symm
        have tu7 := K7.tups hL6
        have htv7 := htv6.mono tu7
        have s7 : Same H H7 := same_keep s6 K7 nL
        have it7 := paired_imp (fun a b h => PairAt.mono h tu7) it6
        have ps7 := paired_snoc (x := V.ref p9) (y := (t1, k1)) ⟨p9, tv, rfl, k7.tup1 (sp9 _ _ hf6) _ _ hp9, htv7⟩ (paired_imp (fun a b h => PairAt.mono h tu7) ps6)
        have hL7 := lists2 hf7 hd7
        have heq : ps ++ (t1.lparts k1 ++ pendL its') = t.lparts 0 := heq
        cases htv7 with
        | name h =>
          refine ⟨_, rfl, _, _, _, _, rfl, rfl, SqT.of h, at0, rfl, _, rfl, ifF n_nf ⟨_, rfl, _, _, _, _, rfl, rfl, SqT.of h, at0, rfl, _, rfl, ifF n_nc ?_⟩⟩
          refine ⟨_, by show sizesP its' < sizesP its' + 1; omega, its', xs', _, _, _, _, rfl, s7, hf7, hd7, it7, ps7, ?_, rfl, by omega⟩
          rw [List.append_assoc]; exact heq
        | place h =>
          refine ⟨_, rfl, _, _, _, _, rfl, rfl, SqT.of h, at0, rfl, _, rfl, ifF n_pf ⟨_, rfl, _, _, _, _, rfl, rfl, SqT.of h, at0, rfl, _, rfl, ifF n_pc ?_⟩⟩
          refine ⟨_, by show sizesP its' < sizesP its' + 1; omega, its', xs', _, _, _, _, rfl, s7, hf7, hd7, it7, ps7, ?_, rfl, by omega⟩
          rw [List.append_assoc]; exact heq
        | @form a1 bv b h hb =>
          have hbs : T.size (.form b : Tm) = b.size + 1 := rfl
          refine ⟨_, rfl, _, _, _, _, rfl, rfl, SqT.of h, at0, rfl, _, rfl, ifT rfl ?_⟩
          refine ⟨_, rfl, Or.inl ⟨rfl, _, SqL.of hd7⟩, _, rfl, _, _, _, _, rfl, rfl, SqT.of h, at1, _, rfl, _, _, rfl, rfl, small' (by show 2 <= 1000000; decide), fun b9 H9 n9 s9 h9 => ⟨_, _, _, rfl, rfl, s9 _ _ hd7, small (by omega), fun H10 k10 hd10 => ?_⟩⟩
          have K10 : Keep [f, d] H7 H10 := (Keep.of_same s9).trans (k10.sub (by simp))
          have tu10 := K10.tups hL7
          refine ⟨_, rfl, _, _, _, _, rfl, rfl, SqT.of (tu10 _ _ h), at0, rfl, _, rfl, ifF n_fc ?_⟩
          refine ⟨_, ?_, its' ++ [(b, k1 + 1)], _, _, _, _, _, rfl, same_keep s7 K10 nL, k10.at (s9 _ _ hf7) nfd, hd10, paired_snoc ⟨b9, bv, rfl, k10.tup1 (s9 _ _ hd7) _ _ h9, hb.mono tu10⟩ (paired_imp (fun a b h => PairAt.mono h tu10) it7), paired_imp (fun a b h => PairAt.mono h tu10) ps7, ?_, rfl, ?_⟩
          · rw [sizesP_snoc]; show sizesP its' + b.size < sizesP its' + (b.size + 1); omega
          · rw [pendL_snoc, List.append_assoc]; exact heq
          · rw [sizesP_snoc]; show sizesP its' + b.size <= t.size; omega
        | @call a1 xv yv x y h hx hy =>
          have hcs : T.size (.call x y : Tm) = x.size + y.size + 1 := rfl
          refine ⟨_, rfl, _, _, _, _, rfl, rfl, SqT.of h, at0, rfl, _, rfl, ifF n_cf ⟨_, rfl, _, _, _, _, rfl, rfl, SqT.of h, at0, rfl, _, rfl, ifT rfl ?_⟩⟩
          refine ⟨_, rfl, Or.inl ⟨rfl, _, SqL.of hd7⟩, _, rfl, _, _, _, _, rfl, rfl, SqT.of h, at1, _, rfl, small' (by show 2 <= 1000000; decide), fun b9 H9 n9 s9 h9 => ⟨_, _, _, rfl, rfl, s9 _ _ hd7, small (by omega), fun H10 k10 hd10 => ?_⟩⟩
          have K10 : Keep [f, d] H7 H10 := (Keep.of_same s9).trans (k10.sub (by simp))
          have tu10 := K10.tups hL7
          have hf10 := k10.at (s9 _ _ hf7) nfd
          have hL10 := lists2 hf10 hd10
          have it10 := paired_snoc (x := V.ref b9) (y := (x, k1)) ⟨b9, xv, rfl, k10.tup1 (s9 _ _ hd7) _ _ h9, hx.mono tu10⟩ (paired_imp (fun a b h => PairAt.mono h tu10) it7)
          refine ⟨_, rfl, Or.inl ⟨rfl, _, SqL.of hd10⟩, _, rfl, _, _, _, _, rfl, rfl, SqT.of (tu10 _ _ h), at2, _, rfl, small' (by show 2 <= 1000000; decide), fun c9 H11 m9 s11 g9 => ⟨_, _, _, rfl, rfl, s11 _ _ hd10, small (by rw [List.length_append, List.length_singleton]; omega), fun H12 k12 hd12 => ?_⟩⟩
          have K12 : Keep [f, d] H10 H12 := (Keep.of_same s11).trans (k12.sub (by simp))
          have tu12 := K12.tups hL10
          refine ⟨_, ?_, (its' ++ [(x, k1)]) ++ [(y, k1)], _, _, _, _, _, rfl, same_keep s7 (K10.trans K12) nL, k12.at (s11 _ _ hf10) nfd, hd12, paired_snoc ⟨c9, yv, rfl, k12.tup1 (s11 _ _ hd10) _ _ g9, (hy.mono tu10).mono tu12⟩ (paired_imp (fun a b h => PairAt.mono h tu12) it10), paired_imp (fun a b h => (PairAt.mono h tu10).mono tu12) ps7, ?_, rfl, ?_⟩
          · rw [sizesP_snoc, sizesP_snoc]; show sizesP its' + x.size + y.size < sizesP its' + (x.size + y.size + 1); omega
          · rw [pendL_snoc, pendL_snoc, List.append_assoc]
            show ps ++ ((.call x y, k1) :: (y.lparts k1 ++ (x.lparts k1 ++ pendL its'))) = _
            rw [<- heq]
            show _ = ps ++ ((.call x y, k1) :: (y.lparts k1 ++ x.lparts k1) ++ pendL its')
            simp
          · rw [sizesP_snoc, sizesP_snoc]; show sizesP its' + x.size + y.size <= _; omega
end
end NC
namespace NC
open PySem PySem.Spec PyProof.Rows L2
def PileAt (H : Hp) (p : Addr) (vs : List V) (S : List Tm) : Prop := H p = some (.lst vs) /\ Paired (TermAt H) vs S.reverse
theorem PileAt.pop {H : Hp} {p : Addr} {vs : List V} {S : List Tm} {x : Tm} (h : PileAt H p vs (x :: S)) : ∃ vs' v, vs = vs' ++ [v] /\ TermAt H v x /\ Paired (TermAt H) vs' S.reverse := by
  have q := h.2
  rw [List.reverse_cons] at q
  obtain ⟨vs', v, e, r, tv⟩ := paired_snoc_inv q
  exact ⟨vs', v, e, tv, r⟩
theorem PileAt.same {H H' : Hp} {p : Addr} {vs : List V} {S : List Tm} (h : PileAt H p vs S) (s : Same H H') : PileAt H' p vs S := ⟨s _ _ h.1, paired_imp (fun _ _ q => q.same s) h.2⟩
theorem keep1_tups {H H' : Hp} {p : Addr} {vs : List V} (k : Keep [p] H H') (h : H p = some (.lst vs)) : Tups H H' := fun b xs q => k b _ (fun z => by rw [List.mem_singleton.mp z, h] at q; cases q) q
theorem PileAt.len {H : Hp} {p : Addr} {vs : List V} {S : List Tm} (h : PileAt H p vs S) : vs.length = S.length := by rw [Paired.length h.2, List.length_reverse]
theorem terms_kp {H H' : Hp} {p : Addr} {vs : List V} {us : List V} {S : List Tm} (q : Paired (TermAt H) us S) (k : Keep [p] H H') (h : H p = some (.lst vs)) : Paired (TermAt H') us S := paired_imp (fun _ _ z => z.mono (keep1_tups k h)) q
section
variable {P : Program} {w : World} {K : PySem.W.Frag} {mg : Str -> Option Value} {base : Heap}
seal L2.PE L2.PA L2.PT L2.PS L2.PSs L2.PW L2.PG L2.PGs L2.PI L2.PO L2.OpR L2.UnR L2.CallR L2.TruR L2.IxR L2.SlR
abbrev s__law_raised : Stmt := top 33
theorem sc__law_raised : FnScope ["_law_term", "_law_by", "_law_pile", "_law_part", "_law_deep", "_law_made", "_law_other"] ["_law_term", "_law_by"] (defScope s__law_raised) := ⟨rfl, rfl, rfl, by decide +kernel, rfl, by decide +kernel, by decide +kernel⟩
inductive Sp_lraisedI (vs : List V) (H : Hp) (Q : VK) : Prop where
  | mk (v : _) (t : _) (m : Nat) (c1 : vs = [v, .int (m : Int)]) (c2 : TermAt H v t) (c3 : t.size <= 100000) (c4 : ∀ v' H', Same H H' -> TermAt H' v' (t.lift m) -> Q v' H')
def sp_lraised : Sp := fun vs H Q u3_ => Sp_lraisedI vs H Q
inductive InvLRaisedI (g : Tm -> Nat -> Tm) (H : Hp) (v u : V) (t : Tm) (p l : Addr) (rs : List V) (i : Nat) (σ : L2.St) (H' : Hp) : Prop where
  | mk (vs : _) (S : _) (x3 : _) (x4 : _) (x5 : _) (x6 : _) (c1 : σ = [some v, some u, some (.ref p), x3, x4, x5, x6]) (c2 : Same H H') (c3 : PileAt H' p vs S) (c4 : H' l = some (.lst rs)) (c5 : Paired (PairAt H') rs (t.lparts 0).reverse) (c6 : S.length <= i) (c7 : run2 g ((t.lparts 0).reverse.drop i) S = some [t.rebuild g 0])
def InvLRaised (g : Tm -> Nat -> Tm) (H : Hp) (v u : V) (t : Tm) (p l : Addr) (rs : List V) (i : Nat) (σ : L2.St) (H' : Hp) : Prop := InvLRaisedI g H v u t p l rs i σ H'
theorem ok__law_raised {f : Addr} {fd : FuncData} (F : Fun K "_law_raised" "_law_raised" s__law_raised f fd) (G__law_parts : GF P w K mg base CX0 1 "_law_parts" ["_law_term"] sp_lparts) : FnOk P w K mg base CX0 2 f fd ["_law_term", "_law_by"] sp_lraised := by
  refine F.ok sc__law_raised (fun vs H Q E h => ?_) (fun cdv A outer s H vs Q E hr h => ?_)
  · obtain ⟨v, t, m, rfl, _⟩ := h
    rfl
  · obtain ⟨v, t, m, rfl, ht, hsz, k⟩ := h
    refine ⟨_, (pss_cons (ps_set (i := 2) sc__law_raised.nd rfl (Or.inl rfl) (pLst pa_nil))
      (pss_cons (ps_for PassesOwn.never rfl (pi_list (pe_gf G__law_parts (hr.mono (by decide)) rfl pass0 (pa_c (pv 0) pa_nil))) (pg_tup rfl (pgs_cons (pg_name (i := 3) sc__law_raised.nd rfl (Or.inl rfl)) (pgs_cons (pg_name (i := 4) sc__law_raised.nd rfl (Or.inl rfl)) pgs_nil))) (pss_cons (ps_set (i := 5) sc__law_raised.nd rfl (Or.inl rfl) (pv 3))
      (pss_cons (ps_if (pt_cmpR op_eq (pe_ix ix_tup (pv 3) pe_int (fun _ _ => rfl)) pe_str (nomark _)) (pss_one (ps_set (i := 5) sc__law_raised.nd rfl (Or.inl rfl) (pTup (pa_c pe_str (pa_c (pPop (pv 2)) pa_nil))))) (pss_one (ps_if (pt_cmpR op_eq (pe_ix ix_tup (pv 3) pe_int (fun _ _ => rfl)) pe_str (nomark _)) (pss_cons (ps_set (i := 6) sc__law_raised.nd rfl (Or.inl rfl) (pPop (pv 2)))
      (pss_one (ps_set (i := 5) sc__law_raised.nd rfl (Or.inl rfl) (pTup (pa_c pe_str (pa_c (pPop (pv 2)) (pa_c (pv 6) pa_nil))))))) (pss_one (ps_if (PW.pt (pw_and (pt_cmpR op_eq (pe_ix ix_tup (pv 3) pe_int (fun _ _ => rfl)) pe_str (nomark _)) (pw_and1 (pt_cmpR op_ge (pe_ix ix_tup (pv 3) pe_int (fun _ _ => rfl)) (pv 4) (nomark _))))) (pss_one (ps_set (i := 5) sc__law_raised.nd rfl (Or.inl rfl) (pTup (pa_c pe_str (pa_c (pe_op op_add (pe_ix ix_tup (pv 3) pe_int (fun _ _ => rfl)) (pv 1)) pa_nil))))) pss_nil)))))
      (pss_one (ps_expr (pApp (pv 2) (pv 5)))))))
      (pss_one (ps_ret (pe_ix ix_list (pv 2) pe_int (fun _ _ => rfl)))))), ?_⟩
    show (let V1_ : TS := _; let V2_ : TS := _; let V3_ : TS := _; let V4_ : TS := _; let V5_ : TS := tSeq _ V4_; let V6_ : TS := _; let V7_ : TS := tIfS _ V6_ _; let V8_ : TS := tIfS _ V5_ V7_; let V9_ : TS := tSeq (tIfS _ V3_ V8_) V2_; let V10_ : TS := tSeq _ V9_; let V11_ : TS := tSeq (tFor _ _ V10_) V1_; tSeq _ V11_ _ _ _)
    intro V1_ V2_ V3_ V4_ V5_ V6_ V7_ V8_ V9_ V10_ V11_
    refine ⟨small' (by simp), fun p H1 np s1 hp1 => ⟨_, rfl, v, t, rfl, ht.same s1, hsz, fun l rs H2 s2 nl hl2 hr2 => ?_⟩⟩
    have n_l : p ≠ l := ne_of_none hp1 nl
    have hlen : rs.length = t.size := by rw [Paired.length hr2, List.length_reverse, lparts_len]
    refine ⟨l, rfl, ⟨_, SqL.of hl2⟩, for_list (K := K) (a := l) (xs := rs) (InvLRaised (liftG m) H v (.int m) t p l rs) ?_ ?_ ?_ ?_⟩
    · exact ⟨[], [], none, none, none, none, rfl, s1.trans s2, ⟨s2 _ _ hp1, .nil⟩, hl2, hr2, Nat.le_refl _, run2_all t⟩
    · rintro i σ H' _ ⟨_, _, _, _, _, _, _, _, _, h, _⟩
      exact SqL.of h
    · rintro i x σ H3 hi ⟨vs, S, x3, x4, x5, x6, rfl, s3, hp3, hl3, hr3, hS, hrun⟩
      obtain ⟨⟨t1, k1⟩, hi2, a, tv, rfl, ha, htv⟩ := paired_get hr3 hi
      have htv : TermAt H3 tv t1 := htv
      have hlt : i < t.size := by
        have := (List.getElem?_eq_some_iff.mp hi).1
        omega
      have hd : (t.lparts 0).reverse.drop i = (t1, k1) :: (t.lparts 0).reverse.drop (i + 1) := by
        rw [List.drop_eq_getElem_cons (List.getElem?_eq_some_iff.mp hi2).1, (List.getElem?_eq_some_iff.mp hi2).2]
      rw [hd] at hrun
      refine ⟨a, _, rfl, SqT.of ha, rfl, _, _, rfl, _, _, rfl, rfl, ?_⟩
      refine ⟨_, rfl, ?_⟩
      -- pile.append(made)
      have fin : ∀ {H7 : Hp} {vs7 : List V} {S7 : List Tm} {u : V} {y : Tm} {x6 : Option V}, Keep [p] H3 H7 -> H7 p = some (.lst vs7) -> Paired (TermAt H7) vs7 S7.reverse -> TermAt H7 u y -> S7.length <= i -> run2 (liftG m) ((t.lparts 0).reverse.drop (i + 1)) (y :: S7) = some [t.rebuild (liftG m) 0] ->
          ∀ H8, Keep [p] H7 H8 -> H8 p = some (.lst (vs7 ++ [u])) -> InvLRaised (liftG m) H v (.int m) t p l rs (i + 1) [some v, some (.int m), some (.ref p), some tv, some (.int (k1 : Int)), some u, x6] H8 := by
        intro H7 vs7 S7 u y x6 k7 hp7 q7 hu hS7 hrun7 H8 k8 hp8
        have k38 := k7.trans k8
        have tu38 : Tups H3 H8 := keep1_tups k38 hp3.1
        refine ⟨_, y :: S7, _, _, _, _, rfl, same_keep s3 k38 fun x hx => by rw [List.mem_singleton.mp hx]; exact np, ⟨hp8, ?_⟩, k38.at hl3 n_l.symm, paired_imp (fun _ _ z => PairAt.mono z tu38) hr3, by rw [List.length_cons]; omega, hrun7⟩
        rw [List.reverse_cons]
        exact paired_snoc (hu.mono (keep1_tups k8 hp7)) (terms_kp q7 k8 hp7)
      cases htv with
      | name h =>
        refine ⟨_, rfl, _, _, _, _, rfl, rfl, SqT.of h, at0, rfl, _, rfl, ifF n_nf ⟨_, rfl, _, _, _, _, rfl, rfl, SqT.of h, at0, rfl, _, rfl, ifF n_nc ⟨_, rfl, _, _, _, _, rfl, rfl, SqT.of h, at0, rfl, _, rfl, ifF n_np (iteF ?_)⟩⟩⟩
        refine ⟨_, rfl, Or.inl ⟨rfl, _, SqL.of hp3.1⟩, _, rfl, _, _, _, rfl, rfl, hp3.1, small (by have := hp3.len; omega), fun H8 k8 hp8 => ?_⟩
        exact fin (Keep.refl _ _) hp3.1 hp3.2 (.name h) hS hrun H8 k8 hp8
      | @place a1 n h =>
        refine ⟨_, rfl, _, _, _, _, rfl, rfl, SqT.of h, at0, rfl, _, rfl, ifF n_pf ⟨_, rfl, _, _, _, _, rfl, rfl, SqT.of h, at0, rfl, _, rfl, ifF n_pc ⟨_, rfl, _, _, _, _, rfl, rfl, SqT.of h, at0, rfl, _, rfl, ifT rfl ⟨_, rfl, _, _, _, _, rfl, rfl, SqT.of h, at1, _, rfl, _, _, rfl, rfl, _, rfl, ifD (fun hge => ?_) (fun hlt => ?_)⟩⟩⟩⟩
        · have hge : k1 <= n := by omega
          refine ⟨_, rfl, _, _, _, _, rfl, rfl, SqT.of h, at1, _, rfl, _, _, rfl, rfl, small' (by show 2 <= 1000000; decide), fun b9 H9 n9 s9 h9 => ?_⟩
          have hp9 := s9 _ _ hp3.1
          refine ⟨_, rfl, Or.inl ⟨rfl, _, SqL.of hp9⟩, _, rfl, _, _, _, rfl, rfl, hp9, small (by have := hp3.len; omega), fun H8 k8 hp8 => ?_⟩
          refine fin (Keep.of_same s9) hp9 (paired_imp (fun _ _ q => q.same s9) hp3.2) (.place (n := n + m) h9) hS ?_ H8 k8 hp8
          have e : liftG m (.place n : Tm) k1 = .place (n + m) := by show (if k1 <= n then T.place (n + m) else T.place n : Tm) = _; rw [if_pos hge]
          rw [<- e]
          exact hrun
        · have hlt : ¬ k1 <= n := by omega
          refine ⟨_, rfl, Or.inl ⟨rfl, _, SqL.of hp3.1⟩, _, rfl, _, _, _, rfl, rfl, hp3.1, small (by have := hp3.len; omega), fun H8 k8 hp8 => ?_⟩
          refine fin (Keep.refl _ _) hp3.1 hp3.2 (.place h) hS ?_ H8 k8 hp8
          have e : liftG m (.place n : Tm) k1 = .place n := by show (if k1 <= n then T.place (n + m) else T.place n : Tm) = _; rw [if_neg hlt]
          have e2 : run2 (liftG m) ((t.lparts 0).reverse.drop (i + 1)) (liftG m (.place n) k1 :: S) = some [t.rebuild (liftG m) 0] := hrun
          rw [e] at e2
          exact e2
      | @form a1 bv b h hb =>
        obtain ⟨x, S', rfl, hrun⟩ := run2_form hrun
        obtain ⟨vs', u, rfl, hu, hv'⟩ := hp3.pop
        refine ⟨_, rfl, _, _, _, _, rfl, rfl, SqT.of h, at0, rfl, _, rfl, ifT rfl ?_⟩
        refine ⟨_, rfl, Or.inl ⟨rfl, _, SqL.of hp3.1⟩, p, vs', u, rfl, rfl, hp3.1, fun H6 k6 hp6 => ⟨small' (by show 2 <= 1000000; decide), fun b9 H9 n9 s9 h9 => ?_⟩⟩
        have hp9 := s9 _ _ hp6
        have k39 := k6.trans (Keep.of_same s9)
        have ln := hp3.len
        rw [List.length_append, List.length_singleton, List.length_cons] at ln
        rw [List.length_cons] at hS
        refine ⟨_, rfl, Or.inl ⟨rfl, _, SqL.of hp9⟩, _, rfl, _, _, _, rfl, rfl, hp9, small (by omega), fun H8 k8 hp8 => ?_⟩
        exact fin k39 hp9 (terms_kp hv' k39 hp3.1) (.form h9 (hu.mono (keep1_tups k39 hp3.1))) (by omega) hrun H8 k8 hp8
      | @call a1 xv yv x y h hx hy =>
        obtain ⟨y, x, S', rfl, hrun⟩ := run2_call hrun
        obtain ⟨vs1, u, rfl, hu, hv1⟩ := hp3.pop
        refine ⟨_, rfl, _, _, _, _, rfl, rfl, SqT.of h, at0, rfl, _, rfl, ifF n_cf ⟨_, rfl, _, _, _, _, rfl, rfl, SqT.of h, at0, rfl, _, rfl, ifT rfl ?_⟩⟩
        refine ⟨_, rfl, Or.inl ⟨rfl, _, SqL.of hp3.1⟩, p, vs1, u, rfl, rfl, hp3.1, fun H6 k6 hp6 => ?_⟩
        have P6 : PileAt H6 p vs1 (x :: S') := ⟨hp6, terms_kp hv1 k6 hp3.1⟩
        obtain ⟨vs', z, rfl, hz, hv'⟩ := P6.pop
        refine ⟨_, rfl, Or.inl ⟨rfl, _, SqL.of hp6⟩, p, vs', z, rfl, rfl, hp6, fun H7 k7 hp7 => ⟨_, rfl, small' (by show 3 <= 1000000; decide), fun b9 H9 n9 s9 h9 => ?_⟩⟩
        have hp9 := s9 _ _ hp7
        have k69 := k7.trans (Keep.of_same s9)
        have k39 := k6.trans k69
        have ln := hp3.len
        rw [List.length_append, List.length_append, List.length_singleton, List.length_singleton, List.length_cons, List.length_cons] at ln
        rw [List.length_cons, List.length_cons] at hS
        refine ⟨_, rfl, Or.inl ⟨rfl, _, SqL.of hp9⟩, _, rfl, _, _, _, rfl, rfl, hp9, small (by omega), fun H8 k8 hp8 => ?_⟩
        exact fin k39 hp9 (terms_kp hv' k69 hp6) (.call h9 (hz.mono (keep1_tups k69 hp6)) (hu.mono (keep1_tups k39 hp3.1))) (by omega) hrun H8 k8 hp8
    · rintro σ H3 ⟨vs, S, x3, x4, x5, x6, rfl, s3, hp3, hl3, hr3, hS, hrun⟩
      rw [List.drop_eq_nil_of_le (by rw [List.length_reverse, lparts_len, hlen]; exact Nat.le_refl _)] at hrun
      cases (Option.some.inj hrun)
      obtain ⟨vs', u, rfl, hu, hv'⟩ := hp3.pop
      cases paired_nil hv'
      exact ⟨_, rfl, _, _, _, _, rfl, rfl, SqL.of hp3.1, at0, k u H3 s3 hu⟩
abbrev s__law_stuffed : Stmt := top 34
theorem sc__law_stuffed : FnScope ["_law_body", "_law_given", "_law_pile", "_law_part", "_law_deep", "_law_made", "_law_other"] ["_law_body", "_law_given"] (defScope s__law_stuffed) := ⟨rfl, rfl, rfl, by decide +kernel, rfl, by decide +kernel, by decide +kernel⟩
inductive Sp_lstuffedI (vs : List V) (H : Hp) (Q : VK) : Prop where
  | mk (v : _) (t : _) (u : _) (r : _) (c1 : vs = [v, u]) (c2 : TermAt H v t) (c3 : TermAt H u r) (c4 : t.size <= 100000) (c5 : r.size <= 100000) (c6 : ∀ v' H', Same H H' -> TermAt H' v' (t.fill r) -> Q v' H')
def sp_lstuffed : Sp := fun vs H Q u3_ => Sp_lstuffedI vs H Q
theorem ok__law_stuffed {f : Addr} {fd : FuncData} (F : Fun K "_law_stuffed" "_law_stuffed" s__law_stuffed f fd) (G__law_parts : GF P w K mg base CX0 1 "_law_parts" ["_law_term"] sp_lparts) (G__law_raised : GF P w K mg base CX0 2 "_law_raised" ["_law_term", "_law_by"] sp_lraised) : FnOk P w K mg base CX0 3 f fd ["_law_body", "_law_given"] sp_lstuffed := by
  refine F.ok sc__law_stuffed (fun vs H Q E h => ?_) (fun cdv A outer s H vs Q E hr h => ?_)
  · obtain ⟨v, t, u0, r, rfl, _⟩ := h
    rfl
  · obtain ⟨v, t, u0, r, rfl, ht, hu0t, hsz, hszr, k⟩ := h
    refine ⟨_, (pss_cons (ps_set (i := 2) sc__law_stuffed.nd rfl (Or.inl rfl) (pLst pa_nil))
      (pss_cons (ps_for PassesOwn.never rfl (pi_list (pe_gf G__law_parts (hr.mono (by decide)) rfl pass0 (pa_c (pv 0) pa_nil))) (pg_tup rfl (pgs_cons (pg_name (i := 3) sc__law_stuffed.nd rfl (Or.inl rfl)) (pgs_cons (pg_name (i := 4) sc__law_stuffed.nd rfl (Or.inl rfl)) pgs_nil))) (pss_cons (ps_set (i := 5) sc__law_stuffed.nd rfl (Or.inl rfl) (pv 3))
      (pss_cons (ps_if (pt_cmpR op_eq (pe_ix ix_tup (pv 3) pe_int (fun _ _ => rfl)) pe_str (nomark _)) (pss_one (ps_set (i := 5) sc__law_stuffed.nd rfl (Or.inl rfl) (pTup (pa_c pe_str (pa_c (pPop (pv 2)) pa_nil))))) (pss_one (ps_if (pt_cmpR op_eq (pe_ix ix_tup (pv 3) pe_int (fun _ _ => rfl)) pe_str (nomark _)) (pss_cons (ps_set (i := 6) sc__law_stuffed.nd rfl (Or.inl rfl) (pPop (pv 2)))
      (pss_one (ps_set (i := 5) sc__law_stuffed.nd rfl (Or.inl rfl) (pTup (pa_c pe_str (pa_c (pPop (pv 2)) (pa_c (pv 6) pa_nil))))))) (pss_one (ps_if (PW.pt (pw_and (pt_cmpR op_eq (pe_ix ix_tup (pv 3) pe_int (fun _ _ => rfl)) pe_str (nomark _)) (pw_and1 (pt_cmpR op_eq (pe_ix ix_tup (pv 3) pe_int (fun _ _ => rfl)) (pv 4) (nomark _))))) (pss_one (ps_set (i := 5) sc__law_stuffed.nd rfl (Or.inl rfl) (pe_gf G__law_raised (hr.mono (by decide)) rfl pass0 (pa_c (pv 1) (pa_c (pv 4) pa_nil))))) (pss_one (ps_if (PW.pt (pw_and (pt_cmpR op_eq (pe_ix ix_tup (pv 3) pe_int (fun _ _ => rfl)) pe_str (nomark _)) (pw_and1 (pt_cmpR op_gt (pe_ix ix_tup (pv 3) pe_int (fun _ _ => rfl)) (pv 4) (nomark _))))) (pss_one (ps_set (i := 5) sc__law_stuffed.nd rfl (Or.inl rfl) (pTup (pa_c pe_str (pa_c (pe_op op_sub (pe_ix ix_tup (pv 3) pe_int (fun _ _ => rfl)) pe_int) pa_nil))))) pss_nil)))))))
      (pss_one (ps_expr (pApp (pv 2) (pv 5)))))))
      (pss_one (ps_ret (pe_ix ix_list (pv 2) pe_int (fun _ _ => rfl)))))), ?_⟩
    show (let V1_ : TS := _; let V2_ : TS := _; let V3_ : TS := _; let V4_ : TS := _; let V5_ : TS := tSeq _ V4_; let V6_ : TS := _; let V7_ : TS := _; let V8_ : TS := tIfS _ V7_ _; let V9_ : TS := tIfS _ V6_ V8_; let V10_ : TS := tIfS _ V5_ V9_; let V11_ : TS := tSeq (tIfS _ V3_ V10_) V2_; let V12_ : TS := tSeq _ V11_; let V13_ : TS := tSeq (tFor _ _ V12_) V1_; tSeq _ V13_ _ _ _)
    intro V1_ V2_ V3_ V4_ V5_ V6_ V7_ V8_ V9_ V10_ V11_ V12_ V13_
    refine ⟨small' (by simp), fun p H1 np s1 hp1 => ⟨_, rfl, v, t, rfl, ht.same s1, hsz, fun l rs H2 s2 nl hl2 hr2 => ?_⟩⟩
    have n_l : p ≠ l := ne_of_none hp1 nl
    have hlen : rs.length = t.size := by rw [Paired.length hr2, List.length_reverse, lparts_len]
    refine ⟨l, rfl, ⟨_, SqL.of hl2⟩, for_list (K := K) (a := l) (xs := rs) (InvLRaised (fillG r) H v u0 t p l rs) ?_ ?_ ?_ ?_⟩
    · exact ⟨[], [], none, none, none, none, rfl, s1.trans s2, ⟨s2 _ _ hp1, .nil⟩, hl2, hr2, Nat.le_refl _, run2_all t⟩
    · rintro i σ H' _ ⟨_, _, _, _, _, _, _, _, _, h, _⟩
      exact SqL.of h
    · rintro i x σ H3 hi ⟨vs, S, x3, x4, x5, x6, rfl, s3, hp3, hl3, hr3, hS, hrun⟩
      obtain ⟨⟨t1, k1⟩, hi2, a, tv, rfl, ha, htv⟩ := paired_get hr3 hi
      have htv : TermAt H3 tv t1 := htv
      have hlt : i < t.size := by
        have := (List.getElem?_eq_some_iff.mp hi).1
        omega
      have hd : (t.lparts 0).reverse.drop i = (t1, k1) :: (t.lparts 0).reverse.drop (i + 1) := by
        rw [List.drop_eq_getElem_cons (List.getElem?_eq_some_iff.mp hi2).1, (List.getElem?_eq_some_iff.mp hi2).2]
      rw [hd] at hrun
      refine ⟨a, _, rfl, SqT.of ha, rfl, _, _, rfl, _, _, rfl, rfl, ?_⟩
      refine ⟨_, rfl, ?_⟩
      -- pile.append(made)
      have fin : ∀ {H7 : Hp} {vs7 : List V} {S7 : List Tm} {u : V} {y : Tm} {x6 : Option V}, Keep [p] H3 H7 -> H7 p = some (.lst vs7) -> Paired (TermAt H7) vs7 S7.reverse -> TermAt H7 u y -> S7.length <= i -> run2 (fillG r) ((t.lparts 0).reverse.drop (i + 1)) (y :: S7) = some [t.rebuild (fillG r) 0] ->
          ∀ H8, Keep [p] H7 H8 -> H8 p = some (.lst (vs7 ++ [u])) -> InvLRaised (fillG r) H v u0 t p l rs (i + 1) [some v, some u0, some (.ref p), some tv, some (.int (k1 : Int)), some u, x6] H8 := by
        intro H7 vs7 S7 u y x6 k7 hp7 q7 hu hS7 hrun7 H8 k8 hp8
        have k38 := k7.trans k8
        have tu38 : Tups H3 H8 := keep1_tups k38 hp3.1
        refine ⟨_, y :: S7, _, _, _, _, rfl, same_keep s3 k38 fun x hx => by rw [List.mem_singleton.mp hx]; exact np, ⟨hp8, ?_⟩, k38.at hl3 n_l.symm, paired_imp (fun _ _ z => PairAt.mono z tu38) hr3, by rw [List.length_cons]; omega, hrun7⟩
        rw [List.reverse_cons]
        exact paired_snoc (hu.mono (keep1_tups k8 hp7)) (terms_kp q7 k8 hp7)
      cases htv with
      | name h =>
        refine ⟨_, rfl, _, _, _, _, rfl, rfl, SqT.of h, at0, rfl, _, rfl, ifF n_nf ⟨_, rfl, _, _, _, _, rfl, rfl, SqT.of h, at0, rfl, _, rfl, ifF n_nc ⟨_, rfl, _, _, _, _, rfl, rfl, SqT.of h, at0, rfl, _, rfl, ifF n_np (iteF ⟨_, rfl, _, _, _, _, rfl, rfl, SqT.of h, at0, rfl, _, rfl, ifF n_np (iteF ?_)⟩)⟩⟩⟩
        refine ⟨_, rfl, Or.inl ⟨rfl, _, SqL.of hp3.1⟩, _, rfl, _, _, _, rfl, rfl, hp3.1, small (by have := hp3.len; omega), fun H8 k8 hp8 => ?_⟩
        exact fin (Keep.refl _ _) hp3.1 hp3.2 (.name h) hS hrun H8 k8 hp8
      | @place a1 n h =>
        have hrun2 : run2 (fillG r) ((t.lparts 0).reverse.drop (i + 1)) ((if n < k1 then T.place n else if n = k1 then r.lift k1 else T.place (n - 1)) :: S) = some [t.rebuild (fillG r) 0] := hrun
        refine ⟨_, rfl, _, _, _, _, rfl, rfl, SqT.of h, at0, rfl, _, rfl, ifF n_pf ⟨_, rfl, _, _, _, _, rfl, rfl, SqT.of h, at0, rfl, _, rfl, ifF n_pc ⟨_, rfl, _, _, _, _, rfl, rfl, SqT.of h, at0, rfl, _, rfl, ifT rfl ⟨_, rfl, _, _, _, _, rfl, rfl, SqT.of h, at1, _, rfl, rfl, _, rfl, ifD (fun heq => ?_) (fun hne => ?_)⟩⟩⟩⟩
        · have heq : n = k1 := by have := V.int.inj heq; omega
          subst heq
          rw [if_neg (Nat.lt_irrefl n), if_pos rfl] at hrun2
          refine ⟨_, rfl, _, rfl, u0, r, n, rfl, hu0t.same s3, hszr, fun v' H9 s9 hv' => ?_⟩
          have hp9 := s9 _ _ hp3.1
          refine ⟨_, rfl, Or.inl ⟨rfl, _, SqL.of hp9⟩, _, rfl, _, _, _, rfl, rfl, hp9, small (by have := hp3.len; omega), fun H8 k8 hp8 => ?_⟩
          exact fin (Keep.of_same s9) hp9 (paired_imp (fun _ _ q => q.same s9) hp3.2) hv' hS hrun2 H8 k8 hp8
        · have hne : ¬ n = k1 := fun e => hne (by rw [e])
          refine ⟨_, rfl, _, _, _, _, rfl, rfl, SqT.of h, at0, rfl, _, rfl, ifT rfl ⟨_, rfl, _, _, _, _, rfl, rfl, SqT.of h, at1, _, rfl, _, _, rfl, rfl, _, rfl, ifD (fun hge => ?_) (fun hlt => ?_)⟩⟩
          · have hge : ¬ n < k1 := by omega
            rw [if_neg hge, if_neg hne] at hrun2
            refine ⟨_, rfl, _, _, _, _, rfl, rfl, SqT.of h, at1, _, _, rfl, rfl, small' (by show 2 <= 1000000; decide), fun b9 H9 n9 s9 h9 => ?_⟩
            have e : ((n : Int) - 1) = ((n - 1 : Nat) : Int) := by omega
            have h9 : H9 b9 = some (.tup [.str "place", .int ((n : Int) - 1)]) := h9
            rw [e] at h9
            have hp9 := s9 _ _ hp3.1
            refine ⟨_, rfl, Or.inl ⟨rfl, _, SqL.of hp9⟩, _, rfl, _, _, _, rfl, rfl, hp9, small (by have := hp3.len; omega), fun H8 k8 hp8 => ?_⟩
            exact fin (Keep.of_same s9) hp9 (paired_imp (fun _ _ q => q.same s9) hp3.2) (.place (n := n - 1) h9) hS hrun2 H8 k8 hp8
          · have hlt : n < k1 := by omega
            rw [if_pos hlt] at hrun2
            refine ⟨_, rfl, Or.inl ⟨rfl, _, SqL.of hp3.1⟩, _, rfl, _, _, _, rfl, rfl, hp3.1, small (by have := hp3.len; omega), fun H8 k8 hp8 => ?_⟩
            exact fin (Keep.refl _ _) hp3.1 hp3.2 (.place h) hS hrun2 H8 k8 hp8
      | @form a1 bv b h hb =>
        obtain ⟨x, S', rfl, hrun⟩ := run2_form hrun
        obtain ⟨vs', u, rfl, hu, hv'⟩ := hp3.pop
        refine ⟨_, rfl, _, _, _, _, rfl, rfl, SqT.of h, at0, rfl, _, rfl, ifT rfl ?_⟩
        refine ⟨_, rfl, Or.inl ⟨rfl, _, SqL.of hp3.1⟩, p, vs', u, rfl, rfl, hp3.1, fun H6 k6 hp6 => ⟨small' (by show 2 <= 1000000; decide), fun b9 H9 n9 s9 h9 => ?_⟩⟩
        have hp9 := s9 _ _ hp6
        have k39 := k6.trans (Keep.of_same s9)
        have ln := hp3.len
        rw [List.length_append, List.length_singleton, List.length_cons] at ln
        rw [List.length_cons] at hS
        refine ⟨_, rfl, Or.inl ⟨rfl, _, SqL.of hp9⟩, _, rfl, _, _, _, rfl, rfl, hp9, small (by omega), fun H8 k8 hp8 => ?_⟩
        exact fin k39 hp9 (terms_kp hv' k39 hp3.1) (.form h9 (hu.mono (keep1_tups k39 hp3.1))) (by omega) hrun H8 k8 hp8
      | @call a1 xv yv x y h hx hy =>
        obtain ⟨y, x, S', rfl, hrun⟩ := run2_call hrun
        obtain ⟨vs1, u, rfl, hu, hv1⟩ := hp3.pop
        refine ⟨_, rfl, _, _, _, _, rfl, rfl, SqT.of h, at0, rfl, _, rfl, ifF n_cf ⟨_, rfl, _, _, _, _, rfl, rfl, SqT.of h, at0, rfl, _, rfl, ifT rfl ?_⟩⟩
        refine ⟨_, rfl, Or.inl ⟨rfl, _, SqL.of hp3.1⟩, p, vs1, u, rfl, rfl, hp3.1, fun H6 k6 hp6 => ?_⟩
        have P6 : PileAt H6 p vs1 (x :: S') := ⟨hp6, terms_kp hv1 k6 hp3.1⟩
        obtain ⟨vs', z, rfl, hz, hv'⟩ := P6.pop
        refine ⟨_, rfl, Or.inl ⟨rfl, _, SqL.of hp6⟩, p, vs', z, rfl, rfl, hp6, fun H7 k7 hp7 => ⟨_, rfl, small' (by show 3 <= 1000000; decide), fun b9 H9 n9 s9 h9 => ?_⟩⟩
        have hp9 := s9 _ _ hp7
        have k69 := k7.trans (Keep.of_same s9)
        have k39 := k6.trans k69
        have ln := hp3.len
        rw [List.length_append, List.length_append, List.length_singleton, List.length_singleton, List.length_cons, List.length_cons] at ln
        rw [List.length_cons, List.length_cons] at hS
        refine ⟨_, rfl, Or.inl ⟨rfl, _, SqL.of hp9⟩, _, rfl, _, _, _, rfl, rfl, hp9, small (by omega), fun H8 k8 hp8 => ?_⟩
        exact fin k39 hp9 (terms_kp hv' k69 hp6) (.call h9 (hz.mono (keep1_tups k69 hp6)) (hu.mono (keep1_tups k39 hp3.1))) (by omega) hrun H8 k8 hp8
    · rintro σ H3 ⟨vs, S, x3, x4, x5, x6, rfl, s3, hp3, hl3, hr3, hS, hrun⟩
      rw [List.drop_eq_nil_of_le (by rw [List.length_reverse, lparts_len, hlen]; exact Nat.le_refl _)] at hrun
      cases (Option.some.inj hrun)
      obtain ⟨vs', u, rfl, hu, hv'⟩ := hp3.pop
      cases paired_nil hv'
      exact ⟨_, rfl, _, _, _, _, rfl, rfl, SqL.of hp3.1, at0, k u H3 s3 hu⟩
abbrev s__law_at : Stmt := top 30
theorem sc__law_at : FnScope ["_law_script", "_law_k"] ["_law_script", "_law_k"] (defScope s__law_at) := ⟨rfl, rfl, rfl, by decide +kernel, rfl, by decide +kernel, by decide +kernel⟩
inductive Sp_latI (K : PySem.W.Frag) (vs : List V) (H : Hp) (Q : VK) : Prop where
  | mk (a : _) (ns : List Int) (k : Nat) (c1 : vs = [.ref a, .int (k : Int)]) (c2 : SqL K H a (ns.map V.int)) (c3 : ns.length <= 63) (c4 : ∀ i, Q (.int i) H)
def sp_lat (K : PySem.W.Frag) : Sp := fun vs H Q u3_ => Sp_latI K vs H Q
theorem ok__law_at {f : Addr} {fd : FuncData} (F : Fun K "_law_at" "_law_at" s__law_at f fd) (N_ : NoNames mg) : FnOk P w K mg base CX0 1 f fd ["_law_script", "_law_k"] (sp_lat K) := by
  refine F.ok sc__law_at (fun vs H Q E h => ?_) (fun cdv A outer s H vs Q E hr h => ?_)
  · obtain ⟨a, ns, n, rfl, _⟩ := h
    rfl
  · obtain ⟨a, ns, n, rfl, hS, hl, k⟩ := h
    refine ⟨_, (pss_cons (ps_if (pt_cmpR op_lt (pv 1) (pCB call_len_seq (by rfl) N_.len boot_len (pa_c (pv 0) pa_nil)) (nomark _)) (pss_one (ps_ret (pe_ix ix_list (pv 0) (pv 1) (fun _ _ => rfl)))) pss_nil)
      (pss_one (ps_ret pe_int))), ?_⟩
    show (let V1_ : TS := _; let V2_ : TS := _; tSeq (tIfS _ V2_ _) V1_ _ _ _)
    intro V1_ V2_
    refine ⟨_, rfl, _, rfl, _, _, rfl, Or.inl hS, _, _, rfl, rfl, _, rfl, ifD (fun hlt => ?_) (fun _ => k 0)⟩
    rw [List.length_map] at hlt
    have hlt : n < ns.length := by omega
    exact ⟨_, rfl, _, rfl, _, _, _, _, rfl, rfl, hS, (atI_nat (j := n) (by rw [List.getElem?_map, List.getElem?_eq_getElem hlt]; rfl)), k _⟩
abbrev s__law_is_term : Stmt := top 38
theorem sc__law_is_term : FnScope ["_law_found", "_law_todo", "_law_part"] ["_law_found"] (defScope s__law_is_term) := ⟨rfl, rfl, rfl, by decide +kernel, rfl, by decide +kernel, by decide +kernel⟩
def sumU (its : List Tm) : Nat := (its.map T.size).sum
theorem sumU_snoc (its : List Tm) (q : Tm) : sumU (its ++ [q]) = sumU its + q.size := by
  unfold sumU
  rw [List.map_append, List.sum_append]
  simp
theorem len_sumU : ∀ its : List Tm, its.length <= sumU its
  | [] => Nat.le_refl _
  | q :: r => by
    have := len_sumU r
    have h := q.size_pos
    show r.length + 1 <= q.size + sumU r
    omega
inductive Sp_lis_termI (vs : List V) (H : Hp) (Q : VK) : Prop where
  | mk (v : _) (t : _) (c1 : vs = [v]) (c2 : TermAt H v t) (c3 : t.size <= 100000) (c4 : ∀ H', Same H H' -> Q (.bl true) H')
def sp_lis_term : Sp := fun vs H Q u3_ => Sp_lis_termI vs H Q
inductive InvIsTermI (H : Hp) (v : V) (t : Tm) (d : Addr) (m : Nat) (σ : L2.St) (H' : Hp) : Prop where
  | mk (its : _) (xs : _) (x2 : _) (c1 : σ = [some v, some (.ref d), x2]) (c2 : Same H H') (c3 : H' d = some (.lst xs)) (c4 : Paired (TermAt H') xs its) (c5 : m = sumU its) (c6 : sumU its <= t.size)
def InvIsTerm (H : Hp) (v : V) (t : Tm) (d : Addr) (m : Nat) (σ : L2.St) (H' : Hp) : Prop := InvIsTermI H v t d m σ H'
theorem ok__law_is_term {f : Addr} {fd : FuncData} (F : Fun K "_law_is_term" "_law_is_term" s__law_is_term f fd) (N_ : NoNames mg) (G__law_whole : GF P w K mg base CX0 1 "_law_whole" ["_law_found"] sp_whole) : FnOk P w K mg base CX0 2 f fd ["_law_found"] sp_lis_term := by
  refine F.ok sc__law_is_term (fun vs H Q E h => ?_) (fun cdv A outer s H vs Q E hr h => ?_)
  · obtain ⟨v, t, rfl, _⟩ := h
    rfl
  · obtain ⟨v, t, rfl, ht, hsz, k⟩ := h
    have hu0 := hr.units0
    refine ⟨_, (pss_cons (ps_set (i := 1) sc__law_is_term.nd rfl (Or.inl rfl) (pLst (pa_c (pv 0) pa_nil)))
      (pss_cons (ps_while PassesOwn.never (pt_cmpR (op_neNil hu0) (pv 1) (pLst pa_nil) (nomark _)) (pss_cons (ps_set (i := 2) sc__law_is_term.nd rfl (Or.inl rfl) (pPop (pv 1)))
      (pss_cons (ps_if (PW.pt (pw_or (pt_not (pt_val (pCB call_isi (by rfl) N_.isinstance boot_isinstance (pa_c (pv 2) (pa_c (pe_bltn (v := V.ty "tuple") rfl N_.tuple boot_tuple rfl) pa_nil))))) (pw_or (pt_cmpR op_lt (pCB call_len_seq (by rfl) N_.len boot_len (pa_c (pv 2) pa_nil)) pe_int (nomark _)) (pw_or1 (pt_not (pt_val (pCB call_isi (by rfl) N_.isinstance boot_isinstance (pa_c (pe_ix ix_tup (pv 2) pe_int (fun _ _ => rfl)) (pa_c (pe_bltn (v := V.ty "str") rfl N_.str boot_str rfl) pa_nil))))))))) (pss_one (ps_ret pe_bl)) pss_nil)
      (pss_one (ps_if (PW.pt (pw_and (pt_cmpR op_eq (pe_ix ix_tup (pv 2) pe_int (fun _ _ => rfl)) pe_str (nomark _)) (pw_and1 (pt_cmpR op_eq (pCB call_len_seq (by rfl) N_.len boot_len (pa_c (pv 2) pa_nil)) pe_int (nomark _))))) (pss_one (ps_expr (pApp (pv 1) (pe_ix ix_tup (pv 2) pe_int (fun _ _ => rfl))))) (pss_one (ps_if (PW.pt (pw_and (pt_cmpR op_eq (pe_ix ix_tup (pv 2) pe_int (fun _ _ => rfl)) pe_str (nomark _)) (pw_and1 (pt_cmpR op_eq (pCB call_len_seq (by rfl) N_.len boot_len (pa_c (pv 2) pa_nil)) pe_int (nomark _))))) (pss_cons (ps_expr (pApp (pv 1) (pe_ix ix_tup (pv 2) pe_int (fun _ _ => rfl))))
      (pss_one (ps_expr (pApp (pv 1) (pe_ix ix_tup (pv 2) pe_int (fun _ _ => rfl)))))) (pss_one (ps_if (PW.pt (pw_and (pt_cmpR op_eq (pe_ix ix_tup (pv 2) pe_int (fun _ _ => rfl)) pe_str (nomark _)) (pw_and1 (pt_cmpR op_eq (pCB call_len_seq (by rfl) N_.len boot_len (pa_c (pv 2) pa_nil)) pe_int (nomark _))))) (pss_one (ps_if (pt_not (pt_val (pe_gf G__law_whole (hr.mono (by decide)) rfl pass0 (pa_c (pe_ix ix_tup (pv 2) pe_int (fun _ _ => rfl)) pa_nil)))) (pss_one (ps_ret pe_bl)) pss_nil)) (pss_one (ps_if (PW.pt (pw_or (pt_cmpR op_ne (pe_ix ix_tup (pv 2) pe_int (fun _ _ => rfl)) pe_str (nomark _)) (pw_or (pt_cmpR op_ne (pCB call_len_seq (by rfl) N_.len boot_len (pa_c (pv 2) pa_nil)) pe_int (nomark _)) (pw_or1 (pt_not (pt_val (pCB call_isi (by rfl) N_.isinstance boot_isinstance (pa_c (pe_ix ix_tup (pv 2) pe_int (fun _ _ => rfl)) (pa_c (pe_bltn (v := V.ty "str") rfl N_.str boot_str rfl) pa_nil))))))))) (pss_one (ps_ret pe_bl)) pss_nil)))))))))))
      (pss_one (ps_ret pe_bl)))), ?_⟩
    show (let V1_ : TS := _; let V2_ : TS := _; let V3_ : TS := _; let V4_ : TS := tSeq _ V3_; let V5_ : TS := _; let V6_ : TS := tIfS _ V5_ _; let V7_ : TS := _; let V8_ : TS := tIfS _ V7_ _; let V9_ : TS := tIfS _ V6_ V8_; let V10_ : TS := tIfS _ V4_ V9_; let V11_ : TS := tIfS _ V2_ V10_; let V12_ : TS := _; let V13_ : TS := tSeq (tIfS _ V12_ _) V11_; let V14_ : TS := tSeq _ V13_; let V15_ : TS := tSeq (tWhile _ V14_) V1_; tSeq _ V15_ _ _ _)
    intro V1_ V2_ V3_ V4_ V5_ V6_ V7_ V8_ V9_ V10_ V11_ V12_ V13_ V14_ V15_
    refine ⟨_, rfl, small' (by simp), fun d H4 nd s4 hd4 => ?_⟩
    refine ⟨InvIsTerm H v t d, ⟨sumU [t], [t], [v], none, rfl, s4, hd4, .cons (ht.same s4) .nil, rfl, by show t.size + 0 <= _; omega⟩, ?_⟩
    rintro m σ H5 ⟨its, xs, x2, rfl, s5, hd5, hit, rfl, hsum⟩
    refine ⟨_, rfl, small' (by simp), fun e0 H5' ne0 s5' he0 => ⟨_, _, _, rfl, rfl, SqL.of (s5' _ _ hd5), SqL.of he0, _, rfl, ?_⟩⟩
    have hd5' := s5' _ _ hd5
    have hit := paired_imp (fun a b h => TermAt.same h s5') hit
    have s5 := s5.trans s5'
    clear hd5
    by_cases hnil : its = []
    · subst hnil
      cases paired_nil hit
      exact iteF (k H5' s5)
    · obtain ⟨its', t1, rfl⟩ := snoc_of hnil
      obtain ⟨xs', x, rfl, hit', htv⟩ := paired_snoc_inv hit
      rw [show (if true = true then !(xs' ++ [x]).isEmpty else (xs' ++ [x]).isEmpty) = true by simp]
      refine iteT ⟨fun σ' H' => ∃ m', m' < sumU (its' ++ [t1]) /\ InvIsTerm H v t d m' σ' H', fun _ _ h => h, ?_⟩
      refine ⟨_, rfl, Or.inl ⟨rfl, _, SqL.of hd5'⟩, d, xs', x, rfl, rfl, hd5', fun H6 k6 hd6 => ?_⟩
      have tu6 := keep1_tups k6 hd5'
      have htv6 := htv.mono tu6
      have it6 := terms_kp hit' k6 hd5'
      have s6 : Same H H6 := same_keep s5 k6 fun x hx => by rw [List.mem_singleton.mp hx]; exact nd
      rw [sumU_snoc] at hsum
      rw [sumU_snoc]
      have hxl : xs'.length <= t.size := by
        rw [Paired.length it6]
        have := len_sumU its'
        omega
      cases htv6 with
      | name h =>
        refine ⟨_, rfl, _, _, _, _, rfl, .tup h, kit_tt K, _, rfl, iteF ⟨_, rfl, _, _, rfl, Or.inr (SqT.of h), _, _, rfl, rfl, _, rfl, ifF (show ¬ (2 : Int) < 2 by decide) ⟨_, rfl, _, _, _, _, rfl, rfl, SqT.of h, at0, _, _, _, _, rfl, .str _, kit_ss K, _, rfl, iteF ?_⟩⟩⟩
        refine ⟨_, rfl, _, _, _, _, rfl, rfl, SqT.of h, at0, rfl, _, rfl, ifF n_nf (iteF ⟨_, rfl, _, _, _, _, rfl, rfl, SqT.of h, at0, rfl, _, rfl, ifF n_nc (iteF ⟨_, rfl, _, _, _, _, rfl, rfl, SqT.of h, at0, rfl, _, rfl, ifF n_np (iteF ?_)⟩)⟩)⟩
        refine ⟨_, rfl, _, _, _, _, rfl, rfl, SqT.of h, at0, rfl, _, rfl, ifNF rfl ⟨_, rfl, _, _, rfl, Or.inr (SqT.of h), rfl, _, rfl, ifNF rfl ⟨_, rfl, _, _, _, _, rfl, rfl, SqT.of h, at1, _, _, _, _, rfl, .str _, kit_ss K, _, rfl, iteF ?_⟩⟩⟩
        exact ⟨_, by show sumU its' < sumU its' + 1; omega, its', xs', _, rfl, s6, hd6, it6, rfl, by omega⟩
      | @place a1 n h =>
        refine ⟨_, rfl, _, _, _, _, rfl, .tup h, kit_tt K, _, rfl, iteF ⟨_, rfl, _, _, rfl, Or.inr (SqT.of h), _, _, rfl, rfl, _, rfl, ifF (show ¬ (2 : Int) < 2 by decide) ⟨_, rfl, _, _, _, _, rfl, rfl, SqT.of h, at0, _, _, _, _, rfl, .str _, kit_ss K, _, rfl, iteF ?_⟩⟩⟩
        refine ⟨_, rfl, _, _, _, _, rfl, rfl, SqT.of h, at0, rfl, _, rfl, ifF n_pf (iteF ⟨_, rfl, _, _, _, _, rfl, rfl, SqT.of h, at0, rfl, _, rfl, ifF n_pc (iteF ⟨_, rfl, _, _, _, _, rfl, rfl, SqT.of h, at0, rfl, _, rfl, ifT rfl ⟨_, rfl, _, _, rfl, Or.inr (SqT.of h), rfl, _, rfl, ifT rfl ?_⟩⟩)⟩)⟩
        refine ⟨_, rfl, _, _, _, _, rfl, rfl, SqT.of h, at1, n, rfl, _, rfl, iteF ?_⟩
        exact ⟨_, by show sumU its' < sumU its' + 1; omega, its', xs', _, rfl, s6, hd6, it6, rfl, by omega⟩
      | @form a1 bv b h hb =>
        have hbs : T.size (.form b : Tm) = b.size + 1 := rfl
        refine ⟨_, rfl, _, _, _, _, rfl, .tup h, kit_tt K, _, rfl, iteF ⟨_, rfl, _, _, rfl, Or.inr (SqT.of h), _, _, rfl, rfl, _, rfl, ifF (show ¬ (2 : Int) < 2 by decide) ⟨_, rfl, _, _, _, _, rfl, rfl, SqT.of h, at0, _, _, _, _, rfl, .str _, kit_ss K, _, rfl, iteF ?_⟩⟩⟩
        refine ⟨_, rfl, _, _, _, _, rfl, rfl, SqT.of h, at0, rfl, _, rfl, ifT rfl ⟨_, rfl, _, _, rfl, Or.inr (SqT.of h), rfl, _, rfl, ifT rfl ?_⟩⟩
        refine ⟨_, rfl, Or.inl ⟨rfl, _, SqL.of hd6⟩, _, rfl, _, _, _, _, rfl, rfl, SqT.of h, at1, _, _, _, rfl, rfl, hd6, small (by omega), fun H8 k8 hd8 => ?_⟩
        refine ⟨_, ?_, its' ++ [b], _, _, rfl, same_keep s6 k8 (fun x hx => by rw [List.mem_singleton.mp hx]; exact nd), hd8, paired_snoc (hb.mono (keep1_tups k8 hd6)) (terms_kp it6 k8 hd6), rfl, ?_⟩
        · rw [sumU_snoc]; show sumU its' + b.size < sumU its' + (b.size + 1); omega
        · rw [sumU_snoc]; omega
      | @call a1 xv yv x y h hx hy =>
        have hcs : T.size (.call x y : Tm) = x.size + y.size + 1 := rfl
        refine ⟨_, rfl, _, _, _, _, rfl, .tup h, kit_tt K, _, rfl, iteF ⟨_, rfl, _, _, rfl, Or.inr (SqT.of h), _, _, rfl, rfl, _, rfl, ifF (show ¬ (3 : Int) < 2 by decide) ⟨_, rfl, _, _, _, _, rfl, rfl, SqT.of h, at0, _, _, _, _, rfl, .str _, kit_ss K, _, rfl, iteF ?_⟩⟩⟩
        refine ⟨_, rfl, _, _, _, _, rfl, rfl, SqT.of h, at0, rfl, _, rfl, ifF n_cf (iteF ⟨_, rfl, _, _, _, _, rfl, rfl, SqT.of h, at0, rfl, _, rfl, ifT rfl ⟨_, rfl, _, _, rfl, Or.inr (SqT.of h), rfl, _, rfl, ifT rfl ?_⟩⟩)⟩
        refine ⟨_, rfl, Or.inl ⟨rfl, _, SqL.of hd6⟩, _, rfl, _, _, _, _, rfl, rfl, SqT.of h, at1, _, _, _, rfl, rfl, hd6, small (by omega), fun H8 k8 hd8 => ?_⟩
        have tu8 := keep1_tups k8 hd6
        have h8 := tu8 _ _ h
        refine ⟨_, rfl, Or.inl ⟨rfl, _, SqL.of hd8⟩, _, rfl, _, _, _, _, rfl, rfl, SqT.of h8, at2, _, _, _, rfl, rfl, hd8, small (by rw [List.length_append, List.length_singleton]; omega), fun H9 k9 hd9 => ?_⟩
        have tu9 := keep1_tups k9 hd8
        refine ⟨_, ?_, (its' ++ [x]) ++ [y], _, _, rfl, same_keep s6 (k8.trans k9) (fun x hx => by rw [List.mem_singleton.mp hx]; exact nd), hd9, paired_snoc ((hy.mono tu8).mono tu9) (paired_snoc ((hx.mono tu8).mono tu9) (terms_kp (terms_kp it6 k8 hd6) k9 hd8)), rfl, ?_⟩
        · rw [sumU_snoc, sumU_snoc]; show sumU its' + x.size + y.size < sumU its' + (x.size + y.size + 1); omega
        · rw [sumU_snoc, sumU_snoc]; omega
end
end NC
namespace NC
open PySem PySem.Spec PyProof.Rows L2
def T.leaf : Tm -> Bool
  | .name _ => true
  | .place _ => true
  | _ => false
inductive Sp_leafI (TL : Tabs) (A : List Addr) (J : Hp -> Prop) (g : Tm -> Nat -> Tm) (vs : List V) (H : Hp) (Q : VK) : Prop where
  | mk (v : _) (t : _) (k : Nat) (c1 : vs = [v, .int (k : Int)]) (c2 : T.leaf t = true) (c3 : k <= 100000) (c4 : TermAt H v t) (c5 : TO TL H) (c6 : J H) (c7 : ∀ v' H', KA A H H' -> TO TL H' -> J H' -> TermAt H' v' (g t k) -> Q v' H')
def sp_leaf (TL : Tabs) (A : List Addr) (J : Hp -> Prop) (g : Tm -> Nat -> Tm) : Sp := fun vs H Q u3_ => Sp_leafI TL A J g vs H Q
inductive Sp_overI (Jc : Hp -> Prop) (vs : List V) (H : Hp) (Q : VK) : Prop where
  | mk (v : _) (b : _) (k : Nat) (c1 : vs = [v, .int (k : Int)]) (c2 : TermAt H v b) (c3 : Jc H) (c4 : ∀ v' H', Same H H' -> TermAt H' v' (.form b) -> Q v' H')
def sp_over (Jc : Hp -> Prop) : Sp := fun vs H Q u3_ => Sp_overI Jc vs H Q
inductive Sp_builtI (TL : Tabs) (kf : Nat) (P : Program) (w : World) (K : PySem.W.Frag) (mg : Str -> Option Value) (base : Heap) (vs : List V) (H : Hp) (Q : VK) : Prop where
  | mk (l : _) (rs : _) (t : Tm) (f1 : _) (f2 : _) (ps1 : _) (ps2 : _) (A : _) (J : _) (Jc : _) (g : _) (c1 : vs = [.ref l, .ref f1, .ref f2]) (c2 : H l = some (.lst rs)) (c3 : Paired (PairAt H) rs (t.parts 0)) (c4 : t.size <= 100000) (c5 : FV P w K mg base CX0 kf f1 ps1 (sp_leaf TL A J g)) (c6 : FV P w K mg base CX0 kf f2 ps2 (sp_over Jc)) (c7 : (∀ H H', NLX H H' -> J H -> J H')) (c8 : (∀ H, J H -> OwnD A H)) (c9 : (∀ H', KA A H H' -> Jc H')) (c10 : TO TL H) (c11 : J H) (c12 : ∀ v' H', KA A H H' -> TO TL H' -> J H' -> TermAt H' v' (t.rebuild g 0) -> Q v' H')
def sp_built (TL : Tabs) (kf : Nat) (P : Program) (w : World) (K : PySem.W.Frag) (mg : Str -> Option Value) (base : Heap) : Sp := fun vs H Q u3_ => Sp_builtI TL kf P w K mg base vs H Q
inductive Sp_rebuiltI (TL : Tabs) (kf : Nat) (P : Program) (w : World) (K : PySem.W.Frag) (mg : Str -> Option Value) (base : Heap) (vs : List V) (H : Hp) (Q : VK) : Prop where
  | mk (v : _) (t : _) (f : _) (ps : _) (A : _) (J : _) (g : _) (c1 : vs = [v, .ref f]) (c2 : TermAt H v t) (c3 : t.size <= 100000) (c4 : FV P w K mg base CX0 kf f ps (sp_leaf TL A J g)) (c5 : (∀ H H', NLX H H' -> J H -> J H')) (c6 : (∀ H, J H -> OwnD A H)) (c7 : TO TL H) (c8 : J H) (c9 : ∀ v' H', KA A H H' -> TO TL H' -> J H' -> TermAt H' v' (t.rebuild g 0) -> Q v' H')
def sp_rebuilt (TL : Tabs) (kf : Nat) (P : Program) (w : World) (K : PySem.W.Frag) (mg : Str -> Option Value) (base : Heap) : Sp := fun vs H Q u3_ => Sp_rebuiltI TL kf P w K mg base vs H Q
section
variable {P : Program} {w : World} {K : PySem.W.Frag} {mg : Str -> Option Value} {base : Heap}
seal L2.PE L2.PA L2.PT L2.PS L2.PSs L2.PW L2.PG L2.PGs L2.PI L2.PO L2.OpR L2.UnR L2.CallR L2.TruR L2.IxR L2.SlR
abbrev s_built : Stmt := top 3
theorem sc_built : FnScope ["found", "leaf", "over", "ready", "part", "around", "one"] ["found", "leaf", "over"] (defScope s_built) := ⟨rfl, rfl, rfl, by decide +kernel, rfl, by decide +kernel, by decide +kernel⟩
inductive InvRebI (TL : Tabs) (A : List Addr) (g : Tm -> Nat -> Tm) (J : Hp -> Prop) (H : Hp) (u1 u2 : V) (t : Tm) (p l : Addr) (rs : List V) (i : Nat) (σ : L2.St) (H' : Hp) : Prop where
  | mk (vs : _) (S : _) (x3 : _) (x4 : _) (x5 : _) (c1 : σ = [some (.ref l), some u1, some u2, some (.ref p), x3, x4, x5]) (c2 : KA A H H') (c3 : TO TL H') (c4 : J H') (c5 : PileAt H' p vs S) (c6 : H' l = some (.lst rs)) (c7 : Paired (PairAt H') rs (t.parts 0)) (c8 : S.length <= i) (c9 : run1 g ((t.parts 0).reverse.drop i) S = some [t.rebuild g 0])
def InvReb (TL : Tabs) (A : List Addr) (g : Tm -> Nat -> Tm) (J : Hp -> Prop) (H : Hp) (u1 u2 : V) (t : Tm) (p l : Addr) (rs : List V) (i : Nat) (σ : L2.St) (H' : Hp) : Prop := InvRebI TL A g J H u1 u2 t p l rs i σ H'
theorem ok_built {f : Addr} {fd : FuncData} {kf : Nat} {TL : Tabs} (F : Fun K "built" "built" s_built f fd) (N_ : NoNames mg) : FnOk P w K mg base CX0 (kf + 1) f fd ["found", "leaf", "over"] (sp_built TL kf P w K mg base) := by
  refine F.ok sc_built (fun vs H Q E h => ?_) (fun cdv A outer s H vs Q E hr h => ?_)
  · obtain ⟨l, rs, t, f1, f2, ps1, ps2, AA, J, Jc, g, rfl, _⟩ := h
    rfl
  · obtain ⟨l, rs, t, f1, f2, ps1, ps2, AA, J, Jc, g, rfl, hl0, hr0, hsz, hfv1, hfv2, hJ, hA, hJc, to0, hJ0, k⟩ := h
    have hrF : Room kf (A.deeper (envOfC "built" (defScope s_built) s.heap.objs.size _ cdv)) := hr
    refine ⟨_, (pss_cons (ps_set (i := 3) sc_built.nd rfl (Or.inl rfl) (pLst pa_nil))
      (pss_cons (ps_for PassesOwn.never rfl (pi_rev rfl N_.reversed (pv 0)) (pg_tup rfl (pgs_cons (pg_name (i := 4) sc_built.nd rfl (Or.inl rfl)) (pgs_cons (pg_name (i := 5) sc_built.nd rfl (Or.inl rfl)) pgs_nil))) (pss_one (ps_if (pt_cmpR op_eq (pe_ix ix_tup (pv 4) pe_int (fun _ _ => rfl)) pe_str (nomark _)) (pss_one (ps_expr (pApp (pv 3) (pe_fvE 2 hrF pass0 (pa_c (pPop (pv 3)) (pa_c (pv 5) pa_nil)))))) (pss_one (ps_if (pt_cmpR op_eq (pe_ix ix_tup (pv 4) pe_int (fun _ _ => rfl)) pe_str (nomark _)) (pss_cons (ps_set (i := 6) sc_built.nd rfl (Or.inl rfl) (pPop (pv 3)))
      (pss_one (ps_expr (pApp (pv 3) (pTup (pa_c pe_str (pa_c (pv 6) (pa_c (pPop (pv 3)) pa_nil)))))))) (pss_one (ps_expr (pApp (pv 3) (pe_fvE 1 hrF pass0 (pa_c (pv 4) (pa_c (pv 5) pa_nil)))))))))))
      (pss_one (ps_ret (pPop (pv 3)))))), ?_⟩
    show (let V1_ : TS := _; let V2_ : TS := _; let V3_ : TS := _; let V4_ : TS := tSeq _ V3_; let V5_ : TS := _; let V6_ : TS := tIfS _ V4_ V5_; let V7_ : TS := tIfS _ V2_ V6_; let V8_ : TS := tSeq (tFor _ _ V7_) V1_; tSeq _ V8_ _ _ _)
    intro V1_ V2_ V3_ V4_ V5_ V6_ V7_ V8_
    refine ⟨small' (by simp), fun p H1 np s1 hp1 => ?_⟩
    have hlen : rs.length = t.size := by rw [Paired.length hr0, parts_len]
    have n_l : p ≠ l := fun z => by rw [z, hl0] at np; cases np
    refine ⟨_, rfl, l, rs, rfl, SqL.of (s1 _ _ hl0), for_rev (K := K) (a := l) (xs := rs) (InvReb TL AA g J H (.ref f1) (.ref f2) t p l rs) ?_ ?_ ?_ ?_⟩
    · exact ⟨[], [], none, none, none, rfl, .of_same s1, to0.same s1, hJ _ _ (.of_same s1) hJ0, ⟨hp1, .nil⟩, s1 _ _ hl0, paired_imp (fun _ _ z => PairAt.mono z (.of_same s1)) hr0, Nat.le_refl _, run1_all t⟩
    · rintro i σ H' _ ⟨_, _, _, _, _, _, _, _, _, _, h, _⟩
      exact SqL.of h
    · rintro i x σ H3 hi ⟨vs, S, x3, x4, x5, rfl, s3, to3, j3, hp3, hl3, hr3, hS, hrun⟩
      obtain ⟨⟨t1, k1⟩, hi2, a, tv, rfl, ha, htv⟩ := paired_get (paired_rev hr3) hi
      have htv : TermAt H3 tv t1 := htv
      have hlt : i < t.size := by
        have := (List.getElem?_eq_some_iff.mp hi).1
        rw [List.length_reverse] at this
        omega
      have hd : (t.parts 0).reverse.drop i = (t1, k1) :: (t.parts 0).reverse.drop (i + 1) := by
        rw [List.drop_eq_getElem_cons (List.getElem?_eq_some_iff.mp hi2).1, (List.getElem?_eq_some_iff.mp hi2).2]
      rw [hd] at hrun
      refine ⟨a, _, rfl, SqT.of ha, rfl, _, _, rfl, _, _, rfl, rfl, ?_⟩
      -- ready.append(u), behind changes that leave lists but the pile, and tuples
      have fin : ∀ {H7 : Hp} {vs7 : List V} {S7 : List Tm} {u : V} {y : Tm} {x5 : Option V}, KA AA H H7 -> TO TL H7 -> Tups H3 H7 -> H7 l = some (.lst rs) -> J H7 -> H7 p = some (.lst vs7) -> Paired (TermAt H7) vs7 S7.reverse -> TermAt H7 u y -> S7.length <= i -> run1 g ((t.parts 0).reverse.drop (i + 1)) (y :: S7) = some [t.rebuild g 0] ->
          ∀ H8, Keep [p] H7 H8 -> H8 p = some (.lst (vs7 ++ [u])) -> InvReb TL AA g J H (.ref f1) (.ref f2) t p l rs (i + 1) [some (.ref l), some (.ref f1), some (.ref f2), some (.ref p), some tv, some (.int (k1 : Int)), x5] H8 := by
        intro H7 vs7 S7 u y x5 lt7 to7 tu7 hl7 j7 hp7 q7 hu hS7 hrun7 H8 k8 hp8
        have tu8 := keep1_tups k8 hp7
        refine ⟨_, y :: S7, _, _, _, rfl, lt7.keep k8 np, to7.nl (.of_keep k8 hp7), hJ _ _ (.of_keep k8 hp7) j7, ⟨hp8, ?_⟩, k8.at hl7 n_l.symm, paired_imp (fun _ _ z => (PairAt.mono z tu7).mono tu8) hr3, by rw [List.length_cons]; omega, hrun7⟩
        rw [List.reverse_cons]
        exact paired_snoc (hu.mono tu8) (terms_kp q7 k8 hp7)
      have hk1b : k1 <= 100000 := by
        have := parts_le t 0 _ (List.mem_reverse.mp (List.mem_of_getElem? hi2))
        have e : (t1, k1).2 = k1 := rfl
        rw [e] at this
        omega
      cases htv with
      | @name a1 w1 h =>
        refine ⟨_, rfl, _, _, _, _, rfl, rfl, SqT.of h, at0, rfl, _, rfl, ifF n_nf ⟨_, rfl, _, _, _, _, rfl, rfl, SqT.of h, at0, rfl, _, rfl, ifF n_nc ?_⟩⟩
        refine ⟨_, rfl, Or.inl ⟨rfl, _, SqL.of hp3.1⟩, f1, _, _, rfl, hfv1, _, rfl, _, rfl, _, .name w1, k1, rfl, rfl, hk1b, .name h, to3, j3, fun v' H4 lt4 to4 j4 hv' => ?_⟩
        have tu4 := lt4.tups (hA _ j3)
        have hp4 := lt4.lst (hA _ j3) hp3.1
        refine ⟨_, _, _, rfl, rfl, hp4, small (by have := hp3.len; omega), fun H8 k8 hp8 => ?_⟩
        exact fin (s3.trans lt4) to4 tu4 (lt4.lst (hA _ j3) hl3) j4 hp4 (paired_imp (fun _ _ z => z.mono tu4) hp3.2) hv' hS hrun H8 k8 hp8
      | @place a1 n1 h =>
        refine ⟨_, rfl, _, _, _, _, rfl, rfl, SqT.of h, at0, rfl, _, rfl, ifF n_pf ⟨_, rfl, _, _, _, _, rfl, rfl, SqT.of h, at0, rfl, _, rfl, ifF n_pc ?_⟩⟩
        refine ⟨_, rfl, Or.inl ⟨rfl, _, SqL.of hp3.1⟩, f1, _, _, rfl, hfv1, _, rfl, _, rfl, _, .place n1, k1, rfl, rfl, hk1b, .place h, to3, j3, fun v' H4 lt4 to4 j4 hv' => ?_⟩
        have tu4 := lt4.tups (hA _ j3)
        have hp4 := lt4.lst (hA _ j3) hp3.1
        refine ⟨_, _, _, rfl, rfl, hp4, small (by have := hp3.len; omega), fun H8 k8 hp8 => ?_⟩
        exact fin (s3.trans lt4) to4 tu4 (lt4.lst (hA _ j3) hl3) j4 hp4 (paired_imp (fun _ _ z => z.mono tu4) hp3.2) hv' hS hrun H8 k8 hp8
      | @form a1 bv b h hb =>
        obtain ⟨x, S', rfl, hrun⟩ := run1_form hrun
        obtain ⟨vs', u, rfl, hu, hv'⟩ := hp3.pop
        have ln := hp3.len
        rw [List.length_append, List.length_singleton, List.length_cons] at ln
        rw [List.length_cons] at hS
        refine ⟨_, rfl, _, _, _, _, rfl, rfl, SqT.of h, at0, rfl, _, rfl, ifT rfl ?_⟩
        refine ⟨_, rfl, Or.inl ⟨rfl, _, SqL.of hp3.1⟩, f2, _, _, rfl, hfv2, _, rfl, Or.inl ⟨rfl, _, SqL.of hp3.1⟩, p, vs', u, rfl, rfl, hp3.1, fun H6 k6 hp6 => ⟨_, rfl, u, x, k1, rfl, hu.mono (keep1_tups k6 hp3.1), hJc _ (s3.keep k6 np), fun v' H9 s9 h9 => ?_⟩⟩
        have hp9 := s9 _ _ hp6
        have k39 := k6.trans (Keep.of_same s9)
        have tu39 := keep1_tups k39 hp3.1
        refine ⟨_, _, _, rfl, rfl, hp9, small (by omega), fun H8 k8 hp8 => ?_⟩
        exact fin (s3.keep k39 np) (to3.nl (.of_keep k39 hp3.1)) tu39 (k39.at hl3 n_l.symm) (hJ _ _ (.of_keep k39 hp3.1) j3) hp9 (terms_kp hv' k39 hp3.1) h9 (by omega) hrun H8 k8 hp8
      | @call a1 xv yv x y h hx hy =>
        obtain ⟨x, y, S', rfl, hrun⟩ := run1_call hrun
        obtain ⟨vs1, u, rfl, hu, hv1⟩ := hp3.pop
        have ln := hp3.len
        refine ⟨_, rfl, _, _, _, _, rfl, rfl, SqT.of h, at0, rfl, _, rfl, ifF n_cf ⟨_, rfl, _, _, _, _, rfl, rfl, SqT.of h, at0, rfl, _, rfl, ifT rfl ?_⟩⟩
        refine ⟨_, rfl, Or.inl ⟨rfl, _, SqL.of hp3.1⟩, p, vs1, u, rfl, rfl, hp3.1, fun H6 k6 hp6 => ?_⟩
        have P6 : PileAt H6 p vs1 (y :: S') := ⟨hp6, terms_kp hv1 k6 hp3.1⟩
        obtain ⟨vs', z, rfl, hz, hv'⟩ := P6.pop
        rw [List.length_append, List.length_append, List.length_singleton, List.length_singleton, List.length_cons, List.length_cons] at ln
        rw [List.length_cons, List.length_cons] at hS
        refine ⟨_, rfl, Or.inl ⟨rfl, _, SqL.of hp6⟩, _, rfl, _, rfl, Or.inl ⟨rfl, _, SqL.of hp6⟩, p, vs', z, rfl, rfl, hp6, fun H7 k7 hp7 => ⟨small' (by show 3 <= 1000000; decide), fun b9 H9 n9 s9 h9 => ?_⟩⟩
        have hp9 := s9 _ _ hp7
        have k69 := k7.trans (Keep.of_same s9)
        have k39 := k6.trans k69
        have tu39 := keep1_tups k39 hp3.1
        refine ⟨_, _, _, rfl, rfl, hp9, small (by omega), fun H8 k8 hp8 => ?_⟩
        exact fin (s3.keep k39 np) (to3.nl (.of_keep k39 hp3.1)) tu39 (k39.at hl3 n_l.symm) (hJ _ _ (.of_keep k39 hp3.1) j3) hp9 (terms_kp hv' k69 hp6) (.call h9 (hu.mono tu39) (hz.mono (keep1_tups k69 hp6))) (by omega) hrun H8 k8 hp8
    · rintro σ H3 ⟨vs, S, x3, x4, x5, rfl, s3, to3, j3, hp3, hl3, hr3, hS, hrun⟩
      rw [List.drop_eq_nil_of_le (by rw [List.length_reverse, parts_len, hlen]; exact Nat.le_refl _)] at hrun
      cases (Option.some.inj hrun)
      obtain ⟨vs', u, rfl, hu, hv'⟩ := hp3.pop
      cases paired_nil hv'
      refine ⟨_, rfl, Or.inl ⟨rfl, _, SqL.of hp3.1⟩, p, [], u, rfl, rfl, hp3.1, fun H6 k6 hp6 => ?_⟩
      exact k u H6 (s3.keep k6 np) (to3.nl (.of_keep k6 hp3.1)) (hJ _ _ (.of_keep k6 hp3.1) j3) (hu.mono (keep1_tups k6 hp3.1))
abbrev s_rebuilt : Stmt := top 11
theorem sc_rebuilt : FnScope ["term", "change"] ["term", "change"] (defScope s_rebuilt) := ⟨rfl, rfl, rfl, by decide +kernel, rfl, by decide +kernel, by decide +kernel⟩
abbrev l_rebuilt_0 : Expr := retArg s_rebuilt 0 2
def q_rebuilt_0 : Str := ("rebuilt" : Str) ++ ".<locals>." ++ "<lambda>"
theorem sl_rebuilt_0 : CloScope ["body", "forms"] [] (lamScope l_rebuilt_0) := ⟨rfl, rfl, rfl, by decide +kernel, by decide +kernel, by decide +kernel, by decide +kernel, by decide +kernel⟩
theorem ok_over {f c : Addr} {pm ctv : Value} {kf : Nat} (ho : base.get? f = some (PySem.W.kla_obj "<lambda>" q_rebuilt_0 (lamArgs l_rebuilt_0) (lamBody l_rebuilt_0) (lamScope l_rebuilt_0) [] pm c ctv)) :
    FV P w K mg base CX0 (kf + 1) f ["body", "forms"] (sp_over fun H => H c = some (CodeX c q_rebuilt_0)) := by
  refine ⟨_, _, _, _, fn_lamT (k := kf) (CX := CX0) (fvs := []) (fs := []) ho sl_rebuilt_0 .nil ?_ ?_ ?_ ?_ ?_, ho, ?_⟩
  · intro x c' h; cases h
  · intro x y c' h1 h2; cases h1
  · intro vs H Q E h
    obtain ⟨v, b, k, rfl, _⟩ := h
    rfl
  · intro vs H Q E h
    obtain ⟨v, b, k, rfl, _, j, _⟩ := h
    exact j
  · intro A outer s H vs Q E hr h
    obtain ⟨v, b, n, rfl, ht, hj, k⟩ := h
    exact ⟨_, (pTup (pa_c pe_str (pa_c (pv 0) pa_nil))), _, rfl, small' (by show 2 <= 1000000; decide), fun b9 H9 n9 s9 h9 => k _ _ s9 (.form h9 (ht.same s9))⟩
  · exact .all fun us hl => match us, hl with | [_, _], _ => rfl
theorem ok_rebuilt {f c0 T0 : Addr} {fd : FuncData} {TL : Tabs} {kf : Nat} (h3 : 3 <= kf + 2) (F : FunC K "rebuilt" "rebuilt" s_rebuilt f fd c0) (hC : PySem.W.codeHdIn K c0 T0 = true) (BB : BltAt base mg) (dis : TDis TL) (hT : (T0, lamPos l_rebuilt_0, q_rebuilt_0) ∈ TL)
    (G_parts_of : GF P w K mg base CX0 3 "parts_of" ["term"] (sp_parts TL)) (G_built : GB P w K mg base CX0 (kf + 2) "built" ["found", "leaf", "over"] (sp_built TL (kf + 1) P w K mg)) : FnOk P w K mg base CX0 (kf + 3) f fd ["term", "change"] (sp_rebuilt TL (kf + 1) P w K mg base) := by
  refine F.ok sc_rebuilt (fun vs H Q E h => ?_) (fun A outer s H vs Q E hr h => ?_)
  · obtain ⟨v, t, f, ps, AA, J, g, rfl, _⟩ := h
    rfl
  · obtain ⟨v, t, f1, ps, AA, J, g, rfl, ht, hsz, hfv, hJ, hA, to, hJ0, k⟩ := h
    refine ⟨_, (pss_one (ps_ret (pe_ex (E := E0) G_built (hr.mono (Nat.le_refl _)) rfl (fun _ _ _ _ _ _ _ _ h => h.elim) (pa_c (pe_gf G_parts_of (hr.mono h3) rfl pass0 (pa_c (pv 0) pa_nil)) (pa_c (pv 1) (pa_c (pe_lam (params := lamArgs l_rebuilt_0) (body := lamBody l_rebuilt_0) (scope := lamScope l_rebuilt_0) (pos := lamPos l_rebuilt_0) (qual := q_rebuilt_0) (clos := []) rfl hC BB rfl rfl) pa_nil)))))), ?_⟩
    refine ⟨_, rfl, v, t, rfl, ht, hsz, to, fun l rs H1 st1 _ nl hl1 hr1 => ⟨_, rfl, st1.to _ hT, fun f c H2 nf sx tab2 hc2 hf2 oth => ⟨[f], fun b hb => ?_, fun base' lg => ?_⟩⟩⟩
    · rw [List.mem_singleton.mp hb]
      exact goes_lam hf2
    · obtain ⟨pm, ctv, ho⟩ := lg.ext f (by simp) _ hf2
      have to2 := st1.to.made dis hT sx tab2 oth
      have ncf : c ∉ [f] := fun z => lg.nocode c z _ hc2
      have nfD : ∀ b ∈ [f], H1 b = none := fun b z => by rw [List.mem_singleton.mp z]; exact nf
      have tu2 : Tups H1 (delH H2 [f]) := fun b xs e => tups_del lg.only _ _ (sx.tups _ _ e)
      have hl2 : delH H2 [f] l = some (.lst rs) := by
        rw [delH_ne fun z => by rw [nfD l z] at hl1; cases hl1]
        exact sx.lst hl1
      refine ⟨l, rs, t, f1, f, ps, _, AA, J, fun H => H c = some (CodeX c q_rebuilt_0), g, rfl, hl2, paired_imp (fun _ _ z => PairAt.mono z tu2) hr1, hsz, hfv.larger lg.lg, ok_over ho, hJ, hA, fun H' ka => ?_, to2.del lg.only lg.nocode, hJ _ _ (nlx_del st1.sx sx nfD) hJ0, fun v' H' ka to' j' hv' gone => ?_⟩
      · have e : delH H2 [f] c = some (CodeX c q_rebuilt_0) := by rw [delH_ne ncf]; exact hc2
        refine ka c _ (fun z => ?_) (fun _ z => by cases z) e
        obtain ⟨kvs, q⟩ := hA _ (hJ _ _ (nlx_del st1.sx sx nfD) hJ0) c z
        rw [e] at q; cases q
      · refine k v' _ (.trans (.of_sx (st1.sx.trans sx)) ka.addd) (to'.add gone) (hJ _ _ (nlx_add gone) j') (hv'.mono (tups_add gone))
end
end NC
namespace NC
open PySem PySem.Spec PyProof.Rows L2
section
variable {P : Program} {w : World} {K : PySem.W.Frag} {mg : Str -> Option Value} {base : Heap}
seal L2.PE L2.PA L2.PT L2.PS L2.PSs L2.PW L2.PG L2.PGs L2.PI L2.PO L2.OpR L2.UnR L2.CallR L2.TruR L2.IxR L2.SlR
abbrev s_lifted_raised : Stmt := inDef (top 12) 0
abbrev s_lifted : Stmt := top 12
theorem sc_lifted : FnScope ["term", "by", "raised"] ["term", "by"] (defScope s_lifted) := ⟨rfl, rfl, rfl, by decide +kernel, rfl, by decide +kernel, by decide +kernel⟩
def q_raised : Str := ("lifted" : Str) ++ ".<locals>." ++ "raised"
theorem sc_lifted_raised : CloScope ["part", "forms"] ["by"] (defScope s_lifted_raised) := ⟨rfl, rfl, rfl, by decide +kernel, by decide +kernel, by decide +kernel, by decide +kernel, by decide +kernel⟩
theorem ok_raised {f c cb : Addr} {doc pm ctv u : Value} {m : Nat} {TL : Tabs} (ho : base.get? f = some (fnObjX "raised" q_raised (defArgs s_lifted_raised) (defBody s_lifted_raised) (defScope s_lifted_raised) [("by", cb)] doc pm c ctv))
    (hcell : base.IsCell cb (some u)) (hu : RelV (.int (m : Int)) u) (G_is_outer : GF P w K mg base CX0 1 "is_outer" ["part", "forms"] sp_is_outer) : FV P w K mg base CX0 2 f ["part", "forms"] (sp_leaf TL [] (fun H => H c = some (CodeX c q_raised)) (liftG m)) := by
  refine ⟨_, _, _, _, fn_cloT (k := 1) (CX := CX0) (fvs := [.int (m : Int)]) ho sc_lifted_raised (.cons ⟨cb, u, rfl, hcell, hu⟩ .nil) ?_ ?_ ?_ ?_ ?_, ho, ?_⟩
  · intro x c' h
    have := PySem.mem_of_lookup h
    simp at this
    simp [this]
  · intro x y c' h1 h2
    have e1 := PySem.mem_of_lookup h1
    have e2 := PySem.mem_of_lookup h2
    simp at e1 e2
    rw [e1.1, e2.1]
  · intro vs H Q E h
    obtain ⟨v, t, k, rfl, _⟩ := h
    rfl
  · intro vs H Q E h
    obtain ⟨v, t, k, rfl, _, _, _, _, j, _⟩ := h
    exact j
  · intro A outer s H vs Q E hr h
    obtain ⟨v, t, n, rfl, hlf, _, ht, to, hj, k⟩ := h
    refine ⟨_, (pss_cons (ps_if (pt_val (pe_gf G_is_outer (hr.mono (by decide)) rfl pass0 (pa_c (pv 0) (pa_c (pv 1) pa_nil)))) (pss_one (ps_ret (pTup (pa_c pe_str (pa_c (pe_op op_add (pe_ix ix_tup (pv 0) pe_int (fun _ _ => rfl)) (pv 2)) pa_nil))))) pss_nil)
      (pss_one (ps_ret (pv 0)))), ?_⟩
    show (let V1_ : TS := _; let V2_ : TS := _; tSeq (tIfS _ V2_ _) V1_ _ _ _)
    intro V1_ V2_
    refine ⟨_, rfl, _, rfl, v, t, n, rfl, ht, _, rfl, ?_⟩
    cases ht with
    | name h => exact iteF ⟨_, rfl, k _ _ (.refl _ _) to hj (.name h)⟩
    | form h hb => cases hlf
    | call h hx hy => cases hlf
    | @place a n1 h =>
      refine ifD (fun hle => ?_) (fun hlt => ?_)
      · refine ⟨_, rfl, _, _, _, _, rfl, rfl, SqT.of h, at1, _, rfl, _, _, rfl, rfl, small' (by show 2 <= 1000000; decide), fun b9 H9 n9 s9 h9 => ?_⟩
        refine k _ _ (.of_same s9) (to.same s9) (s9 _ _ hj) ?_
        rw [show liftG m (.place n1 : Tm) n = .place (n1 + m) by show (if n <= n1 then T.place (n1 + m) else T.place n1 : Tm) = _; rw [if_pos hle]]
        exact .place h9
      · refine ⟨_, rfl, k _ _ (.refl _ _) to hj ?_⟩
        rw [show liftG m (.place n1 : Tm) n = .place n1 by show (if n <= n1 then T.place (n1 + m) else T.place n1 : Tm) = _; rw [if_neg hlt]]
        exact .place h
  · exact .all fun us hl => match us, hl with | [_, _], _ => rfl
inductive Sp_liftedI (TL : Tabs) (vs : List V) (H : Hp) (Q0 : VK) : Prop where
  | mk (v : _) (t : _) (m : Nat) (c1 : vs = [v, .int (m : Int)]) (c2 : TermAt H v t) (c3 : t.size <= 100000) (c4 : TO TL H) (c5 : ∀ v' H', ST TL H H' -> TermAt H' v' (t.lift m) -> Q0 v' H')
def sp_lifted (TL : Tabs) : Sp := fun vs H Q0 u3_ => Sp_liftedI TL vs H Q0
theorem ok_lifted {f c0 T0 : Addr} {fd : FuncData} {TL : Tabs} (F : FunC K "lifted" "lifted" s_lifted f fd c0) (hC : PySem.W.codeHdIn K c0 T0 = true) (BB : BltAt base mg) (dis : TDis TL) (hT : (T0, defPos s_lifted_raised, q_raised) ∈ TL) (G_is_outer : ∀ base, GF P w K mg base CX0 1 "is_outer" ["part", "forms"] sp_is_outer)
    (G_rebuilt : GB P w K mg base CX0 4 "rebuilt" ["term", "change"] (sp_rebuilt TL 2 P w K mg)) : FnOk P w K mg base CX0 5 f fd ["term", "by"] (sp_lifted TL) := by
  refine F.ok sc_lifted (fun vs H Q E h => ?_) (fun A outer s H vs Q E hr h => ?_)
  · obtain ⟨v, t, m, rfl, _⟩ := h
    rfl
  · obtain ⟨v, t, m, rfl, ht, hsz, to, k⟩ := h
    refine ⟨_, (pss_cons (ps_def (name := "raised") (qual := q_raised) (params := defArgs s_lifted_raised) (body := defBody s_lifted_raised) (scope := defScope s_lifted_raised) (pos := defPos s_lifted_raised) (i := 2) (clos := [("by", s.heap.objs.size + 1)]) rfl hC BB sc_lifted.nd rfl (Or.inl rfl) rfl rfl)
      (pss_cons (ps_if (pt_cmpR op_eq (pv 1) pe_int (nomark _)) (pss_one (ps_ret (pv 0))) pss_nil)
      (pss_one (ps_ret (pe_ex (E := E0) G_rebuilt (hr.mono (by decide)) rfl (fun _ _ _ _ _ _ _ _ h => h.elim) (pa_c (pv 0) (pa_c (pv 2) pa_nil))))))), ?_⟩
    show (let V1_ : TS := _; let V2_ : TS := _; let V3_ : TS := tSeq (tIfS _ V2_ _) V1_; tSeq _ V3_ _ _ _)
    intro V1_ V2_ V3_
    refine ⟨to _ hT, fun f c H1 nf sx tab1 hc1 hf1 oth => ?_⟩
    have to1 := to.made dis hT sx tab1 oth
    have ht1 := ht.mono sx.tups
    refine ⟨_, rfl, rfl, _, rfl, ifD (fun e => ?_) (fun _ => ?_)⟩
    · have e : m = 0 := by have := V.int.inj e; omega
      subst e
      refine ⟨_, rfl, k v H1 ⟨sx, to1⟩ ?_⟩
      rw [lift_zero]
      exact ht1
    · refine ⟨_, rfl, _, rfl, [f, s.heap.objs.size + 1], fun b hb => ?_, fun base' lg => ?_⟩
      · rcases List.mem_cons.mp hb with rfl | hb
        · exact goes_fn hf1
        · rw [List.mem_singleton.mp hb]
          exact .inr ⟨"by", rfl, rfl⟩
      · obtain ⟨doc, pm, ctv, ho⟩ := lg.ext f (by simp) _ hf1
        obtain ⟨u, hcl, hu⟩ := lg.cell 1 "by" _ (s.heap.objs.size + 1) rfl rfl rfl rfl (by simp)
        have ncf : c ∉ [f, s.heap.objs.size + 1] := fun z => lg.nocode c z _ hc1
        refine ⟨v, t, f, _, [], fun H => H c = some (CodeX c q_raised), liftG m, rfl, ht1.mono (tups_del lg.only), hsz, ok_raised ho hcl hu (G_is_outer base'), fun _ _ n j => n _ _ (fun _ z => by cases z) (fun _ z => by cases z) j, fun _ _ _ z => absurd z (by simp), to1.del lg.only lg.nocode, (delH_ne ncf).trans hc1, fun v' H' ka to' j' hv' gone => ?_⟩
        exact k v' _ ⟨sx.trans ka.addd.sx, to'.add gone⟩ (hv'.mono (tups_add gone))
end
end NC
namespace NC
open PySem PySem.Spec PyProof.Rows L2
section
variable {P : Program} {w : World} {K : PySem.W.Frag} {mg : Str -> Option Value} {base : Heap}
seal L2.PE L2.PA L2.PT L2.PS L2.PSs L2.PW L2.PG L2.PGs L2.PI L2.PO L2.OpR L2.UnR L2.CallR L2.TruR L2.IxR L2.SlR
abbrev s_Raised___init__ : Stmt := inClass (top 13) 0
theorem sc_Raised___init__ : FnScope ["self", "term"] ["self", "term"] (defScope s_Raised___init__) := ⟨rfl, rfl, rfl, by decide +kernel, rfl, by decide +kernel, by decide +kernel⟩
abbrev s_Raised_by : Stmt := inClass (top 13) 1
theorem sc_Raised_by : FnScope ["self", "forms"] ["self", "forms"] (defScope s_Raised_by) := ⟨rfl, rfl, rfl, by decide +kernel, rfl, by decide +kernel, by decide +kernel⟩
structure RCls (K : PySem.W.Frag) (C : Addr) : Prop where
  cl : Cls K C
  nT : NoAttr K C "term"
  nR : NoAttr K C "ready"
inductive Sp_initI (C : Addr) (vs : List V) (H : Hp) (Q : VK) : Prop where
  | mk (x : _) (dx : _) (v : _) (c1 : vs = [.ref x, v]) (c2 : H x = some (.ins C dx [])) (c3 : ∀ d fs H', H d = none -> d ≠ x -> fs.lookup ("term" : Str) = some v -> fs.lookup ("ready" : Str) = some (.ref d) -> fs.lookup ("by" : Str) = none -> H' x = some (.ins C dx fs) -> H' d = some (.dK []) ->
  (∀ b o, b ≠ x -> H b = some o -> H' b = some o) -> Q .non H')
def sp_init (C : Addr) : Sp := fun vs H Q u3_ => Sp_initI C vs H Q
theorem ok_init {f C : Addr} {fd : FuncData} (F : Fun K "__init__" "Raised.__init__" s_Raised___init__ f fd) (R : RCls K C) : FnOk P w K mg base CX0 1 f fd ["self", "term"] (sp_init C) := by
  refine F.ok sc_Raised___init__ (fun vs H Q E h => ?_) (fun cdv A outer s H vs Q E hr h => ?_)
  · obtain ⟨x, dx, v, rfl, _⟩ := h
    rfl
  · obtain ⟨x, dx, v, rfl, hx, k⟩ := h
    refine ⟨_, (pss_cons (ps_fld (pv 0) (pv 1) rfl)
      (pss_one (ps_fld (pv 0) pe_dnewK rfl))), ?_⟩
    show (let V1_ : TS := _; tSeq _ V1_ _ _ _)
    intro V1_
    refine ⟨_, rfl, _, rfl, x, C, dx, [], rfl, hx, R.cl, R.nT, by decide, fun d nd => ?_⟩
    have hdx : d ≠ x := fun z => by rw [z, upd_same] at nd; cases nd
    refine ⟨_, rfl, x, C, dx, _, rfl, by rw [upd_ne hdx.symm]; exact upd_same, R.cl, R.nR, by show 1 < 1000; decide, ?_⟩
    refine k d _ _ (by rw [upd_ne hdx] at nd; exact nd) hdx ?_ ?_ ?_ upd_same (by rw [upd_ne hdx]; exact upd_same) fun b o nb e => ?_
    · rw [lookup_putF, if_neg (by decide +kernel), lookup_putF, if_pos rfl]
    · rw [lookup_putF, if_pos rfl]
    · rw [lookup_putF, if_neg (by decide +kernel), lookup_putF, if_neg (by decide +kernel)]
      rfl
    · rw [upd_ne nb]
      by_cases hb : b = d
      · subst hb
        rw [upd_ne nb] at nd
        rw [nd] at e
        cases e
      · rw [upd_ne hb, upd_ne nb]; exact e
inductive RaisedAtI (C x d : Addr) (r : Tm) (H : Hp) : Prop where
  | mk (dx : _) (fs : _) (v : _) (kvs : _) (c1 : H x = some (.ins C dx fs)) (c2 : fs.lookup ("term" : Str) = some v) (c3 : fs.lookup ("ready" : Str) = some (.ref d)) (c4 : fs.lookup ("by" : Str) = none) (c5 : TermAt H v r) (c6 : H d = some (.dK kvs)) (c7 : (kvs.map (·.1)).Nodup) (c8 : ∀ k v', valV kvs k = some v' -> ∃ n : Nat, n < 100001 /\ k = .inl (n : Int) /\ TermAt H v' (r.lift n))
def RaisedAt (C x d : Addr) (r : Tm) (H : Hp) : Prop := RaisedAtI C x d r H
theorem RaisedAt.kp {C x d : Addr} {r : Tm} {H H' : Hp} (h : RaisedAt C x d r H) (n : ∀ b o, (∀ ps, o ≠ .tbl ps) -> (∀ φ, o ≠ .ext φ) -> (∀ xs, o ≠ .lst xs) -> H b = some o -> H' b = some o) : RaisedAt C x d r H' := by
  obtain ⟨dx, fs, v, kvs, h1, h2, h3, h4, h5, h6, h7, h8⟩ := h
  have tu : Tups H H' := fun b xs e => n b _ (fun _ z => by cases z) (fun _ z => by cases z) (fun _ z => by cases z) e
  refine ⟨dx, fs, v, kvs, n _ _ (fun _ z => by cases z) (fun _ z => by cases z) (fun _ z => by cases z) h1, h2, h3, h4, h5.mono tu, n _ _ (fun _ z => by cases z) (fun _ z => by cases z) (fun _ z => by cases z) h6, h7, fun k v' e => ?_⟩
  obtain ⟨m, q1, q2, q3⟩ := h8 k v' e
  exact ⟨m, q1, q2, q3.mono tu⟩
theorem RaisedAt.nl {C x d : Addr} {r : Tm} {H H' : Hp} (h : RaisedAt C x d r H) (n : NL H H') : RaisedAt C x d r H' := h.kp fun b o _ _ no e => n b o no e
inductive Sp_byI (TL : Tabs) (C : Addr) (vs : List V) (H : Hp) (Q : VK) : Prop where
  | mk (x : _) (d : _) (r : _) (k : Nat) (c1 : vs = [.ref x, .int (k : Int)]) (c2 : k <= 100000) (c3 : RaisedAt C x d r H) (c4 : r.size <= 100000) (c5 : TO TL H) (c6 : ∀ v' H', KA [d] H H' -> RaisedAt C x d r H' -> TO TL H' -> TermAt H' v' (r.lift k) -> Q v' H')
def sp_by (TL : Tabs) (C : Addr) : Sp := fun vs H Q u3_ => Sp_byI TL C vs H Q
theorem RaisedAt.dk {C x d : Addr} {r : Tm} {H : Hp} (h : RaisedAt C x d r H) : ∃ kvs, H d = some (.dK kvs) := let ⟨_, _, _, kvs, _, _, _, _, _, h6, _, _⟩ := h; ⟨kvs, h6⟩
theorem RaisedAt.own {C x d : Addr} {r : Tm} {H : Hp} (h : RaisedAt C x d r H) : OwnD [d] H := fun b hb => by rw [List.mem_singleton.mp hb]; exact h.dk
theorem TO.updD {L : Tabs} {H : Hp} {d : Addr} {kvs kvs' : List (Key × V)} (t : TO L H) (h : H d = some (.dK kvs)) : TO L (upd H d (.dK kvs')) := fun x hx => by
  have n : ∀ b o, H b = some o -> (∀ z, o ≠ .dK z) -> upd H d (.dK kvs') b = some o := fun b o e m => by
    rw [upd_ne fun z => by rw [z, h] at e; cases e; exact m _ rfl]
    exact e
  rcases t x hx with a | ⟨c, a, b⟩
  · exact .inl (n _ _ a fun _ z => by cases z)
  · exact .inr ⟨c, n _ _ a (fun _ z => by cases z), n _ _ b (fun _ z => by cases z)⟩
theorem ok_by {f C : Addr} {fd : FuncData} {TL : Tabs} (F : Fun K "by" "Raised.by" s_Raised_by f fd) (R : RCls K C) (G_lifted : GF P w K mg base CX0 5 "lifted" ["term", "by"] (sp_lifted TL)) : FnOk P w K mg base CX0 6 f fd ["self", "forms"] (sp_by TL C) := by
  refine F.ok sc_Raised_by (fun vs H Q E h => ?_) (fun cdv A outer s H vs Q E hr h => ?_)
  · obtain ⟨x, d, r, k, rfl, _⟩ := h
    rfl
  · obtain ⟨x, d, r, n, rfl, hn, ⟨dx, fs, v, kvs, h1, h2, h3, h4, h5, h6, h7, h8⟩, hsz, to, k⟩ := h
    have hu := hu_of hr
    refine ⟨_, (pss_cons (ps_if (pt_cmp (pc_dnotin hu (pv 1) (pe_fld (pv 0) rfl))) (pss_one (ps_dput hu (pe_fld (pv 0) rfl) (pv 1) (pe_gf G_lifted (hr.mono (by decide)) rfl pass0 (pa_c (pe_fld (pv 0) rfl) (pa_c (pv 1) pa_nil))) rfl)) pss_nil)
      (pss_one (ps_ret (pe_dget hu (pe_fld (pv 0) rfl) (pv 1) (fun _ _ => rfl))))), ?_⟩
    show (let V1_ : TS := _; let V2_ : TS := _; tSeq (tIfS _ V2_ _) V1_ _ _ _)
    intro V1_ V2_
    refine ⟨_, rfl, _, rfl, x, C, dx, fs, _, rfl, h1, R.cl, R.nR, h3, d, _, rfl, DGet.k (k := .inl (n : Int)) h6, _, rfl, ?_⟩
    cases e : valV kvs (.inl (n : Int)) with
    | some v' =>
      refine iteF ⟨_, rfl, x, C, dx, fs, _, rfl, h1, R.cl, R.nR, h3, _, rfl, d, v', rfl, by rw [<- e]; exact DGet.k (k := .inl (n : Int)) h6, ?_⟩
      obtain ⟨m, q1, q2, q3⟩ := h8 _ _ e
      have em : n = m := by have := Sum.inl.inj q2; omega
      subst em
      exact k v' H (KA.refl _ _) ⟨dx, fs, v, kvs, h1, h2, h3, h4, h5, h6, h7, h8⟩ to q3
    | none =>
      refine iteT ⟨_, rfl, x, C, dx, fs, _, rfl, h1, R.cl, R.nT, h2, _, rfl, v, r, n, rfl, h5, hsz, to, fun v' H1 st1 hv' => ?_⟩
      have g1 := st1.sx _ _ (fun _ z => by cases z) h1
      have g6 := st1.sx _ _ (fun _ z => by cases z) h6
      have tu : Tups H H1 := st1.tups
      have hlen : kvs.length < sizeLine := by
        have := key_len 100001 (kvs.map (·.1)) h7 fun kk hk => by
          cases q : valV kvs kk with
          | none => exact absurd hk (valV_not q)
          | some vv =>
            obtain ⟨m, q1, q2, _⟩ := h8 kk vv q
            exact ⟨m, q1, q2⟩
        rw [List.length_map] at this
        exact small (by omega)
      refine ⟨_, rfl, x, C, dx, fs, _, rfl, g1, R.cl, R.nR, h3, _, rfl, d, _, rfl, DPut.k (k := .inl (n : Int)) (v := v') g6 hlen, ?_⟩
      have dx2 : x ≠ d := fun z => by rw [z, g6] at g1; cases g1
      have e1 : upd H1 d (.dK (putK kvs (.inl (n : Int)) v')) x = some (.ins C dx fs) := by rw [upd_ne dx2]; exact g1
      have tu2 : Tups H1 (upd H1 d (.dK (putK kvs (.inl (n : Int)) v'))) := fun b xs e => by
        rw [upd_ne fun z => by rw [z, g6] at e; cases e]; exact e
      refine ⟨_, rfl, x, C, dx, fs, _, rfl, e1, R.cl, R.nR, h3, _, rfl, d, v', rfl, ?_, ?_⟩
      · have q := DGet.k (k := (.inl (n : Int) : Key)) (upd_same (H := H1) (a := d) (o := .dK (putK kvs (.inl (n : Int)) v')))
        rw [valV_put, if_pos rfl] at q
        exact q
      · refine k v' _ (fun b o nb m e => ?_) ⟨dx, fs, v, _, e1, h2, h3, h4, (h5.mono tu).mono tu2, upd_same, nd_putK v' h7 e, fun kk vv q => ?_⟩ (st1.to.updD g6) (hv'.mono tu2)
        · rw [upd_ne fun z => nb (by simp [z])]
          exact st1.sx b o m e
        · rw [valV_put] at q
          by_cases hk : kk = .inl (n : Int)
          · rw [if_pos hk] at q
            cases q
            exact ⟨n, by omega, hk, hv'.mono tu2⟩
          · rw [if_neg hk] at q
            obtain ⟨m, q1, q2, q3⟩ := h8 kk vv q
            exact ⟨m, q1, q2, (q3.mono tu).mono tu2⟩
theorem RaisedAt.nlx {C x d : Addr} {r : Tm} {H H' : Hp} (h : RaisedAt C x d r H) (n : NLX H H') : RaisedAt C x d r H' := h.kp fun b o m _ no e => n b o no m e
theorem raised_new {C x dx d : Addr} {u : V} {r : Tm} {fs : List (Str × V)} {H H1 : Hp} (hru : TermAt H u r) (nx : H x = none) (ndx : H dx = none) (nd : upd (upd H dx (.own x)) x (.ins C dx []) d = none) (l1 : fs.lookup ("term" : Str) = some u) (l2 : fs.lookup ("ready" : Str) = some (.ref d)) (l3 : fs.lookup ("by" : Str) = none)
    (hx1 : H1 x = some (.ins C dx fs)) (hd1 : H1 d = some (.dK [])) (kp1 : ∀ b o, b ≠ x -> upd (upd H dx (.own x)) x (.ins C dx []) b = some o -> H1 b = some o) : Same H H1 /\ RaisedAt C x d r H1 /\ H d = none := by
  have same01 : Same H H1 := fun b o e => by
    have b1 : b ≠ x := fun z => by rw [z, nx] at e; cases e
    have b2 : b ≠ dx := fun z => by rw [z, ndx] at e; cases e
    exact kp1 b o b1 (by rw [upd_ne b1, upd_ne b2]; exact e)
  refine ⟨same01, ⟨dx, fs, u, [], hx1, l1, l2, l3, hru.same same01, hd1, List.nodup_nil, fun k v' e => by rw [valV_nil] at e; cases e⟩, ?_⟩
  cases q : H d with
  | none => rfl
  | some o =>
    have b1 : d ≠ x := fun z => by rw [z, nx] at q; cases q
    have b2 : d ≠ dx := fun z => by rw [z, ndx] at q; cases q
    rw [upd_ne b1, upd_ne b2, q] at nd
    cases nd
theorem ka_new {d : Addr} {H H' : Hp} (a : KA [d] H H') (n : H d = none) : SameX H H' := fun b o m e => a b o (fun z => by rw [List.mem_singleton.mp z, n] at e; cases e) m e
abbrev s_filled_fill : Stmt := inDef (top 14) 1
abbrev s_filled : Stmt := top 14
theorem sc_filled : FnScope ["body", "term", "raised", "fill"] ["body", "term"] (defScope s_filled) := ⟨rfl, rfl, rfl, by decide +kernel, rfl, by decide +kernel, by decide +kernel⟩
def q_fill : Str := ("filled" : Str) ++ ".<locals>." ++ "fill"
theorem sc_filled_fill : CloScope ["part", "forms"] ["raised"] (defScope s_filled_fill) := ⟨rfl, rfl, rfl, by decide +kernel, by decide +kernel, by decide +kernel, by decide +kernel, by decide +kernel⟩
theorem ok_fill {f c cb C x d : Addr} {doc pm ctv u : Value} {r : Tm} {TL : Tabs} (ho : base.get? f = some (fnObjX "fill" q_fill (defArgs s_filled_fill) (defBody s_filled_fill) (defScope s_filled_fill) [("raised", cb)] doc pm c ctv))
    (hcell : base.IsCell cb (some u)) (hu : RelV (.ref x) u) (hsz : r.size <= 100000) (G_is_outer : GF P w K mg base CX0 1 "is_outer" ["part", "forms"] sp_is_outer) (cls : Cls K C) (G_by : GM P w K mg base CX0 6 C "by" ["self", "forms"] (sp_by TL C)) : FV P w K mg base CX0 7 f ["part", "forms"] (sp_leaf TL [d] (fun H => RaisedAt C x d r H /\ H c = some (CodeX c q_fill)) (fillG r)) := by
  refine ⟨_, _, _, _, fn_cloT (k := 6) (CX := CX0) (fvs := [.ref x]) ho sc_filled_fill (.cons ⟨cb, u, rfl, hcell, hu⟩ .nil) ?_ ?_ ?_ ?_ ?_, ho, ?_⟩
  · intro x c' h
    have := PySem.mem_of_lookup h
    simp at this
    simp [this]
  · intro x y c' h1 h2
    have e1 := PySem.mem_of_lookup h1
    have e2 := PySem.mem_of_lookup h2
    simp at e1 e2
    rw [e1.1, e2.1]
  · intro vs H Q E h
    obtain ⟨v, t, k, rfl, _⟩ := h
    rfl
  · intro vs H Q E h
    obtain ⟨v, t, k, rfl, _, _, _, _, j, _⟩ := h
    exact j.2
  · intro A outer s H vs Q E hr h
    obtain ⟨v, t, n, rfl, hlf, hn, ht, to, hj, k⟩ := h
    refine ⟨_, (pss_cons (ps_if (pt_not (pt_val (pe_gf G_is_outer (hr.mono (by decide)) rfl pass0 (pa_c (pv 0) (pa_c (pv 1) pa_nil))))) (pss_one (ps_ret (pv 0))) pss_nil)
      (pss_cons (ps_if (pt_cmpR op_eq (pe_ix ix_tup (pv 0) pe_int (fun _ _ => rfl)) (pv 1) (nomark _)) (pss_one (ps_ret (pe_gm (pv 2) cls G_by (hr.mono (by decide)) pass0 (pa_c (pv 1) pa_nil)))) pss_nil)
      (pss_one (ps_ret (pTup (pa_c pe_str (pa_c (pe_op op_sub (pe_ix ix_tup (pv 0) pe_int (fun _ _ => rfl)) pe_int) pa_nil))))))), ?_⟩
    show (let V1_ : TS := _; let V2_ : TS := _; let V3_ : TS := tSeq (tIfS _ V2_ _) V1_; let V4_ : TS := _; tSeq (tIfS _ V4_ _) V3_ _ _ _)
    intro V1_ V2_ V3_ V4_
    refine ⟨_, rfl, _, rfl, v, t, n, rfl, ht, _, rfl, ?_⟩
    cases ht with
    | name h => exact iteT ⟨_, rfl, k _ _ (.refl _ _) to hj (.name h)⟩
    | form h hb => cases hlf
    | call h hx hy => cases hlf
    | @place a n1 h =>
      have kk : ∀ v' H', KA [d] H H' -> TO TL H' -> RaisedAt C x d r H' /\ H' c = some (CodeX c q_fill) -> TermAt H' v' (if n1 < n then T.place n1 else if n1 = n then r.lift n else T.place (n1 - 1)) -> Q v' H' := k
      by_cases hle : n <= n1
      · rw [show T.outer (.place n1) n = true from decide_eq_true hle]
        rw [if_neg (by omega)] at kk
        refine iteF ⟨_, rfl, _, _, _, _, rfl, rfl, SqT.of h, at1, _, rfl, rfl, _, rfl, ifD (fun heq => ?_) (fun hne => ?_)⟩
        · have heq : n1 = n := by have := V.int.inj heq; omega
          rw [if_pos heq] at kk
          obtain ⟨h1, hc⟩ := hj
          obtain ⟨dx, fs, v0, kvs, g1, g2, g3, g4, g5⟩ := id h1
          refine ⟨_, rfl, x, dx, fs, rfl, g1, g4, _, rfl, x, d, r, n, rfl, hn, h1, hsz, to, fun v' H' ka ra to' hv' => ?_⟩
          refine kk v' H' ka to' ⟨ra, ka c _ (fun z => ?_) (fun _ z => by cases z) hc⟩ hv'
          obtain ⟨kv, q⟩ := h1.own c z
          rw [hc] at q; cases q
        · rw [if_neg fun z => hne (by rw [z])] at kk
          have hne : n1 ≠ n := fun z => hne (by rw [z])
          refine ⟨_, rfl, _, _, _, _, rfl, rfl, SqT.of h, at1, _, _, rfl, rfl, small' (by show 2 <= 1000000; decide), fun b9 H9 n9 s9 h9 => ?_⟩
          have e : ((n1 : Int) - 1) = ((n1 - 1 : Nat) : Int) := by omega
          have h9 : H9 b9 = some (.tup [.str "place", .int ((n1 : Int) - 1)]) := h9
          rw [e] at h9
          exact kk _ _ (.of_same s9) (to.same s9) ⟨hj.1.nlx (.of_same s9), s9 _ _ hj.2⟩ (.place h9)
      · rw [show T.outer (.place n1) n = false from decide_eq_false hle]
        rw [if_pos (by omega)] at kk
        exact iteT ⟨_, rfl, kk _ _ (.refl _ _) to hj (.place h)⟩
  · exact .all fun us hl => match us, hl with | [_, _], _ => rfl
inductive Sp_filledI (TL : Tabs) (vs : List V) (H : Hp) (Q : VK) : Prop where
  | mk (v : _) (t : _) (u : _) (r : _) (c1 : vs = [v, u]) (c2 : TermAt H v t) (c3 : TermAt H u r) (c4 : t.size <= 100000) (c5 : r.size <= 100000) (c6 : TO TL H) (c7 : ∀ v' H', ST TL H H' -> TermAt H' v' (t.fill r) -> Q v' H')
def sp_filled (TL : Tabs) : Sp := fun vs H Q u3_ => Sp_filledI TL vs H Q
theorem ok_filled {f c0 C T0 : Addr} {fd : FuncData} {TL : Tabs} (F : FunC K "filled" "filled" s_filled f fd c0) (hC : PySem.W.codeHdIn K c0 T0 = true) (BB : BltAt base mg) (dis : TDis TL) (hT : (T0, defPos s_filled_fill, q_fill) ∈ TL) (cls : Cls K C) (G_is_outer : ∀ base, GF P w K mg base CX0 1 "is_outer" ["part", "forms"] sp_is_outer)
    (G_Raised : GK P w K mg base CX0 1 C "Raised" ["self", "term"] (sp_init C)) (G_by : ∀ base', (∀ b o, base.get? b = some o -> base'.get? b = some o) -> GM P w K mg base' CX0 6 C "by" ["self", "forms"] (sp_by TL C))
    (G_rebuilt : GB P w K mg base CX0 9 "rebuilt" ["term", "change"] (sp_rebuilt TL 7 P w K mg)) : FnOk P w K mg base CX0 10 f fd ["body", "term"] (sp_filled TL) := by
  refine F.ok sc_filled (fun vs H Q E h => ?_) (fun A outer s H vs Q E hr h => ?_)
  · obtain ⟨v, t, u, r, rfl, _⟩ := h
    rfl
  · obtain ⟨v, t, u, r, rfl, ht, hru, hsz, hszr, to, k⟩ := h
    refine ⟨_, (pss_cons (ps_set (i := 2) sc_filled.nd rfl (Or.inr rfl) (pe_gk G_Raised (hr.mono (by decide)) rfl pass0 (pa_c (pv 1) pa_nil)))
      (pss_cons (ps_def (name := "fill") (qual := q_fill) (params := defArgs s_filled_fill) (body := defBody s_filled_fill) (scope := defScope s_filled_fill) (pos := defPos s_filled_fill) (i := 3) (clos := [("raised", s.heap.objs.size + 1)]) rfl hC BB sc_filled.nd rfl (Or.inl rfl) rfl rfl)
      (pss_one (ps_ret (pe_ex (E := E0) G_rebuilt (hr.mono (by decide)) rfl (fun _ _ _ _ _ _ _ _ h => h.elim) (pa_c (pv 0) (pa_c (pv 3) pa_nil))))))), ?_⟩
    show (let V1_ : TS := _; let V2_ : TS := tSeq _ V1_; tSeq _ V2_ _ _ _)
    intro V1_ V2_
    refine ⟨_, rfl, fun x dx nx ndx nxd => ⟨x, dx, u, rfl, upd_same, fun d fs H1 nd ndx' l1 l2 l3 hx1 hd1 kp1 => ⟨rfl, ?_⟩⟩⟩
    obtain ⟨same01, ra1, n_d⟩ := raised_new hru nx ndx nd l1 l2 l3 hx1 hd1 kp1
    have to1 := to.same same01
    refine ⟨to1 _ hT, fun f c H2 nf sx tab2 hc2 hf2 oth => ?_⟩
    have to2 := to1.made dis hT sx tab2 oth
    have ht2 := (ht.same same01).mono sx.tups
    have ra2 := ra1.nlx (.of_sx sx)
    refine ⟨_, rfl, _, rfl, [f, s.heap.objs.size + 1], fun b hb => ?_, fun base' lg => ?_⟩
    · rcases List.mem_cons.mp hb with rfl | hb
      · exact goes_fn hf2
      · rw [List.mem_singleton.mp hb]
        exact .inr ⟨"raised", rfl, rfl⟩
    · obtain ⟨doc, pm, ctv, ho⟩ := lg.ext f (by simp) _ hf2
      obtain ⟨uu, hcl, huu⟩ := lg.cell 2 "raised" _ (s.heap.objs.size + 1) rfl rfl rfl rfl (by simp)
      have ncf : c ∉ [f, s.heap.objs.size + 1] := fun z => lg.nocode c z _ hc2
      have ra3 : RaisedAt C x d r (delH H2 [f, s.heap.objs.size + 1]) := ra2.kp fun b o n1 n2 n3 e => by rw [delH_ne fun z => by obtain ⟨φ, q⟩ := lg.only b z _ e; exact n2 φ q]; exact e
      refine ⟨v, t, f, _, [d], _, fillG r, rfl, ht2.mono (tups_del lg.only), hsz, ok_fill ho hcl huu hszr (G_is_outer base') cls (G_by base' lg.lg.get), fun _ _ n j => ⟨j.1.nlx n, n _ _ (fun _ z => by cases z) (fun _ z => by cases z) j.2⟩, fun _ j => j.1.own, to2.del lg.only lg.nocode, ⟨ra3, (delH_ne ncf).trans hc2⟩, fun v' H' ka to' j' hv' gone => ?_⟩
      exact k v' _ ⟨ka_new (.trans (.of_sx (SameX.trans (.of same01) sx)) ka.addd) n_d, to'.add gone⟩ (hv'.mono (tups_add gone))
end
end NC
namespace NC
open PySem PySem.Spec PyProof.Rows L2
theorem dI {n m : Int} : decide (V.int n = V.int m) = decide (n = m) := by
  by_cases h : n = m
  · rw [decide_eq_true h, decide_eq_true (by rw [h])]
  · rw [decide_eq_false h, decide_eq_false fun z => h (V.int.inj z)]
section
variable {P : Program} {w : World} {K : PySem.W.Frag} {mg : Str -> Option Value} {base : Heap}
seal L2.PE L2.PA L2.PT L2.PS L2.PSs L2.PW L2.PG L2.PGs L2.PI L2.PO L2.OpR L2.UnR L2.CallR L2.TruR L2.IxR L2.SlR
abbrev s_Stand___init__ : Stmt := inClass (top 18) 0
theorem sc_Stand___init__ : FnScope ["self", "term"] ["self", "term"] (defScope s_Stand___init__) := ⟨rfl, rfl, rfl, by decide +kernel, rfl, by decide +kernel, by decide +kernel⟩
abbrev s_Stand_leads_on : Stmt := inClass (top 18) 1
theorem sc_Stand_leads_on : FnScope ["self", "turn"] ["self", "turn"] (defScope s_Stand_leads_on) := ⟨rfl, rfl, rfl, by decide +kernel, rfl, by decide +kernel, by decide +kernel⟩
abbrev s_Stand_go_down : Stmt := inClass (top 18) 2
theorem sc_Stand_go_down : FnScope ["self", "turn", "part"] ["self", "turn"] (defScope s_Stand_go_down) := ⟨rfl, rfl, rfl, by decide +kernel, rfl, by decide +kernel, by decide +kernel⟩
abbrev s_Stand_go_up : Stmt := inClass (top 18) 3
theorem sc_Stand_go_up : FnScope ["self", "over"] ["self"] (defScope s_Stand_go_up) := ⟨rfl, rfl, rfl, by decide +kernel, rfl, by decide +kernel, by decide +kernel⟩
abbrev s_Stand_go_to_top : Stmt := inClass (top 18) 4
theorem sc_Stand_go_to_top : FnScope ["self"] ["self"] (defScope s_Stand_go_to_top) := ⟨rfl, rfl, rfl, by decide +kernel, rfl, by decide +kernel, by decide +kernel⟩
abbrev s_Stand_is_called : Stmt := inClass (top 18) 5
theorem sc_Stand_is_called : FnScope ["self"] ["self"] (defScope s_Stand_is_called) := ⟨rfl, rfl, rfl, by decide +kernel, rfl, by decide +kernel, by decide +kernel⟩
abbrev s_Stand_do_step : Stmt := inClass (top 18) 8
theorem sc_Stand_do_step : FnScope ["self"] ["self"] (defScope s_Stand_do_step) := ⟨rfl, rfl, rfl, by decide +kernel, rfl, by decide +kernel, by decide +kernel⟩
inductive Sp_sinitI (C hA : Addr) (vs : List V) (H : Hp) (Q : VK) : Prop where
  | mk (x : _) (dx : _) (v : _) (t : _) (c1 : vs = [.ref x, v]) (c2 : H x = some (.ins C dx [])) (c3 : TermAt H v t) (c4 : ∀ ab H', H ab = none -> ab ≠ x -> StAt C x ab hA t [] H' -> (∀ b o, b ≠ x -> H b = some o -> H' b = some o) -> Q .non H')
def sp_sinit (C hA : Addr) : Sp := fun vs H Q u3_ => Sp_sinitI C hA vs H Q
theorem ok_sinit {f C hA : Addr} {fd : FuncData} (F : Fun K "__init__" "Stand.__init__" s_Stand___init__ f fd) (R : StCls K C) : FnOk P w K mg base CX0 1 f fd ["self", "term"] (sp_sinit C hA) := by
  refine F.ok sc_Stand___init__ (fun vs H Q E h => ?_) (fun cdv A outer s H vs Q E hr h => ?_)
  · obtain ⟨x, dx, v, t, rfl, _⟩ := h
    rfl
  · obtain ⟨x, dx, v, t, rfl, hx, ht, k⟩ := h
    refine ⟨_, (pss_cons (ps_fld (pv 0) (pv 1) rfl)
      (pss_one (ps_fld (pv 0) (pLst pa_nil) rfl))), ?_⟩
    show (let V1_ : TS := _; tSeq _ V1_ _ _ _)
    intro V1_
    refine ⟨_, rfl, _, rfl, x, C, dx, [], rfl, hx, R.cl, R.nP, by decide, ?_⟩
    refine ⟨small' (by simp), fun bg H3 nb s3 hb3 => ⟨_, rfl, x, C, dx, _, rfl, s3 _ _ upd_same, R.cl, R.nA, by show 1 < 1000; decide, ?_⟩⟩
    have hbx : bg ≠ x := fun z => by rw [z, upd_same] at nb; cases nb
    have kk : ∀ b o, b ≠ x -> H b = some o -> (upd H3 x (.ins C dx (putF ("above" : Str) (.ref bg) (putF ("part" : Str) v [])))) b = some o := fun b o n e => by
      rw [upd_ne n]
      refine s3 _ _ ?_
      rw [upd_ne n]
      exact e
    refine k bg _ ?_ hbx ⟨dx, _, v, [], ⟨upd_same, ?_, ?_, ?_, ?_⟩, ht.mono fun b xs e => kk b _ (fun z => by rw [z, hx] at e; cases e) e, by rw [upd_ne hbx]; exact hb3, .nil⟩ kk
    · rw [upd_ne hbx] at nb; exact nb
    · rw [lookup_putF, if_neg (by decide +kernel), lookup_putF, if_pos rfl]
    · rw [lookup_putF, if_pos rfl]
    · intro m hm
      have ne : ∀ z ∈ stMeths, z ≠ "above" /\ z ≠ "part" := by decide +kernel
      obtain ⟨h1, h2⟩ := ne m hm
      rw [lookup_putF, if_neg h1, lookup_putF, if_neg h2]
      rfl
    · refine Nat.lt_of_le_of_lt (length_putF _ _ _) (Nat.succ_lt_succ ?_ : _ < 899 + 1)
      refine Nat.lt_of_le_of_lt (length_putF _ _ _) (by decide)
inductive Sp_leadsI (C hA : Addr) (vs : List V) (H : Hp) (Q : VK) : Prop where
  | mk (x : _) (ab : _) (t : _) (S : _) (n : _) (c1 : vs = [.ref x, .int n]) (c2 : StAt C x ab hA t S H) (c3 : Q (.bl (leads t n)) H)
def sp_leads (C hA : Addr) : Sp := fun vs H Q u3_ => Sp_leadsI C hA vs H Q
theorem ok_leads {f C hA : Addr} {fd : FuncData} (F : Fun K "leads_on" "Stand.leads_on" s_Stand_leads_on f fd) (R : StCls K C) : FnOk P w K mg base CX0 1 f fd ["self", "turn"] (sp_leads C hA) := by
  refine F.ok sc_Stand_leads_on (fun vs H Q E h => ?_) (fun cdv A outer s H vs Q E hr h => ?_)
  · obtain ⟨x, ab, t, S, n, rfl, _⟩ := h
    rfl
  · obtain ⟨x, ab, t, S, n, rfl, ⟨dx, fs, tv, vs, hx, ht, hb, hp⟩, k⟩ := h
    refine ⟨_, (pss_cons (ps_if (pt_cmpR op_eq (pe_ix ix_tup (pe_fld (pv 0) rfl) pe_int (fun _ _ => rfl)) pe_str (nomark _)) (pss_one (ps_ret (pe_or (pe_cmpR op_eq (pv 1) pe_int (nomark _)) (pe_one (pe_cmpR op_eq (pv 1) pe_int (nomark _)))))) pss_nil)
      (pss_one (ps_ret (pe_and (pe_cmpR op_eq (pe_ix ix_tup (pe_fld (pv 0) rfl) pe_int (fun _ _ => rfl)) pe_str (nomark _)) (pe_one (pe_cmpR op_eq (pv 1) pe_int (nomark _))))))), ?_⟩
    show (let V1_ : TS := _; let V2_ : TS := _; tSeq (tIfS _ V2_ _) V1_ _ _ _)
    intro V1_ V2_
    cases ht with
    | name h => exact ⟨_, rfl, x, C, dx, fs, _, rfl, hx.ins, R.cl, R.nP, hx.part, _, _, _, _, rfl, rfl, SqT.of h, at0, rfl, _, rfl, ifF n_nc ⟨_, rfl, x, C, dx, fs, _, rfl, hx.ins, R.cl, R.nP, hx.part, _, _, _, _, rfl, rfl, SqT.of h, at0, rfl, _, rfl, ifF n_nf k⟩⟩
    | place h => exact ⟨_, rfl, x, C, dx, fs, _, rfl, hx.ins, R.cl, R.nP, hx.part, _, _, _, _, rfl, rfl, SqT.of h, at0, rfl, _, rfl, ifF n_pc ⟨_, rfl, x, C, dx, fs, _, rfl, hx.ins, R.cl, R.nP, hx.part, _, _, _, _, rfl, rfl, SqT.of h, at0, rfl, _, rfl, ifF n_pf k⟩⟩
    | form h _ =>
      refine ⟨_, rfl, x, C, dx, fs, _, rfl, hx.ins, R.cl, R.nP, hx.part, _, _, _, _, rfl, rfl, SqT.of h, at0, rfl, _, rfl, ifF n_fc ⟨_, rfl, x, C, dx, fs, _, rfl, hx.ins, R.cl, R.nP, hx.part, _, _, _, _, rfl, rfl, SqT.of h, at0, rfl, _, rfl, ifT rfl ⟨_, rfl, rfl, ?_⟩⟩⟩
      rw [dI]
      exact k
    | @call a1 v1 u1 t1 t2 h hx' hy =>
      refine ⟨_, rfl, x, C, dx, fs, _, rfl, hx.ins, R.cl, R.nP, hx.part, _, _, _, _, rfl, rfl, SqT.of h, at0, rfl, _, rfl, ifT rfl ⟨_, rfl, rfl, _, rfl, ?_⟩⟩
      by_cases h0 : n = 0
      · subst h0
        exact ifT rfl k
      · refine ifF (fun z => h0 (V.int.inj z)) ⟨_, rfl, rfl, ?_⟩
        rw [dI]
        have e : leads (.call t1 t2) n = decide (n = 1) := by show (decide (n = 0) || decide (n = 1)) = _; rw [decide_eq_false h0]; rfl
        rw [<- e]
        exact k
inductive Sp_downI (C hA : Addr) (vs : List V) (H : Hp) (Q : VK) : Prop where
  | mk (x : _) (ab : _) (t : _) (S : _) (n : _) (c1 : vs = [.ref x, .int n]) (c2 : StAt C x ab hA t S H) (c3 : leads t n = true) (c4 : S.length <= 1000) (c5 : ∀ H', Keep [x, ab] H H' -> StAt C x ab hA (child t n) (frame t n :: S) H' -> Q .non H')
def sp_down (C hA : Addr) : Sp := fun vs H Q u3_ => Sp_downI C hA vs H Q
theorem ok_down {f C hA : Addr} {fd : FuncData} (F : Fun K "go_down" "Stand.go_down" s_Stand_go_down f fd) (R : StCls K C) (hH : HoleK K mg hA) : FnOk P w K mg base CX0 1 f fd ["self", "turn"] (sp_down C hA) := by
  refine F.ok sc_Stand_go_down (fun vs H Q E h => ?_) (fun cdv A outer s H vs Q E hr h => ?_)
  · obtain ⟨x, ab, t, S, n, rfl, _⟩ := h
    rfl
  · obtain ⟨x, ab, t, S, n, rfl, ⟨dx, fs, tv, vs, hx, ht, hb, hp⟩, hl, hS, k⟩ := h
    have hvs : vs.length <= 1000 := by rw [Paired.length hp, List.length_reverse]; exact hS
    refine ⟨_, (pss_cons (ps_set (i := 2) sc_Stand_go_down.nd rfl (Or.inl rfl) (pe_fld (pv 0) rfl))
      (pss_cons (ps_if (pt_cmpR op_eq (pe_ix ix_tup (pv 2) pe_int (fun _ _ => rfl)) pe_str (nomark _)) (pss_one (ps_expr (pApp (pe_fld (pv 0) rfl) (pTup (pa_c pe_str (pa_c (pe_glob (v := .ref hA) rfl hH.m rfl) pa_nil)))))) (pss_one (ps_if (pt_cmpR op_eq (pv 1) pe_int (nomark _)) (pss_one (ps_expr (pApp (pe_fld (pv 0) rfl) (pTup (pa_c pe_str (pa_c (pe_glob (v := .ref hA) rfl hH.m rfl) (pa_c (pe_ix ix_tup (pv 2) pe_int (fun _ _ => rfl)) pa_nil))))))) (pss_one (ps_expr (pApp (pe_fld (pv 0) rfl) (pTup (pa_c pe_str (pa_c (pe_ix ix_tup (pv 2) pe_int (fun _ _ => rfl)) (pa_c (pe_glob (v := .ref hA) rfl hH.m rfl) pa_nil))))))))))
      (pss_one (ps_fld (pv 0) (pe_ix ix_tup (pv 2) (pe_op op_add pe_int (pv 1)) (fun _ _ => rfl)) rfl)))), ?_⟩
    show (let V1_ : TS := _; let V2_ : TS := _; let V3_ : TS := _; let V4_ : TS := _; let V5_ : TS := tIfS _ V3_ V4_; let V6_ : TS := tSeq (tIfS _ V2_ V5_) V1_; tSeq _ V6_ _ _ _)
    intro V1_ V2_ V3_ V4_ V5_ V6_
    refine ⟨_, rfl, x, C, dx, fs, _, rfl, hx.ins, R.cl, R.nP, hx.part, ?_⟩
    -- behind the append
    have fin : ∀ {p : Addr} {ys : List V} {c : V} {fm : Fm Str} {tc : Tm} {H1 H2 : Hp}, Same H H1 -> H1 p = some (.tup ys) -> FmAt hA H1 (.ref p) fm -> TermAt H1 c tc -> Keep [ab] H1 H2 -> H2 ab = some (.lst (vs ++ [.ref p])) -> fm = frame t n -> tc = child t n ->
        Q .non (upd H2 x (.ins C dx (putF ("part" : Str) c fs))) := by
      intro p ys c fm tc H1 H2 s1 hp1 hf hc k2 hb2 e1 e2
      have hb1 := s1 _ _ hb
      have tu := k2.tup1 hb1
      have hx2 : StO C x ab dx fs tv H2 := hx.keep ((k2.at (s1 _ _ hx.ins) (hx.ne hb).symm).trans hx.ins.symm)
      obtain ⟨q1, q2⟩ := StAt.set (S := fm :: S) hx2 hb2 (by rw [List.reverse_cons]; exact paired_snoc (hf.mono tu) (fms_mono (fms_mono hp (.of_same s1)) tu)) (hc.mono tu)
      rw [e1, e2] at q1
      exact k _ (((Keep.of_same s1).trans (k2.sub (by simp))).trans (q2.sub (by simp))) q1
    cases ht with
    | name h => cases hl
    | place h => cases hl
    | form h hc =>
      have h0 : n = 0 := of_decide_eq_true hl
      subst h0
      refine ⟨_, rfl, _, _, _, _, rfl, rfl, SqT.of h, at0, rfl, _, rfl, ifT rfl ?_⟩
      refine ⟨_, rfl, x, C, dx, fs, _, rfl, hx.ins, R.cl, R.nA, hx.above, Or.inl ⟨rfl, _, SqL.of hb⟩, small' (by show 2 <= 1000000; decide), fun p H1 np s1 h1 => ⟨_, _, _, rfl, rfl, s1 _ _ hb, small (by omega), fun H2 k2 hb2 => ?_⟩⟩
      have h2 := k2.tup1 (s1 _ _ hb) _ _ (s1 _ _ h)
      exact ⟨_, rfl, _, rfl, _, _, rfl, rfl, _, _, _, _, rfl, rfl, SqT.of h2, at1, _, rfl, x, C, dx, fs, rfl, k2.at (s1 _ _ hx.ins) (hx.ne hb).symm, R.cl, R.nP, Nat.lt_trans hx.few (by decide), fin s1 h1 (.form h1) (hc.same s1) k2 hb2 rfl rfl⟩
    | call h hx' hy =>
      refine ⟨_, rfl, _, _, _, _, rfl, rfl, SqT.of h, at0, rfl, _, rfl, ifF n_cf ⟨_, rfl, rfl, _, rfl, ?_⟩⟩
      by_cases h0 : n = 0
      · subst h0
        refine ifT rfl ?_
        refine ⟨_, rfl, x, C, dx, fs, _, rfl, hx.ins, R.cl, R.nA, hx.above, Or.inl ⟨rfl, _, SqL.of hb⟩, _, rfl, _, _, _, _, rfl, rfl, SqT.of h, at2, small' (by show 3 <= 1000000; decide), fun p H1 np s1 h1 => ⟨_, _, _, rfl, rfl, s1 _ _ hb, small (by omega), fun H2 k2 hb2 => ?_⟩⟩
        have h2 := k2.tup1 (s1 _ _ hb) _ _ (s1 _ _ h)
        exact ⟨_, rfl, _, rfl, _, _, rfl, rfl, _, _, _, _, rfl, rfl, SqT.of h2, at1, _, rfl, x, C, dx, fs, rfl, k2.at (s1 _ _ hx.ins) (hx.ne hb).symm, R.cl, R.nP, Nat.lt_trans hx.few (by decide), fin s1 h1 (.one h1 (hy.same s1)) (hx'.same s1) k2 hb2 rfl rfl⟩
      · have h1 : n = 1 := by
          have hl' : (decide (n = 0) || decide (n = 1)) = true := hl
          rw [decide_eq_false h0, Bool.false_or] at hl'
          exact of_decide_eq_true hl'
        subst h1
        refine ifF (fun z => h0 (V.int.inj z)) ?_
        refine ⟨_, rfl, x, C, dx, fs, _, rfl, hx.ins, R.cl, R.nA, hx.above, Or.inl ⟨rfl, _, SqL.of hb⟩, _, rfl, _, _, _, _, rfl, rfl, SqT.of h, at1, small' (by show 3 <= 1000000; decide), fun p H1 np s1 h1 => ⟨_, _, _, rfl, rfl, s1 _ _ hb, small (by omega), fun H2 k2 hb2 => ?_⟩⟩
        have h2 := k2.tup1 (s1 _ _ hb) _ _ (s1 _ _ h)
        exact ⟨_, rfl, _, rfl, _, _, rfl, rfl, _, _, _, _, rfl, rfl, SqT.of h2, at2, _, rfl, x, C, dx, fs, rfl, k2.at (s1 _ _ hx.ins) (hx.ne hb).symm, R.cl, R.nP, Nat.lt_trans hx.few (by decide), fin s1 h1 (.other h1 (hx'.same s1)) (hy.same s1) k2 hb2 rfl rfl⟩
inductive Sp_upI (C hA : Addr) (vs : List V) (H : Hp) (Q : VK) : Prop where
  | mk (x : _) (ab : _) (t : _) (f : _) (S : _) (c1 : vs = [.ref x]) (c2 : StAt C x ab hA t (f :: S) H) (c3 : f.deepS <= 190) (c4 : ∀ H', Keep [x, ab] H H' -> StAt C x ab hA (plugF f t) S H' -> Q .non H')
def sp_up (C hA : Addr) : Sp := fun vs H Q u3_ => Sp_upI C hA vs H Q
theorem ok_up {f C hA : Addr} {fd : FuncData} (F : Fun K "go_up" "Stand.go_up" s_Stand_go_up f fd) (R : StCls K C) (hH : HoleK K mg hA) : FnOk P w K mg base CX0 1 f fd ["self"] (sp_up C hA) := by
  refine F.ok sc_Stand_go_up (fun vs H Q E h => ?_) (fun cdv A outer s H vs Q E hr h => ?_)
  · obtain ⟨x, ab, t, f, S, rfl, _⟩ := h
    rfl
  · obtain ⟨x, ab, t, fm, S, rfl, ⟨dx, fs, tv, vs, hx, ht, hb, hp⟩, hsib, k⟩ := h
    have hu : A.units + 3 + 16 * 0 + 200 < cLine := hr.un
    rw [List.reverse_cons] at hp
    obtain ⟨vs', v, rfl, hp', hf⟩ := paired_snoc_inv hp
    refine ⟨_, (pss_cons (ps_set (i := 1) sc_Stand_go_up.nd rfl (Or.inl rfl) (pPop (pe_fld (pv 0) rfl)))
      (pss_one (ps_if (pt_cmpR op_eq (pe_ix ix_tup (pv 1) pe_int (fun _ _ => rfl)) pe_str (nomark _)) (pss_one (ps_fld (pv 0) (pTup (pa_c pe_str (pa_c (pe_fld (pv 0) rfl) pa_nil))) rfl)) (pss_one (ps_if (pt_cmpR op_eqD (pe_ix ix_tup (pv 1) pe_int (fun _ _ => rfl)) (pe_glob (v := .ref hA) rfl hH.m rfl) (nomark _)) (pss_one (ps_fld (pv 0) (pTup (pa_c pe_str (pa_c (pe_fld (pv 0) rfl) (pa_c (pe_ix ix_tup (pv 1) pe_int (fun _ _ => rfl)) pa_nil)))) rfl)) (pss_one (ps_fld (pv 0) (pTup (pa_c pe_str (pa_c (pe_ix ix_tup (pv 1) pe_int (fun _ _ => rfl)) (pa_c (pe_fld (pv 0) rfl) pa_nil)))) rfl))))))), ?_⟩
    show (let V1_ : TS := _; let V2_ : TS := _; let V3_ : TS := _; let V4_ : TS := tIfS _ V2_ V3_; let V5_ : TS := tIfS _ V1_ V4_; tSeq _ V5_ _ _ _)
    intro V1_ V2_ V3_ V4_ V5_
    refine ⟨_, rfl, x, C, dx, fs, _, rfl, hx.ins, R.cl, R.nA, hx.above, Or.inl ⟨rfl, _, SqL.of hb⟩, _, _, _, rfl, rfl, hb, fun H1 k1 hb1 => ?_⟩
    have tu1 := k1.tup1 hb
    have hx1 : StO C x ab dx fs tv H1 := hx.keep ((k1.at hx.ins (hx.ne hb).symm).trans hx.ins.symm)
    have hp1 := fms_mono hp' tu1
    have ht1 := ht.mono tu1
    have fin : ∀ {p : Addr} {t' : Tm} {H2 : Hp}, Same H1 H2 -> TermAt H2 (.ref p) t' -> t' = plugF fm t -> Q .non (upd H2 x (.ins C dx (putF ("part" : Str) (.ref p) fs))) := by
      intro p t' H2 s2 hq e
      have hx2 : StO C x ab dx fs tv H2 := hx1.keep ((s2 _ _ hx1.ins).trans hx1.ins.symm)
      obtain ⟨q1, q2⟩ := StAt.set (S := S) hx2 (s2 _ _ hb1) (fms_mono hp1 (.of_same s2)) hq
      rw [e] at q1
      exact k _ (((k1.sub (by simp)).trans (Keep.of_same s2)).trans (q2.sub (by simp))) q1
    cases hf with
    | form h =>
      have h1 := tu1 _ _ h
      refine ⟨_, rfl, _, _, _, _, rfl, rfl, SqT.of h1, at0, rfl, _, rfl, ifT rfl ⟨_, rfl, x, C, dx, fs, _, rfl, hx1.ins, R.cl, R.nP, hx1.part, small' (by show 2 <= 1000000; decide), fun p H2 np s2 h2 => ?_⟩⟩
      exact ⟨_, rfl, x, C, dx, fs, rfl, s2 _ _ hx1.ins, R.cl, R.nP, Nat.lt_trans hx.few (by decide), fin s2 (.form h2 (ht1.same s2)) rfl⟩
    | @one p1 u1 t1 h hq =>
      have h1 := tu1 _ _ h
      refine ⟨_, rfl, _, _, _, _, rfl, rfl, SqT.of h1, at0, rfl, _, rfl, ifF n_cf ⟨_, rfl, _, _, _, _, rfl, rfl, SqT.of h1, at1, ?_⟩⟩
      refine ⟨1, .tup [.str "hole"], .tup [.str "hole"], hA, hA, rfl, rfl, ⟨trivial, trivial⟩, by show A.units + 3 + 1 + 1 < cLine; omega, hole_dat hH _, hole_dat hH _, fun b hb' => ?_⟩
      rw [hb'.mpr rfl]
      refine ⟨_, rfl, iteT ⟨_, rfl, x, C, dx, fs, _, rfl, hx1.ins, R.cl, R.nP, hx1.part, _, rfl, _, _, _, _, rfl, rfl, SqT.of h1, at2, small' (by show 3 <= 1000000; decide), fun p H2 np s2 h2 => ?_⟩⟩
      exact ⟨_, rfl, x, C, dx, fs, rfl, s2 _ _ hx1.ins, R.cl, R.nP, Nat.lt_trans hx.few (by decide), fin s2 (.call h2 (ht1.same s2) ((hq.mono tu1).same s2)) rfl⟩
    | @other p1 u1 t1 h hq =>
      have h1 := tu1 _ _ h
      have hq1 := hq.mono tu1
      obtain ⟨a1, rfl⟩ := hq1.ref
      have hd : t1.deep <= 191 := Nat.le_trans hsib (by decide)
      refine ⟨_, rfl, _, _, _, _, rfl, rfl, SqT.of h1, at0, rfl, _, rfl, ifF n_cf ⟨_, rfl, _, _, _, _, rfl, rfl, SqT.of h1, at1, ?_⟩⟩
      refine ⟨190, termD t1, .tup [.str "hole"], a1, hA, rfl, rfl, term_lim _ _ hd, by show A.units + 3 + 190 + 1 < cLine; omega, term_dat hq1, hole_dat hH _, fun b hb' => ?_⟩
      have eb : b = false := by
        cases b with
        | false => rfl
        | true => exact absurd (hb'.mp rfl) (hole_ne t1)
      rw [eb]
      refine ⟨_, rfl, iteF ⟨_, rfl, _, _, _, _, rfl, rfl, SqT.of h1, at1, _, rfl, x, C, dx, fs, _, rfl, hx1.ins, R.cl, R.nP, hx1.part, small' (by show 3 <= 1000000; decide), fun p H2 np s2 h2 => ?_⟩⟩
      exact ⟨_, rfl, x, C, dx, fs, rfl, s2 _ _ hx1.ins, R.cl, R.nP, Nat.lt_trans hx.few (by decide), fin s2 (.call h2 (hq1.same s2) (ht1.same s2)) rfl⟩
inductive Sp_topI (C hA : Addr) (vs : List V) (H : Hp) (Q : VK) : Prop where
  | mk (x : _) (ab : _) (t : _) (S : _) (c1 : vs = [.ref x]) (c2 : StAt C x ab hA t S H) (c3 : SmallD 190 S) (c4 : ∀ H', Keep [x, ab] H H' -> StAt C x ab hA (plugS S t) [] H' -> Q .non H')
def sp_top (C hA : Addr) : Sp := fun vs H Q u3_ => Sp_topI C hA vs H Q
inductive InvTopI (H : Hp) (C x ab hA : Addr) (t : Tm) (S : List (Fm Str)) (m : Nat) (σ : L2.St) (H' : Hp) : Prop where
  | mk (S' : _) (t' : _) (c1 : σ = [some (.ref x)]) (c2 : Keep [x, ab] H H') (c3 : StAt C x ab hA t' S' H') (c4 : SmallD 190 S') (c5 : plugS S' t' = plugS S t) (c6 : m = S'.length)
def InvTop (H : Hp) (C x ab hA : Addr) (t : Tm) (S : List (Fm Str)) (m : Nat) (σ : L2.St) (H' : Hp) : Prop := InvTopI H C x ab hA t S m σ H'
theorem ok_top {f C hA : Addr} {fd : FuncData} (F : Fun K "go_to_top" "Stand.go_to_top" s_Stand_go_to_top f fd) (R : StCls K C) (G_Stand_go_up : GM P w K mg base CX0 1 C "go_up" ["self"] (sp_up C hA)) : FnOk P w K mg base CX0 2 f fd ["self"] (sp_top C hA) := by
  refine F.ok sc_Stand_go_to_top (fun vs H Q E h => ?_) (fun cdv A outer s H vs Q E hr h => ?_)
  · obtain ⟨x, ab, t, S, rfl, _⟩ := h
    rfl
  · obtain ⟨x, ab, t, S, rfl, hst, hsm, k⟩ := h
    refine ⟨_, (pss_one (ps_while PassesOwn.never (pt_truth (pe_fld (pv 0) rfl) (fun _ => rfl)) (pss_one (ps_expr (pe_gm0 (pv 0) R.cl G_Stand_go_up (hr.mono (by decide)) pass0))))), ?_⟩
    show (let V1_ : TS := _; tWhile _ V1_ _ _ _)
    intro V1_
    refine ⟨InvTop H C x ab hA t S, ⟨S.length, S, t, rfl, .refl _ _, hst, hsm, rfl, rfl⟩, ?_⟩
    rintro m σ H5 ⟨S', t', rfl, k5, hst5, hsm5, hpl, rfl⟩
    obtain ⟨dx, fs, tv, vs, hx, ht, hb, hp⟩ := id hst5
    cases S' with
    | nil =>
      cases paired_nil hp
      refine ⟨_, rfl, x, C, dx, fs, _, rfl, hx.ins, R.cl, R.nA, hx.above, false, Or.inl ⟨_, SqL.of hb, rfl⟩, iteF ?_⟩
      have e : t' = plugS S t := hpl
      exact k _ k5 (e ▸ hst5)
    | cons fm S1 =>
      have hne : vs ≠ [] := fun z => by
        have := Paired.length hp
        rw [z, List.length_reverse] at this
        cases this
      refine ⟨_, rfl, x, C, dx, fs, _, rfl, hx.ins, R.cl, R.nA, hx.above, true, Or.inl ⟨_, SqL.of hb, by cases vs with | nil => exact absurd rfl hne | cons _ _ => rfl⟩, iteT ⟨fun σ' H' => ∃ m', m' < (fm :: S1).length /\ InvTop H C x ab hA t S m' σ' H', fun _ _ h => h, ?_⟩⟩
      refine ⟨_, rfl, x, dx, fs, rfl, hx.ins, hx.meth _ (by decide +kernel), x, ab, t', fm, S1, rfl, hst5, hsm5.head, fun H6 k6 h6 => ?_⟩
      exact ⟨S1.length, Nat.lt_succ_self _, S1, _, rfl, k5.trans k6, h6, hsm5.tail, hpl, rfl⟩
def isOne : List (Fm Str) -> Bool
  | .one _ :: _ => true
  | _ => false
inductive Sp_calledI (C hA : Addr) (vs : List V) (H : Hp) (Q : VK) : Prop where
  | mk (x : _) (ab : _) (t : _) (S : _) (c1 : vs = [.ref x]) (c2 : StAt C x ab hA t S H) (c3 : SmallD 190 S) (c4 : S.length <= 1000) (c5 : Q (.bl (isOne S)) H)
def sp_called (C hA : Addr) : Sp := fun vs H Q u3_ => Sp_calledI C hA vs H Q
theorem ok_called {f C hA : Addr} {fd : FuncData} (F : Fun K "is_called" "Stand.is_called" s_Stand_is_called f fd) (N_ : NoNames mg) (R : StCls K C) (hH : HoleK K mg hA) : FnOk P w K mg base CX0 1 f fd ["self"] (sp_called C hA) := by
  refine F.ok sc_Stand_is_called (fun vs H Q E h => ?_) (fun cdv A outer s H vs Q E hr h => ?_)
  · obtain ⟨x, ab, t, S, rfl, _⟩ := h
    rfl
  · obtain ⟨x, ab, t, S, rfl, ⟨dx, fs, tv, vs, hx, ht, hb, hp⟩, hsm, hlen, k⟩ := h
    have hu : A.units + 3 + 16 * 0 + 200 < cLine := hr.un
    refine ⟨_, (pss_one (ps_ret (pe_and (pe_cmpR op_gt (pCB call_len_seq (by rfl) N_.len boot_len (pa_c (pe_fld (pv 0) rfl) pa_nil)) pe_int (nomark _)) (pe_and (pe_cmpR op_eq (pe_ix ix_tup (pe_ix ix_list (pe_fld (pv 0) rfl) (pe_un un_neg pe_int) (fun _ _ => rfl)) pe_int (fun _ _ => rfl)) pe_str (nomark _)) (pe_one (pe_cmpR op_eqD (pe_ix ix_tup (pe_ix ix_list (pe_fld (pv 0) rfl) (pe_un un_neg pe_int) (fun _ _ => rfl)) pe_int (fun _ _ => rfl)) (pe_glob (v := .ref hA) rfl hH.m rfl) (nomark _))))))), ?_⟩
    cases S with
    | nil =>
      cases paired_nil hp
      exact ⟨_, rfl, x, C, dx, fs, _, rfl, hx.ins, R.cl, R.nA, hx.above, _, _, rfl, Or.inl (SqL.of hb), _, _, rfl, rfl, _, rfl, ifF (by simp) k⟩
    | cons fm S1 =>
      rw [List.reverse_cons] at hp
      obtain ⟨vs', v, rfl, hp', hf⟩ := paired_snoc_inv hp
      have hlt : (0 : Int) < ((vs' ++ [v]).length : Int) := by rw [List.length_append]; simp only [List.length_cons, List.length_nil]; omega
      have hsib := hsm.head
      refine ⟨_, rfl, x, C, dx, fs, _, rfl, hx.ins, R.cl, R.nA, hx.above, _, _, rfl, Or.inl (SqL.of hb), _, _, rfl, rfl, _, rfl, ifT hlt ⟨_, rfl, x, C, dx, fs, _, rfl, hx.ins, R.cl, R.nA, hx.above, _, rfl, _, _, _, _, rfl, rfl, SqL.of hb, atI_last _ _, ?_⟩⟩
      cases hf with
      | form h => exact ⟨_, _, _, _, rfl, rfl, SqT.of h, at0, rfl, _, rfl, ifF n_fc k⟩
      | @one p1 u1 t1 h hq =>
        refine ⟨_, _, _, _, rfl, rfl, SqT.of h, at0, rfl, _, rfl, ifT rfl ⟨_, rfl, x, C, dx, fs, _, rfl, hx.ins, R.cl, R.nA, hx.above, _, rfl, _, _, _, _, rfl, rfl, SqL.of hb, atI_last _ _, _, _, _, _, rfl, rfl, SqT.of h, at1, ?_⟩⟩
        refine ⟨1, .tup [.str "hole"], .tup [.str "hole"], hA, hA, rfl, rfl, ⟨trivial, trivial⟩, by show A.units + 3 + 1 + 1 < cLine; omega, hole_dat hH _, hole_dat hH _, fun b hb' => ?_⟩
        rw [hb'.mpr rfl]
        exact k
      | @other p1 u1 t1 h hq =>
        obtain ⟨a1, rfl⟩ := hq.ref
        have hd : t1.deep <= 191 := Nat.le_trans hsib (by decide)
        refine ⟨_, _, _, _, rfl, rfl, SqT.of h, at0, rfl, _, rfl, ifT rfl ⟨_, rfl, x, C, dx, fs, _, rfl, hx.ins, R.cl, R.nA, hx.above, _, rfl, _, _, _, _, rfl, rfl, SqL.of hb, atI_last _ _, _, _, _, _, rfl, rfl, SqT.of h, at1, ?_⟩⟩
        refine ⟨190, termD t1, .tup [.str "hole"], a1, hA, rfl, rfl, term_lim _ _ hd, by show A.units + 3 + 190 + 1 < cLine; omega, term_dat hq, hole_dat hH _, fun b hb' => ?_⟩
        have eb : b = false := by
          cases b with
          | false => rfl
          | true => exact absurd (hb'.mp rfl) (hole_ne t1)
        rw [eb]
        exact k
inductive Sp_doI (TL : Tabs) (C hA : Addr) (vs : List V) (H : Hp) (Q : VK) : Prop where
  | mk (x : _) (ab : _) (b : _) (u : _) (S : _) (c1 : vs = [.ref x]) (c2 : StAt C x ab hA (.call (.form b) u) S H) (c3 : SmallD 190 S) (c4 : S.length <= 1000) (c5 : b.size <= 100000) (c6 : u.size <= 100000) (c7 : TO TL H) (c8 : ∀ t' S' H', KA [x, ab] H H' -> TO TL H' -> StAt C x ab hA t' S' H' -> SmallD 190 S' -> plugS S' t' = plugS S (b.fill u) -> Q .non H')
def sp_do (TL : Tabs) (C hA : Addr) : Sp := fun vs H Q u3_ => Sp_doI TL C hA vs H Q
theorem ok_do {f C hA : Addr} {fd : FuncData} {TL : Tabs} (F : Fun K "do_step" "Stand.do_step" s_Stand_do_step f fd) (R : StCls K C) (G_filled : GF P w K mg base CX0 10 "filled" ["body", "term"] (sp_filled TL)) (G_Stand_is_called : GM P w K mg base CX0 1 C "is_called" ["self"] (sp_called C hA))
    (G_Stand_go_up : GM P w K mg base CX0 1 C "go_up" ["self"] (sp_up C hA)) : FnOk P w K mg base CX0 11 f fd ["self"] (sp_do TL C hA) := by
  refine F.ok sc_Stand_do_step (fun vs H Q E h => ?_) (fun cdv A outer s H vs Q E hr h => ?_)
  · obtain ⟨x, ab, b, u, S, rfl, _⟩ := h
    rfl
  · obtain ⟨x, ab, b, u, S, rfl, hst, hsm, hlen, hs1, hs2, to, k⟩ := h
    obtain ⟨dx, fs, tv, vs, hx, ht, hb, hp⟩ := id hst
    refine ⟨_, (pss_cons (ps_fld (pv 0) (pe_gf G_filled (hr.mono (by decide)) rfl pass0 (pa_c (pe_ix ix_tup (pe_ix ix_tup (pe_fld (pv 0) rfl) pe_int (fun _ _ => rfl)) pe_int (fun _ _ => rfl)) (pa_c (pe_ix ix_tup (pe_fld (pv 0) rfl) pe_int (fun _ _ => rfl)) pa_nil))) rfl)
      (pss_one (ps_if (PW.pt (pw_and (pt_cmpR op_eq (pe_ix ix_tup (pe_fld (pv 0) rfl) pe_int (fun _ _ => rfl)) pe_str (nomark _)) (pw_and1 (pt_val (pe_gm0 (pv 0) R.cl G_Stand_is_called (hr.mono (by decide)) pass0))))) (pss_one (ps_expr (pe_gm0 (pv 0) R.cl G_Stand_go_up (hr.mono (by decide)) pass0))) pss_nil))), ?_⟩
    show (let V1_ : TS := _; let V2_ : TS := tIfS _ V1_ _; tSeq _ V2_ _ _ _)
    intro V1_ V2_
    cases ht with
    | call h hx' hy =>
      cases hx' with
      | form h' hb' =>
        refine ⟨_, rfl, x, C, dx, fs, _, rfl, hx.ins, R.cl, R.nP, hx.part, _, _, _, _, rfl, rfl, SqT.of h, at1, _, _, _, _, rfl, rfl, SqT.of h', at1, _, rfl, x, C, dx, fs, _, rfl, hx.ins, R.cl, R.nP, hx.part, _, _, _, _, rfl, rfl, SqT.of h, at2, ?_⟩
        refine ⟨_, b, _, u, rfl, hb', hy, by omega, by omega, to, fun v' H1 st1 hv => ?_⟩
        have tu1 := st1.tups
        have hx1 : StO C x ab dx fs _ H1 := hx.keep ((st1.sx _ _ (fun _ z => by cases z) hx.ins).trans hx.ins.symm)
        have hb1 : H1 ab = some (.lst vs) := st1.sx _ _ (fun _ z => by cases z) hb
        obtain ⟨q1, q2⟩ := StAt.set (S := S) hx1 hb1 (fms_mono hp tu1) hv
        refine ⟨_, rfl, x, C, dx, fs, rfl, hx1.ins, R.cl, R.nP, Nat.lt_trans hx.few (by decide), ?_⟩
        generalize upd H1 x (.ins C dx (putF ("part" : Str) v' fs)) = H2 at q1 q2
        have k2 : Keep [x, ab] H1 H2 := q2.sub (by simp)
        have to2 := to_keep st1.to hx1.ins hb1 k2
        have ka2 : KA [x, ab] H H2 := (KA.of_sx st1.sx).trans (ka_keep k2)
        obtain ⟨dx2, fs2, tv2, vs2, hx2, ht2, hb2, hp2⟩ := id q1
        obtain ⟨a2, y2, r2, rfl, h2⟩ := ht2.tup
        have stay : Q .non H2 := k _ S H2 ka2 to2 q1 hsm rfl
        refine ⟨_, rfl, x, C, dx2, fs2, _, rfl, hx2.ins, R.cl, R.nP, hx2.part, _, _, _, _, rfl, rfl, SqT.of h2, at0, rfl, _, rfl, ?_⟩
        rw [tag_form]
        cases hform : (b.fill u).isForm with
        | false => exact iteF (iteF stay)
        | true =>
          refine iteT ⟨_, rfl, x, dx2, fs2, rfl, hx2.ins, hx2.meth _ (by decide +kernel), x, ab, _, S, rfl, q1, hsm, hlen, _, rfl, ?_⟩
          cases hone : isOne S with
          | false => exact iteF stay
          | true =>
            cases S with
            | nil => cases hone
            | cons fm S1 =>
              refine iteT ⟨_, rfl, x, dx2, fs2, rfl, hx2.ins, hx2.meth _ (by decide +kernel), x, ab, _, fm, S1, rfl, q1, hsm.head, fun H3 k3 h3 => ?_⟩
              exact k _ S1 H3 (ka2.trans (ka_keep k3)) (to_keep to2 hx2.ins hb2 k3) h3 hsm.tail rfl
end
end NC
namespace NC
open PySem PySem.Spec PyProof.Rows L2
theorem drop_get {α : Type} {ps : List α} {i : Nat} {n : α} (h : ps[i]? = some n) : ps.drop i = n :: ps.drop (i + 1) := by
  obtain ⟨hl, e⟩ := List.getElem?_eq_some_iff.mp h
  rw [<- e]
  exact List.drop_eq_getElem_cons hl
section
variable {P : Program} {w : World} {K : PySem.W.Frag} {mg : Str -> Option Value} {base : Heap}
seal L2.PE L2.PA L2.PT L2.PS L2.PSs L2.PW L2.PG L2.PGs L2.PI L2.PO L2.OpR L2.UnR L2.CallR L2.TruR L2.IxR L2.SlR
abbrev s_stand_at : Stmt := top 20
theorem sc_stand_at : FnScope ["term", "path", "stand", "turn"] ["term", "path"] (defScope s_stand_at) := ⟨rfl, rfl, rfl, by decide +kernel, rfl, by decide +kernel, by decide +kernel⟩
inductive Sp_stand_atI (C hA CN : Addr) (vs : List V) (H : Hp) (Q : VK) (E : XK) : Prop where
  | mk (v : _) (t : _) (pl : _) (ps : _) (c1 : vs = [v, .ref pl]) (c2 : TermAt H v t) (c3 : t.deep <= 190) (c4 : H pl = some (.lst (ps.map V.int))) (c5 : ps.length <= 900) (c6 : (∀ x ab u S H', Same H H' -> H x = none -> H ab = none -> StAt C x ab hA u S H' -> downT t ps [] = some (u, S) -> u.isSpot = true -> Q (.ref x) H')) (c7 : ((∀ u S, downT t ps [] = some (u, S) -> u.isSpot = false) -> ∀ e H', Same H H' -> E (.ref e) (some CN) H'))
def sp_stand_at (C hA CN : Addr) : Sp := fun vs H Q E => Sp_stand_atI C hA CN vs H Q E
theorem ok_stand_at {f C hA CN : Addr} {fd : FuncData} (F : Fun K "stand_at" "stand_at" s_stand_at f fd) (R : StCls K C) (O_NoStep : ExcC "NoStep" CN mg base) (G_Stand : GK P w K mg base CX0 1 C "Stand" ["self", "term"] (sp_sinit C hA))
    (G_Stand_leads_on : GM P w K mg base CX0 1 C "leads_on" ["self", "turn"] (sp_leads C hA)) (G_Stand_go_down : GM P w K mg base CX0 1 C "go_down" ["self", "turn"] (sp_down C hA)) (G_is_spot : GF P w K mg base CX0 1 "is_spot" ["part"] sp_is_spot) :
    FnOk P w K mg base (CXE P w) 3 f fd ["term", "path"] (sp_stand_at C hA CN) := by
  refine okE F sc_stand_at (fun vs H Q E h => ?_) (fun cdv A outer s H vs Q E hr h => ?_)
  · obtain ⟨v, t, pl, ps, rfl, _⟩ := h
    rfl
  · obtain ⟨v, t, pl, ps, rfl, ht, hsz, hpl, hlen, k1, k2⟩ := h
    have hh : A.handled = none := hr.hd
    refine ⟨_, (pss_cons (ps_set (i := 2) sc_stand_at.nd rfl (Or.inl rfl) (pe_gk G_Stand (hr.mono (by decide)) rfl pass0 (pa_c (pv 0) pa_nil)))
      (pss_cons (ps_for ownE rfl (pi_list (pv 1)) (pg_name (i := 3) sc_stand_at.nd rfl (Or.inl rfl)) (pss_cons (ps_if (pt_not (pt_val (pe_gm (pv 2) R.cl G_Stand_leads_on (hr.mono (by decide)) pass0 (pa_c (pv 3) pa_nil)))) (pss_one (ps_raise O_NoStep hh rfl pe_str)) pss_nil)
      (pss_one (ps_expr (pe_gm (pv 2) R.cl G_Stand_go_down (hr.mono (by decide)) pass0 (pa_c (pv 3) pa_nil))))))
      (pss_cons (ps_if (pt_not (pt_val (pe_gf G_is_spot (hr.mono (by decide)) rfl pass0 (pa_c (pe_fld (pv 2) rfl) pa_nil)))) (pss_one (ps_raise O_NoStep hh rfl pe_str)) pss_nil)
      (pss_one (ps_ret (pv 2)))))), ?_⟩
    show (let V1_ : TS := _; let V2_ : TS := _; let V3_ : TS := tSeq (tIfS _ V2_ _) V1_; let V4_ : TS := _; let V5_ : TS := _; let V6_ : TS := tSeq (tIfS _ V5_ _) V4_; let V7_ : TS := tSeq (tFor _ _ V6_) V3_; tSeq _ V7_ _ _ _)
    intro V1_ V2_ V3_ V4_ V5_ V6_ V7_
    refine ⟨_, rfl, fun x dx nx ndx ne => ?_⟩
    have s0 : Same H (upd (upd H dx (.own x)) x (.ins C dx [])) := fun b o e => by
      rw [upd_ne (fun z => by rw [z, nx] at e; cases e), upd_ne (fun z => by rw [z, ndx] at e; cases e)]
      exact e
    refine ⟨x, dx, v, t, rfl, upd_same, ht.same s0, fun ab H2 nab hax hst hk => ⟨rfl, ?_⟩⟩
    have nab0 : H ab = none := s0.free nab
    have s2 : Same H H2 := fun b o e => hk b o (fun z => by rw [z, nx] at e; cases e) (s0 b o e)
    have nL : ∀ z ∈ [x, ab], H z = none := fun z hz => by
      rcases List.mem_cons.mp hz with e | hz
      · rw [e]; exact nx
      · rw [List.mem_singleton.mp hz]; exact nab0
    refine ⟨_, rfl, pl, rfl, ⟨_, SqL.of (s2 _ _ hpl)⟩, for_list (K := K) (a := pl) (xs := ps.map V.int) (fun i σ H' => ∃ u S x3, σ = [some v, some (.ref pl), some (.ref x), x3] /\ Same H H' /\ StAt C x ab hA u S H' /\ downT u (ps.drop i) S = downT t ps [] /\ u.deep <= 190 /\ SmallD 190 S /\ S.length <= i)
      ⟨t, [], _, rfl, s2, hst, rfl, hsz, (fun _ z => nomatch z), Nat.le_refl _⟩ (fun i σ H' _ ⟨_, _, _, _, e, _⟩ => SqL.of (e _ _ hpl)) ?_ ?_⟩
    · rintro i y σ H' hi ⟨u, S, x3, rfl, s3, hst3, hdn, hus, hsm, hSl⟩
      obtain ⟨n, hn, rfl⟩ : ∃ n, ps[i]? = some n /\ y = V.int n := by
        rw [List.getElem?_map] at hi
        cases e : ps[i]? with
        | none => rw [e] at hi; cases hi
        | some z => rw [e] at hi; exact ⟨z, rfl, (Option.some.inj hi).symm⟩
      have hil : i < ps.length := (List.getElem?_eq_some_iff.mp hn).1
      obtain ⟨dx3, fs3, tv3, vs3, hx3, ht3, hb3, hp3⟩ := id hst3
      rw [drop_get hn] at hdn
      have hdn : (if leads u n = true then downT (child u n) (ps.drop (i + 1)) (frame u n :: S) else none) = downT t ps [] := hdn
      refine ⟨_, rfl, x, dx3, fs3, rfl, hx3.ins, hx3.meth _ (by decide +kernel), _, rfl, x, ab, u, S, n, rfl, hst3, _, rfl, ?_⟩
      cases hl : leads u n with
      | false =>
        rw [hl, if_neg Bool.false_ne_true] at hdn
        exact iteT ⟨rfl, fun e => k2 (fun u' S' z => by rw [<- hdn] at z; cases z) e H' s3⟩
      | true =>
        rw [hl, if_pos rfl] at hdn
        refine iteF ⟨_, rfl, x, dx3, fs3, rfl, hx3.ins, hx3.meth _ (by decide +kernel), _, rfl, x, ab, u, S, n, rfl, hst3, hl, by omega, fun H4 k4 h4 => ?_⟩
        exact ⟨child u n, frame u n :: S, _, rfl, same_keep s3 k4 nL, h4, hdn, Nat.le_trans (child_deep u n) hus, hsm.cons (Nat.le_trans (frame_deep u n) hus), Nat.succ_le_succ hSl⟩
    · rintro σ H' ⟨u, S, x3, rfl, s3, hst3, hdn, hus, hsm, hSl⟩
      rw [List.length_map, List.drop_length] at hdn
      have hdn : some (u, S) = downT t ps [] := hdn
      obtain ⟨dx3, fs3, tv3, vs3, hx3, ht3, hb3, hp3⟩ := id hst3
      refine ⟨_, rfl, x, C, dx3, fs3, _, rfl, hx3.ins, R.cl, R.nP, hx3.part, _, u, rfl, ht3, _, rfl, ?_⟩
      cases hs : u.isSpot with
      | false => exact iteT ⟨rfl, fun e => k2 (fun u' S' z => by rw [<- hdn] at z; cases z; exact hs) e H' s3⟩
      | true => exact iteF ⟨_, rfl, k1 x ab u S H' s3 nx nab0 hst3 hdn.symm hs⟩
end
end NC
namespace NC
open PySem PySem.Spec PyProof.Rows L2
theorem n_of : ¬ (V.str "one" = V.str "form") := by decide +kernel
theorem n_rf : ¬ (V.str "other" = V.str "form") := by decide +kernel
theorem n_ro : ¬ (V.str "other" = V.str "one") := by decide +kernel
inductive OpAt (H : Hp) : V -> Fm Str -> Prop where
  | form {p : Addr} {u : V} (h : H p = some (.tup [.str "form", u])) : OpAt H (.ref p) .form
  | one {p q : Addr} {x u : V} {t : Tm} (h : H p = some (.tup [.str "one", .ref q])) (hq : H q = some (.tup [.str "call", x, u])) (hu : TermAt H u t) : OpAt H (.ref p) (.one t)
  | other {p q : Addr} {x u : V} {t : Tm} (h : H p = some (.tup [.str "other", .ref q])) (hq : H q = some (.tup [.str "call", u, x])) (hu : TermAt H u t) : OpAt H (.ref p) (.other t)
theorem OpAt.mono {H H' : Hp} {v : V} {f : Fm Str} (h : OpAt H v f) (k : Tups H H') : OpAt H' v f := by
  cases h with
  | form h => exact .form (k _ _ h)
  | one h hq hu => exact .one (k _ _ h) (k _ _ hq) (hu.mono k)
  | other h hq hu => exact .other (k _ _ h) (k _ _ hq) (hu.mono k)
theorem ops_mono {H H' : Hp} {vs : List V} {S : List (Fm Str)} (h : Paired (OpAt H) vs S) (k : Tups H H') : Paired (OpAt H') vs S := paired_imp (fun _ _ q => q.mono k) h
section
variable {P : Program} {w : World} {K : PySem.W.Frag} {mg : Str -> Option Value} {base : Heap}
seal L2.PE L2.PA L2.PT L2.PS L2.PSs L2.PW L2.PG L2.PGs L2.PI L2.PO L2.OpR L2.UnR L2.CallR L2.TruR L2.IxR L2.SlR
abbrev s__law_stepped : Stmt := top 35
theorem sc__law_stepped : FnScope ["_law_term", "_law_path", "_law_opened", "_law_part", "_law_turn", "_law_made", "_law_pair"] ["_law_term", "_law_path"] (defScope s__law_stepped) := ⟨rfl, rfl, rfl, by decide +kernel, rfl, by decide +kernel, by decide +kernel⟩
inductive InvStpI (H : Hp) (v : V) (t : Tm) (ps : List Int) (pl op : Addr) (i : Nat) (σ : L2.St) (H' : Hp) : Prop where
  | mk (u : _) (S : _) (uv : _) (xs : _) (x4 : _) (c1 : σ = [some v, some (.ref pl), some (.ref op), some uv, x4, none, none]) (c2 : Same H H') (c3 : H' op = some (.lst xs)) (c4 : Paired (OpAt H') xs S.reverse) (c5 : TermAt H' uv u) (c6 : downT u (ps.drop i) S = downT t ps []) (c7 : u.size <= 100000) (c8 : Small 100000 S) (c9 : S.length <= i)
def InvStp (H : Hp) (v : V) (t : Tm) (ps : List Int) (pl op : Addr) (i : Nat) (σ : L2.St) (H' : Hp) : Prop := InvStpI H v t ps pl op i σ H'
inductive Sp_steppedI (vs : List V) (H : Hp) (Q : VK) : Prop where
  | mk (v : _) (t : _) (pl : _) (ps : _) (c1 : vs = [v, .ref pl]) (c2 : TermAt H v t) (c3 : t.size <= 100000) (c4 : H pl = some (.lst (ps.map V.int))) (c5 : ps.length <= 900) (c6 : (∀ r, stepT t ps = some r -> ∀ v' H', Same H H' -> TermAt H' v' r -> Q v' H')) (c7 : (stepT t ps = none -> ∀ H', Same H H' -> Q .non H'))
def sp_stepped : Sp := fun vs H Q u3_ => Sp_steppedI vs H Q
theorem ok_stepped {f : Addr} {fd : FuncData} (F : Fun K "_law_stepped" "_law_stepped" s__law_stepped f fd) (N_ : NoNames mg) (G__law_stuffed : GF P w K mg base CX0 3 "_law_stuffed" ["_law_body", "_law_given"] sp_lstuffed) :
    FnOk P w K mg base CX0 4 f fd ["_law_term", "_law_path"] sp_stepped := by
  refine F.ok sc__law_stepped (fun vs H Q E h => ?_) (fun cdv A outer s H vs Q E hr h => ?_)
  · obtain ⟨v, t, pl, ps, rfl, _⟩ := h
    rfl
  · obtain ⟨v, t, pl, ps, rfl, ht, hsz, hpl, hlen, k1, k2⟩ := h
    refine ⟨_, (pss_cons (ps_set (i := 2) sc__law_stepped.nd rfl (Or.inl rfl) (pLst pa_nil))
      (pss_cons (ps_set (i := 3) sc__law_stepped.nd rfl (Or.inl rfl) (pv 0))
      (pss_cons (ps_for PassesOwn.never rfl (pi_list (pv 1)) (pg_name (i := 4) sc__law_stepped.nd rfl (Or.inl rfl)) (pss_one (ps_if (PW.pt (pw_and (pt_cmpR op_eq (pe_ix ix_tup (pv 3) pe_int (fun _ _ => rfl)) pe_str (nomark _)) (pw_and1 (pt_cmpR op_eq (pv 4) pe_int (nomark _))))) (pss_cons (ps_expr (pApp (pv 2) (pTup (pa_c pe_str (pa_c (pv 3) pa_nil)))))
      (pss_one (ps_set (i := 3) sc__law_stepped.nd rfl (Or.inl rfl) (pe_ix ix_tup (pv 3) pe_int (fun _ _ => rfl))))) (pss_one (ps_if (PW.pt (pw_and (pt_cmpR op_eq (pe_ix ix_tup (pv 3) pe_int (fun _ _ => rfl)) pe_str (nomark _)) (pw_and1 (PW.pt (pw_or (pt_cmpR op_eq (pv 4) pe_int (nomark _)) (pw_or1 (pt_cmpR op_eq (pv 4) pe_int (nomark _)))))))) (pss_cons (ps_expr (pApp (pv 2) (pTup (pa_c (pe_ix ix_list (pLst (pa_c pe_str (pa_c pe_str pa_nil))) (pv 4) (fun _ _ => rfl)) (pa_c (pv 3) pa_nil)))))
      (pss_one (ps_set (i := 3) sc__law_stepped.nd rfl (Or.inl rfl) (pe_ix ix_tup (pv 3) (pe_op op_add pe_int (pv 4)) (fun _ _ => rfl))))) (pss_one (ps_ret pe_non)))))))
      (pss_cons (ps_if (PW.pt (pw_or (pt_cmpR op_ne (pe_ix ix_tup (pv 3) pe_int (fun _ _ => rfl)) pe_str (nomark _)) (pw_or1 (pt_cmpR op_ne (pe_ix ix_tup (pe_ix ix_tup (pv 3) pe_int (fun _ _ => rfl)) pe_int (fun _ _ => rfl)) pe_str (nomark _))))) (pss_one (ps_ret pe_non)) pss_nil)
      (pss_cons (ps_set (i := 5) sc__law_stepped.nd rfl (Or.inl rfl) (pe_gf G__law_stuffed (hr.mono (by decide)) rfl pass0 (pa_c (pe_ix ix_tup (pe_ix ix_tup (pv 3) pe_int (fun _ _ => rfl)) pe_int (fun _ _ => rfl)) (pa_c (pe_ix ix_tup (pv 3) pe_int (fun _ _ => rfl)) pa_nil))))
      (pss_cons (ps_for PassesOwn.never rfl (pi_rev rfl N_.reversed (pv 2)) (pg_name (i := 6) sc__law_stepped.nd rfl (Or.inl rfl)) (pss_one (ps_if (pt_cmpR op_eq (pe_ix ix_tup (pv 6) pe_int (fun _ _ => rfl)) pe_str (nomark _)) (pss_one (ps_set (i := 5) sc__law_stepped.nd rfl (Or.inl rfl) (pTup (pa_c pe_str (pa_c (pv 5) pa_nil))))) (pss_one (ps_if (pt_cmpR op_eq (pe_ix ix_tup (pv 6) pe_int (fun _ _ => rfl)) pe_str (nomark _)) (pss_one (ps_set (i := 5) sc__law_stepped.nd rfl (Or.inl rfl) (pTup (pa_c pe_str (pa_c (pv 5) (pa_c (pe_ix ix_tup (pe_ix ix_tup (pv 6) pe_int (fun _ _ => rfl)) pe_int (fun _ _ => rfl)) pa_nil)))))) (pss_one (ps_set (i := 5) sc__law_stepped.nd rfl (Or.inl rfl) (pTup (pa_c pe_str (pa_c (pe_ix ix_tup (pe_ix ix_tup (pv 6) pe_int (fun _ _ => rfl)) pe_int (fun _ _ => rfl)) (pa_c (pv 5) pa_nil)))))))))))
      (pss_one (ps_ret (pv 5))))))))), ?_⟩
    show (let V1_ : TS := _; let V2_ : TS := _; let V3_ : TS := _; let V4_ : TS := _; let V5_ : TS := tIfS _ V3_ V4_; let V6_ : TS := tIfS _ V2_ V5_; let V7_ : TS := tSeq (tFor _ _ V6_) V1_; let V8_ : TS := tSeq _ V7_; let V9_ : TS := _; let V10_ : TS := tSeq (tIfS _ V9_ _) V8_; let V11_ : TS := _; let V12_ : TS := tSeq _ V11_; let V13_ : TS := _; let V14_ : TS := tSeq _ V13_; let V15_ : TS := _; let V16_ : TS := tIfS _ V14_ V15_; let V17_ : TS := tIfS _ V12_ V16_; let V18_ : TS := tSeq (tFor _ _ V17_) V10_; let V19_ : TS := tSeq _ V18_; tSeq _ V19_ _ _ _)
    intro V1_ V2_ V3_ V4_ V5_ V6_ V7_ V8_ V9_ V10_ V11_ V12_ V13_ V14_ V15_ V16_ V17_ V18_ V19_
    refine ⟨small' (by simp), fun op H1 nop s1 hop1 => ⟨_, rfl, ?_⟩⟩
    refine ⟨_, rfl, pl, rfl, ⟨_, SqL.of (s1 _ _ hpl)⟩, for_list (K := K) (a := pl) (xs := ps.map V.int) (InvStp H v t ps pl op) ⟨t, [], v, [], _, rfl, s1, hop1, .nil, ht.same s1, rfl, hsz, (fun _ z => nomatch z), Nat.le_refl _⟩
      (fun i σ H' _ ⟨_, _, _, _, _, _, e, _, _, _, _, _, _, _⟩ => SqL.of (e _ _ hpl)) ?_ ?_⟩
    · rintro i y σ H' hi ⟨u, S, uv, xs, x4, rfl, s3, hop3, hxs, hu3, hdn, hus, hsm, hSl⟩
      obtain ⟨n, hn, rfl⟩ : ∃ n, ps[i]? = some n /\ y = V.int n := by
        rw [List.getElem?_map] at hi
        cases e : ps[i]? with
        | none => rw [e] at hi; cases hi
        | some z => rw [e] at hi; exact ⟨z, rfl, (Option.some.inj hi).symm⟩
      have hil : i < ps.length := (List.getElem?_eq_some_iff.mp hn).1
      have hxl : xs.length <= 900 := by rw [Paired.length hxs, List.length_reverse]; omega
      rw [drop_get hn] at hdn
      have hdn : (if leads u n = true then downT (child u n) (ps.drop (i + 1)) (frame u n :: S) else none) = downT t ps [] := hdn
      have stop : leads u n = false -> Q .non H' := fun hl => by
        rw [hl, if_neg Bool.false_ne_true] at hdn
        exact k2 (by unfold stepT; rw [<- hdn]; rfl) H' s3
      have fin : ∀ {p : Addr} {H2 H3 : Hp} {c : V}, leads u n = true -> Same H' H2 -> OpAt H2 (.ref p) (frame u n) -> Keep [op] H2 H3 -> H3 op = some (.lst (xs ++ [.ref p])) -> TermAt H2 c (child u n) -> ∀ x4, InvStp H v t ps pl op (i + 1) [some v, some (.ref pl), some (.ref op), some c, x4, none, none] H3 := by
        intro p H2 H3 c hl s2 ho k3 hop4 hc x4
        rw [hl, if_pos rfl] at hdn
        have hop2 := s2 _ _ hop3
        have tu := k3.tup1 hop2
        refine ⟨child u n, frame u n :: S, c, _, x4, rfl, same_keep1 (s3.trans s2) k3 (by exact nop), hop4, ?_, hc.mono tu, hdn, Nat.le_trans (child_size u n) hus, hsm.cons (Nat.le_trans (frame_sib u n) hus), Nat.succ_le_succ hSl⟩
        rw [List.reverse_cons]
        exact paired_snoc (ho.mono tu) (ops_mono (ops_mono hxs (.of_same s2)) tu)
      cases hu3 with
      | name h => exact ⟨_, rfl, _, _, _, _, rfl, rfl, SqT.of h, at0, rfl, _, rfl, ifF n_nf (iteF ⟨_, rfl, _, _, _, _, rfl, rfl, SqT.of h, at0, rfl, _, rfl, ifF n_nc (iteF (stop rfl))⟩)⟩
      | place h => exact ⟨_, rfl, _, _, _, _, rfl, rfl, SqT.of h, at0, rfl, _, rfl, ifF n_pf (iteF ⟨_, rfl, _, _, _, _, rfl, rfl, SqT.of h, at0, rfl, _, rfl, ifF n_pc (iteF (stop rfl))⟩)⟩
      | @form a1 v1 b1 h hb =>
        refine ⟨_, rfl, _, _, _, _, rfl, rfl, SqT.of h, at0, rfl, _, rfl, ifT rfl ⟨_, rfl, rfl, _, rfl, ?_⟩⟩
        by_cases h0 : n = 0
        · subst h0
          refine ifT rfl ?_
          refine ⟨_, rfl, Or.inl ⟨rfl, _, SqL.of hop3⟩, _, rfl, small' (by show 2 <= 1000000; decide), fun p H2 np s2 h2 => ⟨_, _, _, rfl, rfl, s2 _ _ hop3, small (by omega), fun H3 k3 hop4 => ?_⟩⟩
          refine ⟨_, rfl, _, _, _, _, rfl, rfl, SqT.of (k3.tup1 (s2 _ _ hop3) _ _ (s2 _ _ h)), at1, ?_⟩
          exact fin rfl s2 (.form h2) k3 hop4 (hb.same s2) _
        · refine ifF (fun z => h0 (V.int.inj z)) ⟨_, rfl, _, _, _, _, rfl, rfl, SqT.of h, at0, rfl, _, rfl, ifF n_fc (iteF (stop ?_))⟩
          show decide (n = 0) = false
          exact decide_eq_false h0
      | @call a1 v1 u1 t1 t2 h hb1 hb2 =>
        refine ⟨_, rfl, _, _, _, _, rfl, rfl, SqT.of h, at0, rfl, _, rfl, ifF n_cf (iteF ⟨_, rfl, _, _, _, _, rfl, rfl, SqT.of h, at0, rfl, _, rfl, ifT rfl ⟨_, rfl, rfl, _, rfl, ?_⟩⟩)⟩
        by_cases h0 : n = 0
        · subst h0
          refine ifT rfl (iteT ?_)
          refine ⟨_, rfl, Or.inl ⟨rfl, _, SqL.of hop3⟩, small' (by show 2 <= 1000000; decide), fun pm H2 npm s2 hpm => ⟨_, rfl, _, _, _, _, rfl, rfl, SqL.of hpm, at0, _, rfl, small' (by show 2 <= 1000000; decide), fun p H3 np s4 h4 => ⟨_, _, _, rfl, rfl, s4 _ _ (s2 _ _ hop3), small (by omega), fun H4 k4 hop4 => ?_⟩⟩⟩
          have h3 := (s2.trans s4) _ _ h
          refine ⟨_, rfl, _, rfl, _, _, rfl, rfl, _, _, _, _, rfl, rfl, SqT.of (k4.tup1 (s4 _ _ (s2 _ _ hop3)) _ _ h3), at1, ?_⟩
          exact fin rfl (s2.trans s4) (.one h4 h3 (hb2.same (s2.trans s4))) k4 hop4 (hb1.same (s2.trans s4)) _
        · refine ifF (fun z => h0 (V.int.inj z)) ⟨_, rfl, rfl, _, rfl, ?_⟩
          by_cases h1 : n = 1
          · subst h1
            refine ifT rfl ?_
            refine ⟨_, rfl, Or.inl ⟨rfl, _, SqL.of hop3⟩, small' (by show 2 <= 1000000; decide), fun pm H2 npm s2 hpm => ⟨_, rfl, _, _, _, _, rfl, rfl, SqL.of hpm, at1, _, rfl, small' (by show 2 <= 1000000; decide), fun p H3 np s4 h4 => ⟨_, _, _, rfl, rfl, s4 _ _ (s2 _ _ hop3), small (by omega), fun H4 k4 hop4 => ?_⟩⟩⟩
            have h3 := (s2.trans s4) _ _ h
            refine ⟨_, rfl, _, rfl, _, _, rfl, rfl, _, _, _, _, rfl, rfl, SqT.of (k4.tup1 (s4 _ _ (s2 _ _ hop3)) _ _ h3), at2, ?_⟩
            exact fin rfl (s2.trans s4) (.other h4 h3 (hb1.same (s2.trans s4))) k4 hop4 (hb2.same (s2.trans s4)) _
          · refine ifF (fun z => h1 (V.int.inj z)) (stop ?_)
            show (decide (n = 0) || decide (n = 1)) = false
            rw [decide_eq_false h0, decide_eq_false h1]
            rfl
    · rintro σ H' ⟨u, S, uv, xs, x4, rfl, s3, hop3, hxs, hu3, hdn, hus, hsm, hSl⟩
      rw [List.length_map, List.drop_length] at hdn
      have hdn : some (u, S) = downT t ps [] := hdn
      have stop : doneT (some (u, S)) = none -> Q .non H' := fun hl => k2 (by unfold stepT; rw [<- hdn]; exact hl) H' s3
      cases hu3 with
      | name h => exact ⟨_, rfl, _, _, _, _, rfl, rfl, SqT.of h, at0, rfl, _, rfl, ifNT n_nc (iteT (stop rfl))⟩
      | place h => exact ⟨_, rfl, _, _, _, _, rfl, rfl, SqT.of h, at0, rfl, _, rfl, ifNT n_pc (iteT (stop rfl))⟩
      | form h _ => exact ⟨_, rfl, _, _, _, _, rfl, rfl, SqT.of h, at0, rfl, _, rfl, ifNT n_fc (iteT (stop rfl))⟩
      | @call a1 v1 u1 t1 t2 h hb1 hb2 =>
        obtain ⟨a2, y2, r2, rfl, h2⟩ := hb1.tup
        refine ⟨_, rfl, _, _, _, _, rfl, rfl, SqT.of h, at0, rfl, _, rfl, ifNF rfl ⟨_, rfl, _, _, _, _, rfl, rfl, SqT.of h, at1, _, _, _, _, rfl, rfl, SqT.of h2, at0, rfl, _, rfl, ?_⟩⟩
        cases t1 with
        | name _ => exact ifNT n_nf (stop rfl)
        | place _ => exact ifNT n_pf (stop rfl)
        | call _ _ => exact ifNT n_cf (stop rfl)
        | form b =>
          refine ifNF rfl ?_
          cases hb1 with
          | form h3 hb3 =>
          have hus' : b.size + 1 + t2.size + 1 <= 100000 := hus
          refine ⟨_, rfl, _, _, _, _, rfl, rfl, SqT.of h, at1, _, _, _, _, rfl, rfl, SqT.of h3, at1, _, rfl, _, _, _, _, rfl, rfl, SqT.of h, at2, _, b, _, t2, rfl, hb3, hb2, by omega, by omega, fun mv H4 s4 hm => ?_⟩
          have hop4 := s4 _ _ hop3
          have hxr : Paired (OpAt H4) xs.reverse S := by have := paired_rev (ops_mono hxs (.of_same s4)); rwa [List.reverse_reverse] at this
          refine ⟨_, rfl, op, xs, rfl, SqL.of hop4, for_rev (K := K) (a := op) (xs := xs) (fun i σ H' => ∃ mv m x6, σ = [some v, some (.ref pl), some (.ref op), some (.ref a1), x4, some mv, x6] /\ Same H4 H' /\ TermAt H' mv m /\ plugS (S.drop i) m = plugS S (b.fill t2))
            ⟨mv, b.fill t2, _, rfl, .refl _, hm, rfl⟩ (fun i σ H' _ ⟨_, _, _, _, e, _⟩ => SqL.of (e _ _ hop4)) ?_ ?_⟩
          · rintro i x σ H5 hi ⟨mv5, m5, x6, rfl, s5, hm5, hp5⟩
            obtain ⟨fm, hfm, hop⟩ := paired_get hxr hi
            rw [drop_get hfm] at hp5
            have hop5 := hop.mono (.of_same s5)
            have fin : ∀ {p : Addr} {m : Tm} {H6 : Hp}, Same H5 H6 -> TermAt H6 (.ref p) m -> m = plugF fm m5 -> ∀ x6, ∃ mv m x6', ([some v, some (.ref pl), some (.ref op), some (.ref a1), x4, some (.ref p), x6] : L2.St) = [some v, some (.ref pl), some (.ref op), some (.ref a1), x4, some mv, x6'] /\ Same H4 H6 /\ TermAt H6 mv m /\ plugS (S.drop (i + 1)) m = plugS S (b.fill t2) :=
              fun s6 h6 e x6 => ⟨_, _, _, rfl, s5.trans s6, h6, by rw [e]; exact hp5⟩
            cases hop5 with
            | form h =>
              refine ⟨_, rfl, _, _, _, _, rfl, rfl, SqT.of h, at0, rfl, _, rfl, ifT rfl ⟨_, rfl, small' (by show 2 <= 1000000; decide), fun p H6 np s6 h6 => ?_⟩⟩
              exact fin s6 (.form h6 (hm5.same s6)) rfl _
            | one h hq hu =>
              refine ⟨_, rfl, _, _, _, _, rfl, rfl, SqT.of h, at0, rfl, _, rfl, ifF n_of ⟨_, rfl, _, _, _, _, rfl, rfl, SqT.of h, at0, rfl, _, rfl, ifT rfl ⟨_, rfl, _, rfl, _, _, _, _, rfl, rfl, SqT.of h, at1, _, _, _, _, rfl, rfl, SqT.of hq, at2, small' (by show 3 <= 1000000; decide), fun p H6 np s6 h6 => ?_⟩⟩⟩
              exact fin s6 (.call h6 (hm5.same s6) (hu.same s6)) rfl _
            | other h hq hu =>
              refine ⟨_, rfl, _, _, _, _, rfl, rfl, SqT.of h, at0, rfl, _, rfl, ifF n_rf ⟨_, rfl, _, _, _, _, rfl, rfl, SqT.of h, at0, rfl, _, rfl, ifF n_ro ⟨_, rfl, _, _, _, _, rfl, rfl, SqT.of h, at1, _, _, _, _, rfl, rfl, SqT.of hq, at1, _, rfl, small' (by show 3 <= 1000000; decide), fun p H6 np s6 h6 => ?_⟩⟩⟩
              exact fin s6 (.call h6 (hu.same s6) (hm5.same s6)) rfl _
          · rintro σ H5 ⟨mv5, m5, x6, rfl, s5, hm5, hp5⟩
            have hl : xs.length = S.length := by rw [Paired.length hxs, List.length_reverse]
            rw [hl, List.drop_length] at hp5
            have hp5 : m5 = plugS S (b.fill t2) := hp5
            refine ⟨_, rfl, k1 _ ?_ _ H5 ((s3.trans s4).trans s5) hm5⟩
            unfold stepT
            rw [<- hdn, hp5]
            rfl
end
end NC
namespace NC
open PySem PySem.Spec PyProof.Rows L2
theorem cndP1 : (["path"] : List Str).Nodup := by decide +kernel
theorem cndP2 : (["path", "spot", "deep"] : List Str).Nodup := by decide +kernel
theorem vis2 {sc : Scope} {x y : Str} (h1 : Vis sc x) (h2 : Vis sc y) : ∀ z ∈ [x, y], Vis sc z := fun z hz => by
  rcases List.mem_cons.mp hz with e | e
  · rw [e]; exact h1
  · rw [List.mem_singleton.mp e]; exact h2
theorem spot_down {t : Tm} {p : List Int} : p ∈ t.spots ↔ ∃ u S, downT t p [] = some (u, S) /\ u.isSpot = true := by
  constructor
  · intro h
    obtain ⟨r, e⟩ := step_some h
    rw [<- stepT_eq] at e
    unfold stepT at e
    cases hd : downT t p [] with
    | none => rw [hd] at e; cases e
    | some z =>
      obtain ⟨u, S⟩ := z
      rw [hd] at e
      refine ⟨u, S, rfl, ?_⟩
      cases u with
      | name _ => cases e
      | place _ => cases e
      | form _ => cases e
      | call a u =>
        cases a with
        | form _ => rfl
        | _ => cases e
  · rintro ⟨u, S, hd, hs⟩
    refine Classical.byContradiction fun h => ?_
    have e := step_none t p h
    rw [<- stepT_eq] at e
    unfold stepT at e
    rw [hd] at e
    cases u with
    | name _ => cases hs
    | place _ => cases hs
    | form _ => cases hs
    | call a u =>
      cases a with
      | form _ => cases e
      | _ => cases hs
theorem copy_W {K K' : PySem.W.Frag} {Hb : Hp} {a D : Addr} {xs : List V} {ps : List (List Int)} (ha : SqL K Hb a xs) (hp : Paired (PathV Hb) xs ps) (hl : xs.length <= 1000) (nD : Hb D = none) :
    ∃ W : Nat -> L2.St -> Hp -> Prop, W 0 [none] (upd Hb D (.lst [])) /\ (∀ i σ' H', i <= xs.length -> W i σ' H' -> SqL K H' a xs) /\
      (∀ i x σ' H', xs[i]? = some x -> W i σ' H' -> (∃ x0, σ' = [x0]) /\ ∃ p zs, x = .ref p /\ (SqL K' H' p zs ∨ SqT K' H' p zs) /\ ∀ l H3, H' l = none -> Same H' H3 -> H3 l = some (.lst zs) -> ∃ ys, H3 D = some (.lst ys) /\ ys.length < sizeLine /\ W (i + 1) [some x] (upd H3 D (.lst (ys ++ [.ref l])))) /\
      ∀ σ' H', W xs.length σ' H' -> ∃ ys, Same Hb H' /\ H' D = some (.lst ys) /\ Paired (PathV H') ys ps := by
  refine ⟨fun i σ' H' => (∃ x0, σ' = [x0]) /\ Same Hb H' /\ i <= xs.length /\ ∃ ys, H' D = some (.lst ys) /\ Paired (PathN [D] H') ys (ps.take i), ⟨⟨none, rfl⟩, same_new nD, Nat.zero_le _, [], upd_same, .nil⟩, ?_, ?_, ?_⟩
  · rintro i σ' H' _ ⟨_, sm, _⟩
    exact sqlN ha sm
  · rintro i x σ' H' hi ⟨hσ, sm, hil, ys, hD, hys⟩
    obtain ⟨p, ep, b, rfl, hb⟩ := paired_get hp hi
    have hlt : i < xs.length := (List.getElem?_eq_some_iff.mp hi).1
    refine ⟨hσ, b, p.map V.int, rfl, .inl (SqL.of (sm _ _ hb)), fun l H3 nl s3 hl3 => ⟨ys, s3 _ _ hD, ?_, ⟨_, rfl⟩, ?_, hlt, _, upd_same, ?_⟩⟩
    · have h1 := Paired.length hys
      rw [List.length_take] at h1
      exact small (by omega)
    · intro c o q
      rw [upd_ne fun z => by rw [z, nD] at q; cases q]
      exact s3 _ _ (sm _ _ q)
    · have nlD : l ≠ D := fun z => by rw [z, hD] at nl; cases nl
      have kp : Keep [D] H' (upd H3 D (.lst (ys ++ [.ref l]))) := fun c o hc q => by
        rw [upd_ne fun z => hc (List.mem_singleton.mpr z)]
        exact s3 _ _ q
      rw [List.take_add_one, ep]
      refine paired_snoc ?_ (paired_imp (fun _ _ h => PathN.keep h kp) hys)
      exact ⟨l, rfl, fun z => nlD (List.mem_singleton.mp z), by rw [upd_ne nlD]; exact hl3⟩
  · rintro σ' H' ⟨_, sm, _, ys, hD, hys⟩
    rw [Paired.length hp, List.take_length] at hys
    exact ⟨ys, sm, hD, paired_imp (fun _ _ h => h.path) hys⟩
section
variable {P : Program} {w : World} {K : PySem.W.Frag} {mg : Str -> Option Value} {base : Heap}
seal L2.PE L2.PA L2.PT L2.PS L2.PSs L2.PW L2.PG L2.PGs L2.PI L2.PO L2.OpR L2.UnR L2.CallR L2.TruR L2.IxR L2.SlR
abbrev s_check : Stmt := top 22
theorem sc_check : FnScope ["term", "paths", "path"] ["term", "paths"] (defScope s_check) := ⟨rfl, rfl, rfl, by decide +kernel, rfl, by decide +kernel, by decide +kernel⟩
abbrev s_walked : Stmt := top 23
theorem sc_walked : FnScope ["term", "paths"] ["term", "paths"] (defScope s_walked) := ⟨rfl, rfl, rfl, by decide +kernel, rfl, by decide +kernel, by decide +kernel⟩
abbrev s_moved : Stmt := top 25
theorem sc_moved : FnScope ["paths", "spot", "body", "deep", "found", "copied", "place"] ["paths", "spot", "body"] (defScope s_moved) := ⟨rfl, rfl, rfl, by decide +kernel, rfl, by decide +kernel, by decide +kernel⟩
abbrev s_behind : Stmt := top 26
theorem sc_behind : FnScope ["term", "paths", "done", "left", "spot", "stand"] ["term", "paths", "done"] (defScope s_behind) := ⟨rfl, rfl, rfl, by decide +kernel, rfl, by decide +kernel, by decide +kernel⟩
abbrev s_at_once : Stmt := top 27
theorem sc_at_once : FnScope ["term", "paths"] ["term", "paths"] (defScope s_at_once) := ⟨rfl, rfl, rfl, by decide +kernel, rfl, by decide +kernel, by decide +kernel⟩
inductive Sp_checkI (CN : Addr) (vs : List V) (H : Hp) (Q : VK) (E : XK) : Prop where
  | mk (v : V) (t : Tm) (pl : Addr) (rs : List V) (ps : List (List Int)) (c1 : vs = [v, .ref pl]) (c2 : TermAt H v t) (c3 : t.deep <= 190) (c4 : H pl = some (.lst rs)) (c5 : Paired (PathV H) rs ps) (c6 : ∀ p ∈ ps, p.length <= 900) (c7 : (∀ p ∈ ps, p ∈ t.spots) -> ∀ H', Same H H' -> Q .non H') (c8 : (¬ ∀ p ∈ ps, p ∈ t.spots) -> ∀ e H', Same H H' -> E (.ref e) (some CN) H')
def sp_check (CN : Addr) : Sp := fun vs H Q E => Sp_checkI CN vs H Q E
theorem ok_check {f C hA CN : Addr} {fd : FuncData} (F : Fun K "check" "check" s_check f fd) (G_stand_at : GF P w K mg base (CXE P w) 3 "stand_at" ["term", "path"] (sp_stand_at C hA CN)) : FnOk P w K mg base (CXE P w) 4 f fd ["term", "paths"] (sp_check CN) := by
  refine okE F sc_check (fun vs H Q E h => ?_) (fun cdv A outer s H vs Q E hr h => ?_)
  · obtain ⟨v, t, pl, rs, ps, rfl, _⟩ := h
    rfl
  · obtain ⟨v, t, pl, rs, ps, rfl, ht, hd, hpl, hp, hlen, k, kE⟩ := h
    refine ⟨_, (pss_one (ps_for ownE rfl (pi_list (pv 1)) (pg_name (i := 2) sc_check.nd rfl (Or.inl rfl)) (pss_one (ps_expr (pe_gf G_stand_at (hr.mono (by decide)) rfl passE (pa_c (pv 0) (pa_c (pv 2) pa_nil))))))), ?_⟩
    show (let V1_ : TS := _; tFor _ _ V1_ _ _ _)
    intro V1_
    refine ⟨_, rfl, pl, rfl, ⟨_, SqL.of hpl⟩, for_list (K := K) (a := pl) (xs := rs) (fun i σ H' => ∃ x2, σ = [some v, some (.ref pl), x2] /\ Same H H' /\ ∀ p ∈ ps.take i, p ∈ t.spots) ⟨none, rfl, fun _ _ h => h, fun p hp => nomatch hp⟩ (fun i σ H' _ ⟨_, _, e, _⟩ => SqL.of (e _ _ hpl)) ?_ ?_⟩
    · rintro i y σ H' hi ⟨x2, rfl, s1, hok⟩
      obtain ⟨p, hp2, b, rfl, hb⟩ := paired_get hp hi
      refine ⟨_, rfl, _, rfl, v, t, b, p, rfl, ht.same s1, hd, s1 _ _ hb, hlen p (List.mem_of_getElem? hp2), fun x ab u S H2 s2 nx nab hst hdn hsp => ?_, fun hno e H2 s2 => ?_⟩
      · refine ⟨_, rfl, s1.trans s2, fun q hq => ?_⟩
        rw [List.take_add_one, hp2] at hq
        rcases List.mem_append.mp hq with hq | hq
        · exact hok q hq
        · have : q = p := by simpa using hq
          rw [this]
          exact spot_down.mpr ⟨u, S, hdn, hsp⟩
      · refine kE (fun hall => ?_) e H2 (s1.trans s2)
        obtain ⟨u, S, h1, h2⟩ := spot_down.mp (hall p (List.mem_of_getElem? hp2))
        rw [hno u S h1] at h2
        cases h2
    · rintro σ H' ⟨x2, rfl, s1, hok⟩
      rw [Paired.length hp, List.take_length] at hok
      exact k hok H' s1
inductive Sp_walkedI (CN : Addr) (vs : List V) (H : Hp) (Q : VK) (E : XK) : Prop where
  | mk (v : V) (t : Tm) (pl : Addr) (rs : List V) (ps : List (List Int)) (c1 : vs = [v, .ref pl]) (c2 : TermAt H v t) (c3 : t.deep <= 190) (c4 : H pl = some (.lst rs)) (c5 : Paired (PathV H) rs ps) (c6 : ∀ p ∈ ps, p.length <= 900) (c7 : rs.length < 64) (c8 : (∀ p ∈ ps, p ∈ t.spots) -> ∀ l rs' ps' H', Same H H' -> H l = none -> H' l = some (.lst rs') -> Paired (PathV H') rs' ps' -> ps'.Perm ps -> ps'.Pairwise (fun a b => b.length <= a.length) -> Q (.ref l) H') (c9 : (¬ ∀ p ∈ ps, p ∈ t.spots) -> ∀ e H', Same H H' -> E (.ref e) (some CN) H')
def sp_walked (CN : Addr) : Sp := fun vs H Q E => Sp_walkedI CN vs H Q E
theorem ok_walked {f CN : Addr} {fd : FuncData} (F : Fun K "walked" "walked" s_walked f fd) (N_ : NoNames mg) (G_check : GF P w K mg base (CXE P w) 4 "check" ["term", "paths"] (sp_check CN)) : FnOk P w K mg base (CXE P w) 5 f fd ["term", "paths"] (sp_walked CN) := by
  refine okE F sc_walked (fun vs H Q E h => ?_) (fun cdv A outer s H vs Q E hr h => ?_)
  · obtain ⟨v, t, pl, rs, ps, rfl, _⟩ := h
    rfl
  · obtain ⟨v, t, pl, rs, ps, rfl, ht, hd, hpl, hp, hlen, h64, k, kE⟩ := h
    refine ⟨_, (pss_cons (ps_expr (pe_gf G_check (hr.mono (by decide)) rfl passE (pa_c (pv 0) (pa_c (pv 1) pa_nil))))
      (pss_one (ps_ret (pe_compC (N := ["path"]) (fs := []) (js := []) (cl := []) rfl ⟨rfl, cndP1, by decide +kernel, by decide +kernel, by decide +kernel, by decide +kernel⟩ rfl clos0 rfl (fun x hx => nomatch hx) (pe_sortL rfl N_.sorted rfl N_.len (pv 1)) (fun _ _ _ => ⟨(pg_name (i := 0) cndP1 rfl (Or.inl rfl)), pf_nil, (pCT call_lo (by rfl) N_.list boot_list (pa_c (pv 0) pa_nil))⟩))))), ?_⟩
    show (let V1_ : TS := _; tSeq _ V1_ _ _ _)
    intro V1_
    refine ⟨_, rfl, _, rfl, v, t, pl, rs, ps, rfl, ht, hd, hpl, hp, hlen, fun hall H1 s1 => ?_, fun hno e H1 s1 => kE hno e H1 s1⟩
    refine ⟨_, rfl, pl, rs, ps, rfl, SqL.of (s1 _ _ hpl), h64, paired_imp (fun _ _ h => h.same s1) hp, fun vs' ps' l1 H2 perm desc hp' nl s2 hl2 => ⟨l1, vs', rfl, SqL.of hl2, fun D nD => ?_⟩⟩
    have hl' : vs'.length <= 1000 := by
      have h1 := Paired.length hp'
      have h2 := Paired.length hp
      have h3 := perm.length_eq
      omega
    obtain ⟨W, w0, wl, ws, wd⟩ := copy_W (K := K) (K' := K) (SqL.of hl2) (paired_imp (fun _ _ h => h.same s2) hp') hl' nD
    refine ⟨W, w0, wl, fun C s0 H0 i x σ' H' hi hw => ?_, fun σ' H' hw => ?_⟩
    · obtain ⟨⟨x0, rfl⟩, p, zs, rfl, hq, hk⟩ := ws i x σ' H' hi hw
      exact ⟨_, rfl, p, zs, rfl, hq, fun l3 H3 n3 s3 h3 => hk l3 H3 n3 s3 h3⟩
    · obtain ⟨ys, sm, hD, hys⟩ := wd σ' H' hw
      exact k hall D ys ps' H' ((s1.trans s2).trans sm) ((s1.trans s2).free nD) hD hys perm desc
inductive Sp_moved0I (vs : List V) (H : Hp) (Q : VK) : Prop where
  | mk (pl sp : Addr) (p : List Int) (bv : V) (c1 : vs = [.ref pl, .ref sp, bv]) (c2 : H pl = some (.lst [])) (c3 : H sp = some (.lst (p.map V.int))) (c4 : ∀ l H', Same H H' -> H l = none -> H' l = some (.lst []) -> Q (.ref l) H')
def sp_moved0 : Sp := fun vs H Q _ => Sp_moved0I vs H Q
theorem ok_moved0 {f : Addr} {fd : FuncData} (F : Fun K "moved" "moved" s_moved f fd) (N_ : NoNames mg) : FnOk P w K mg base CX0 1 f fd ["paths", "spot", "body"] sp_moved0 := by
  refine F.ok sc_moved (fun vs H Q E h => ?_) (fun cdv A outer s H vs Q E hr h => ?_)
  · obtain ⟨pl, sp, p, bv, rfl, _⟩ := h
    rfl
  · obtain ⟨pl, sp, p, bv, rfl, hpl, hsp, k⟩ := h
    refine ⟨_, (pss_cons (ps_set (i := 3) sc_moved.nd rfl (Or.inr rfl) (pCB call_len_seq (by rfl) N_.len boot_len (pa_c (pv 1) pa_nil)))
      (pss_cons (ps_comp0 (i := 4) (N := ["path"]) (fs := ["spot", "deep"]) (js := [1, 3]) (cl := [("spot", s.heap.objs.size + 1), ("deep", s.heap.objs.size + 2)]) (fun _ _ _ _ hq ⟨v, e, h⟩ => ⟨v, e, hq _ _ h⟩) rfl sc_moved.nd rfl (Or.inl rfl) ⟨rfl, cndP2, by decide +kernel, by decide +kernel, by decide +kernel, by decide +kernel⟩ rfl (clos2 (by decide) rfl rfl rfl rfl) rfl (vis2 (Or.inr (Or.inl rfl)) (Or.inr (Or.inl rfl))) (pv 0))
      (pss_cons (ps_expr (pExt (pv 4) (pe_comp0 (N := ["path"]) (fs := ["spot", "deep"]) (js := [1, 3]) (cl := [("spot", s.heap.objs.size + 1), ("deep", s.heap.objs.size + 2)]) (fun _ _ _ _ hq ⟨v, e, h⟩ => ⟨v, e, hq _ _ h⟩) rfl ⟨rfl, cndP2, by decide +kernel, by decide +kernel, by decide +kernel, by decide +kernel⟩ rfl (clos2 (by decide) rfl rfl rfl rfl) rfl (vis2 (Or.inr (Or.inl rfl)) (Or.inr (Or.inl rfl))) (pv 0))))
      (pss_cons (ps_comp0 (i := 5) (N := ["path"]) (fs := ["spot", "deep"]) (js := [1, 3]) (cl := [("spot", s.heap.objs.size + 1), ("deep", s.heap.objs.size + 2)]) (fun _ _ _ _ hq ⟨v, e, h⟩ => ⟨v, e, hq _ _ h⟩) rfl sc_moved.nd rfl (Or.inl rfl) ⟨rfl, cndP2, by decide +kernel, by decide +kernel, by decide +kernel, by decide +kernel⟩ rfl (clos2 (by decide) rfl rfl rfl rfl) rfl (vis2 (Or.inr (Or.inl rfl)) (Or.inr (Or.inl rfl))) (pv 0))
      (pss_cons (ps_if (pt_truth (pv 5) (fun _ => rfl)) (pss_one ps_never) pss_nil)
      (pss_one (ps_ret (pv 4)))))))), ?_⟩
    show (let V1_ : TS := _; let V2_ : TS := _; let V3_ : TS := tSeq (tIfS _ V2_ _) V1_; let V4_ : TS := tSeq _ V3_; let V5_ : TS := tSeq _ V4_; let V6_ : TS := tSeq _ V5_; tSeq _ V6_ _ _ _)
    intro V1_ V2_ V3_ V4_ V5_ V6_
    refine ⟨_, rfl, sp, _, rfl, Or.inl (SqL.of hsp), ?_⟩
    refine ⟨_, rfl, pl, rfl, SqL.of hpl, fun l1 H1 n1 s1 h1 => ?_⟩
    refine ⟨_, rfl, Or.inl ⟨rfl, _, SqL.of h1⟩, _, rfl, pl, rfl, SqL.of (s1 _ _ hpl), fun l2 H2 n2 s2 h2 => ?_⟩
    refine ⟨_, _, _, _, rfl, rfl, s2 _ _ h1, h2, small' (by show 0 <= 1000000; decide), fun H3 k3 h3 => ?_⟩
    have s3 : Same H H3 := same_keep1 (s1.trans s2) k3 n1
    refine ⟨_, rfl, pl, rfl, SqL.of (s3 _ _ hpl), fun l4 H4 n4 s4 h4 => ?_⟩
    exact ⟨_, rfl, false, Or.inl ⟨_, SqL.of h4, rfl⟩, iteF ⟨_, rfl, k l1 H4 (s3.trans s4) n1 (s4 _ _ h3)⟩⟩
inductive Sp_behind0I (TL : Tabs) (CN : Addr) (vs : List V) (H : Hp) (Q : VK) (E : XK) : Prop where
  | mk (v : V) (t : Tm) (p0 pl : Addr) (rs : List V) (ps : List (List Int)) (c1 : vs = [v, .ref p0, .ref pl]) (c2 : TermAt H v t) (c3 : t.size <= 25) (c4 : H p0 = some (.lst [])) (c5 : H pl = some (.lst rs)) (c6 : Paired (PathV H) rs ps) (c7 : ∀ p ∈ ps, p.length <= 900) (c8 : rs.length < 64) (c9 : ps.Nodup) (c10 : TO TL H) (c11 : (∀ p ∈ ps, p ∈ t.spots) -> ∀ b v' lv H', ST TL H H' -> H' b = some (.tup [v', lv]) -> TermAt H' v' (dv t ps) -> Q (.ref b) H') (c12 : (¬ ∀ p ∈ ps, p ∈ t.spots) -> ∀ e H', Same H H' -> E (.ref e) (some CN) H')
def sp_behind0 (TL : Tabs) (CN : Addr) : Sp := fun vs H Q E => Sp_behind0I TL CN vs H Q E
theorem uz_25 {t : Tm} (h : t.size <= 25) (ps : List (List Int)) : uz t ps <= 40000 := by
  have h1 := uz_le t ps
  generalize uz t ps = z at h1
  generalize t.size = n at h h1
  refine Nat.le_of_not_lt fun hz => ?_
  have h2 : 40001 * 2 ^ (n + 1) <= z * 2 ^ (n + 1) := Nat.mul_le_mul_right _ hz
  have h3 : 3 ^ (n + 1) < 40001 * 2 ^ (n + 1) := by
    have : ∀ m, m <= 25 -> 3 ^ (m + 1) < 40001 * 2 ^ (m + 1) := by decide
    exact this n h
  omega
theorem sx_path {H H' : Hp} {v : V} {p : List Int} (h : PathV H v p) (s : SameX H H') : PathV H' v p := let ⟨l, e, q⟩ := h; ⟨l, e, s _ _ (fun _ z => by cases z) q⟩
inductive InvBehind (TL : Tabs) (H3 : Hp) (p0 pl : Addr) (t : Tm) (ps' : List (List Int)) (i : Nat) (σ : L2.St) (H' : Hp) : Prop where
  | mk (v' : V) (t' : Tm) (lf : Addr) (x4 x5 : Option V) (c1 : σ = [some v', some (.ref p0), some (.ref pl), some (.ref lf), x4, x5]) (c2 : ST TL H3 H') (c3 : TermAt H' v' t') (c4 : Dev t' (ps'.drop i)) (c5 : dv t' (ps'.drop i) = dv t ps') (c6 : uz t' (ps'.drop i) <= 40000) (c7 : ud t' (ps'.drop i) <= 25) (c8 : H' lf = some (.lst []))
theorem ok_behind0 {f C hA CN : Addr} {fd : FuncData} {TL : Tabs} (F : Fun K "behind" "behind" s_behind f fd) (N_ : NoNames mg) (R : StCls K C) (G_check : GF P w K mg base (CXE P w) 4 "check" ["term", "paths"] (sp_check CN)) (G_walked : GF P w K mg base (CXE P w) 5 "walked" ["term", "paths"] (sp_walked CN)) (G_stand_at : GF P w K mg base (CXE P w) 3 "stand_at" ["term", "path"] (sp_stand_at C hA CN))
    (G_moved : GF P w K mg base CX0 1 "moved" ["paths", "spot", "body"] sp_moved0) (G_Stand_do_step : GM P w K mg base CX0 11 C "do_step" ["self"] (sp_do TL C hA)) (G_Stand_go_to_top : GM P w K mg base CX0 2 C "go_to_top" ["self"] (sp_top C hA)) :
    FnOk P w K mg base (CXE P w) 12 f fd ["term", "paths", "done"] (sp_behind0 TL CN) := by
  refine okE F sc_behind (fun vs H Q E h => ?_) (fun cdv A outer s H vs Q E hr h => ?_)
  · obtain ⟨v, t, p0, pl, rs, ps, rfl, _⟩ := h
    rfl
  · obtain ⟨v, t, p0, pl, rs, ps, rfl, ht, hsz, hp0, hpl, hp, hlen, h64, hnd, to, k, kE⟩ := h
    have hu8 := Nat.lt_of_le_of_lt (Nat.add_le_add_left (by decide : 8 <= 64) _) hr.units
    have hdp : t.deep <= 190 := Nat.le_trans (T.deep_le t) (by omega)
    refine ⟨_, (pss_cons (ps_expr (pe_gf G_check (hr.mono (by decide)) rfl passE (pa_c (pv 0) (pa_c (pv 1) pa_nil))))
      (pss_cons (ps_compC (i := 3) (N := ["path"]) (fs := []) (js := []) (cl := []) rfl sc_behind.nd rfl (Or.inl rfl) ⟨rfl, cndP1, by decide +kernel, by decide +kernel, by decide +kernel, by decide +kernel⟩ rfl clos0 rfl (fun x hx => nomatch hx) (pv 1) (fun _ _ _ => ⟨(pg_name (i := 0) cndP1 rfl (Or.inl rfl)), pf_nil, (pCT call_lo (by rfl) N_.list boot_list (pa_c (pv 0) pa_nil))⟩))
      (pss_cons (ps_for ownE rfl (pi_list (pe_gf G_walked (hr.mono (by decide)) rfl passE (pa_c (pv 0) (pa_c (pv 2) pa_nil)))) (pg_name (i := 4) sc_behind.nd rfl (Or.inl rfl)) (pss_cons (ps_set (i := 5) sc_behind.nd rfl (Or.inl rfl) (pe_gf G_stand_at (hr.mono (by decide)) rfl passE (pa_c (pv 0) (pa_c (pv 4) pa_nil))))
      (pss_cons (ps_set (i := 3) sc_behind.nd rfl (Or.inl rfl) (pe_gf G_moved (hr.mono (by decide)) rfl pass0 (pa_c (pv 3) (pa_c (pv 4) (pa_c (pe_ix ix_tup (pe_ix ix_tup (pe_fld (pv 5) rfl) pe_int (fun _ _ => rfl)) pe_int (fun _ _ => rfl)) pa_nil)))))
      (pss_cons (ps_expr (pe_gm0 (pv 5) R.cl G_Stand_do_step (hr.mono (by decide)) pass0))
      (pss_cons (ps_expr (pe_gm0 (pv 5) R.cl G_Stand_go_to_top (hr.mono (by decide)) pass0))
      (pss_one (ps_set (i := 0) sc_behind.nd rfl (Or.inl rfl) (pe_fld (pv 5) rfl))))))))
      (pss_one (ps_ret (pTup (pa_c (pv 0) (pa_c (pCB (call_sortP hu8) (by rfl) N_.sorted boot_sorted (pa_c (pv 3) pa_nil)) pa_nil)))))))), ?_⟩
    show (let V1_ : TS := _; let V2_ : TS := _; let V3_ : TS := tSeq _ V2_; let V4_ : TS := tSeq _ V3_; let V5_ : TS := tSeq _ V4_; let V6_ : TS := tSeq _ V5_; let V7_ : TS := tSeq (tFor _ _ V6_) V1_; let V8_ : TS := tSeq _ V7_; tSeq _ V8_ _ _ _)
    intro V1_ V2_ V3_ V4_ V5_ V6_ V7_ V8_
    refine ⟨_, rfl, _, rfl, v, t, p0, [], [], rfl, ht, hdp, hp0, .nil, (fun p hp => nomatch hp), fun _ H1 s1 => ?_, fun hno e H1 s1 => absurd (fun p hp => nomatch hp) hno⟩
    refine ⟨_, rfl, p0, [], rfl, SqL.of (s1 _ _ hp0), fun D nD => ?_⟩
    obtain ⟨W, w0, wl, ws, wd⟩ := copy_W (K := K) (K' := K) (SqL.of (s1 _ _ hp0)) (.nil : Paired (PathV H1) [] []) (Nat.zero_le _) nD
    refine ⟨W, w0, wl, fun C s0 H0 i x σ' H' hi hw => ?_, fun σ' H2 hw => ?_⟩
    · obtain ⟨⟨x0, rfl⟩, p, zs, rfl, hq, hk⟩ := ws i x σ' H' hi hw
      exact ⟨_, rfl, p, zs, rfl, hq, fun l3 H3 n3 s3 h3 => hk l3 H3 n3 s3 h3⟩
    obtain ⟨ys, s2, hD, hys⟩ := wd σ' H2 hw
    cases paired_nil hys
    have s02 := s1.trans s2
    refine ⟨_, rfl, _, rfl, v, t, pl, rs, ps, rfl, ht.same s02, hdp, s02 _ _ hpl, paired_imp (fun _ _ h => h.same s02) hp, hlen, h64, fun hall l rs' ps' H3 s3 nl hl hp' perm desc => ?_, fun hno e H3 s3 => kE hno e H3 (s02.trans s3)⟩
    have s03 := s02.trans s3
    obtain ⟨hdev, hdv⟩ := Dev.of_perm hall hnd perm desc
    have k : ∀ b v' lv H', ST TL H3 H' -> H' b = some (.tup [v', lv]) -> TermAt H' v' (dv t ps') -> Q (.ref b) H' := fun b v' lv H' st hb ht' => k hall b v' lv H' ⟨fun c o n e => st.sx c o n (s03 _ _ e), st.to⟩ hb (by rw [<- hdv]; exact ht')
    refine ⟨l, rfl, ⟨_, SqL.of hl⟩, for_list (K := K) (a := l) (xs := rs') (InvBehind TL H3 p0 pl t ps') ⟨v, t, D, none, none, rfl, ST.of_same (to.same s03) (fun _ _ h => h), ht.same s03, hdev, rfl, uz_25 hsz _, Nat.le_trans (ud_le t _) hsz, s3 _ _ hD⟩ (fun i σ H' _ h => by
      obtain ⟨_, _, _, _, _, _, st, _⟩ := h
      exact SqL.of (st.sx _ _ (fun _ z => by cases z) hl)) ?_ ?_⟩
    · rintro i y σ H' hi ⟨v', t', lf, x4, x5, rfl, st, ht', hdv', hdv2, huz, hud, hlf⟩
      obtain ⟨p, hp2, hpv⟩ := paired_get hp' hi
      obtain ⟨b, rfl, hb⟩ := sx_path hpv st.sx
      have hdrop : ps'.drop i = p :: ps'.drop (i + 1) := drop_get hp2
      rw [hdrop] at hdv' hdv2 huz hud
      have hpsp : p ∈ t'.spots := hdv'.sub p List.mem_cons_self
      obtain ⟨t'', hstep, hdev2, hdv3, huz2, hud2, _⟩ := dev_step t' p (ps'.drop (i + 1)) hdv'
      have hdeep : t'.deep <= 25 := Nat.le_trans (deep_ud t' _) hud
      have hsize : t'.size + 1 <= 40000 := Nat.le_trans (size_uz t' _) huz
      have hpl900 : p.length <= 900 := hlen p (perm.mem_iff.mp (List.mem_of_getElem? hp2))
      refine ⟨_, rfl, _, rfl, v', t', b, p, rfl, ht', by omega, hb, hpl900, fun x ab u S H4 s4 nx nab hst hdn hsp => ?_, fun hno e H4 s4 => ?_⟩
      · obtain ⟨hud4, hsm⟩ := down_smallD p t' [] u S hdn (by omega : t'.deep <= 190) (fun _ z => nomatch z)
        have hSl : S.length <= 1000 := by
          have := down_len p t' [] u S hdn
          rw [this]
          show 0 + p.length <= 1000
          omega
        have hus : u.size <= t'.size := (down_small p t' [] u S hdn (Nat.le_refl _) (fun _ z => nomatch z)).1
        have est : stepT t' p = some t'' := (stepT_eq p t').trans hstep
        unfold stepT at est
        rw [hdn] at est
        cases u with
        | name _ => cases hsp
        | place _ => cases hsp
        | form _ => cases hsp
        | call a ar =>
          cases a with
          | name _ => cases hsp
          | place _ => cases hsp
          | call _ _ => cases hsp
          | form bd =>
            have est : plugS S (bd.fill ar) = t'' := Option.some.inj est
            have hus : bd.size + 1 + ar.size + 1 <= t'.size := hus
            obtain ⟨dx4, fs4, tv4, vs4, hx4, ht4, hb4, hp4⟩ := id hst
            cases ht4 with
            | call h1 hx1 hy1 =>
              cases hx1 with
              | form h2 hb2 =>
                refine ⟨_, rfl, _, rfl, _, rfl, x, C, dx4, fs4, _, rfl, hx4.ins, R.cl, R.nP, hx4.part, _, _, _, _, rfl, rfl, SqT.of h1, at1, _, _, _, _, rfl, rfl, SqT.of h2, at1, lf, b, p, _, rfl, s4 _ _ hlf, s4 _ _ hb, fun l5 H5 s5 n5 h5 => ?_⟩
                have hst5 := hst.same s5
                obtain ⟨dx5, fs5, tv5, vs5, hx5, ht5, hb5, hp5⟩ := id hst5
                have st5 : ST TL H3 H5 := ⟨fun c o n e => s5 _ _ (s4 _ _ (st.sx c o n e)), (st.to.same s4).same s5⟩
                refine ⟨_, rfl, x, dx5, fs5, rfl, hx5.ins, hx5.meth _ (by decide +kernel), x, ab, bd, ar, S, rfl, hst5, hsm, hSl, by omega, by omega, st5.to, fun t2 S2 H6 ka6 to6 hst6 hsm6 hpl6 => ?_⟩
                obtain ⟨dx6, fs6, tv6, vs6, hx6, ht6, hb6, hp6⟩ := id hst6
                refine ⟨_, rfl, x, dx6, fs6, rfl, hx6.ins, hx6.meth _ (by decide +kernel), x, ab, t2, S2, rfl, hst6, hsm6, fun H7 k7 hst7 => ?_⟩
                obtain ⟨dx7, fs7, tv7, vs7, hx7, ht7, hb7, hp7⟩ := id hst7
                refine ⟨_, rfl, x, C, dx7, fs7, _, rfl, hx7.ins, R.cl, R.nP, hx7.part, ?_⟩
                rw [hpl6, est] at ht7
                have n5x : ∀ z, z ∈ [x, ab] -> H' z = none := fun z hz => by
                  rcases List.mem_cons.mp hz with q | q
                  · rw [q]; exact nx
                  · rw [List.mem_singleton.mp q]; exact nab
                have l5n : l5 ∉ [x, ab] := fun hz => by
                  rcases List.mem_cons.mp hz with q | q
                  · rw [q, (hx4.ins)] at n5; cases n5
                  · rw [List.mem_singleton.mp q, hb4] at n5; cases n5
                refine ⟨_, t'', l5, _, _, rfl, ⟨fun c o n e => ?_, to_keep to6 hx6.ins hb6 k7⟩, ht7, hdev2, hdv3.trans hdv2, Nat.le_trans huz2 huz, Nat.le_trans hud2 hud, k7 _ _ l5n (ka6 _ _ l5n (fun _ z => by cases z) h5)⟩
                have e1 := st.sx c o n e
                have hc : c ∉ [x, ab] := fun hz => by rw [n5x c hz] at e1; cases e1
                exact k7 c o hc (ka6 c o hc n (s5 _ _ (s4 _ _ e1)))
      · obtain ⟨u, S, h1, h2⟩ := spot_down.mp hpsp
        rw [hno u S h1] at h2
        cases h2
    · rintro σ H' ⟨v', t', lf, x4, x5, rfl, st, ht', hdv', hdv2, huz, hud, hlf⟩
      have hl2 := Paired.length hp'
      rw [hl2, List.drop_length] at hdv2
      rw [dv_nil] at hdv2
      refine ⟨_, rfl, _, rfl, lf, [], [], rfl, SqL.of hlf, by decide, .nil, fun vs' ps'' l9 H9 pm pw hpp nl9 s9 hl9 => ⟨small' (by show 2 <= 1000000; decide), fun b9 H10 n10 s10 h10 => ?_⟩⟩
      refine k b9 v' _ H10 ⟨fun c o n e => s10 _ _ (s9 _ _ (st.sx c o n e)), (st.to.same s9).same s10⟩ h10 ?_
      rw [<- hdv2]
      exact (ht'.same s9).same s10
inductive Sp_at_onceI (TL : Tabs) (CN : Addr) (vs : List V) (H : Hp) (Q : VK) (E : XK) : Prop where
  | mk (v : V) (t : Tm) (pl : Addr) (rs : List V) (ps : List (List Int)) (c1 : vs = [v, .ref pl]) (c2 : TermAt H v t) (c3 : t.size <= 25) (c5 : H pl = some (.lst rs)) (c6 : Paired (PathV H) rs ps) (c7 : ∀ p ∈ ps, p.length <= 900) (c8 : rs.length < 64) (c9 : ps.Nodup) (c10 : TO TL H) (c11 : (∀ p ∈ ps, p ∈ t.spots) -> ∀ v' H', ST TL H H' -> TermAt H' v' (dv t ps) -> Q v' H') (c12 : (¬ ∀ p ∈ ps, p ∈ t.spots) -> ∀ e H', Same H H' -> E (.ref e) (some CN) H')
def sp_at_once (TL : Tabs) (CN : Addr) : Sp := fun vs H Q E => Sp_at_onceI TL CN vs H Q E
theorem ok_at_once {f CN : Addr} {fd : FuncData} {TL : Tabs} (F : Fun K "at_once" "at_once" s_at_once f fd) (G_behind : GF P w K mg base (CXE P w) 12 "behind" ["term", "paths", "done"] (sp_behind0 TL CN)) : FnOk P w K mg base (CXE P w) 13 f fd ["term", "paths"] (sp_at_once TL CN) := by
  refine okE F sc_at_once (fun vs H Q E h => ?_) (fun cdv A outer s H vs Q E hr h => ?_)
  · obtain ⟨v, t, pl, rs, ps, rfl, _⟩ := h
    rfl
  · obtain ⟨v, t, pl, rs, ps, rfl, ht, hsz, hpl, hp, hlen, h64, hnd, to, k, kE⟩ := h
    refine ⟨_, (pss_one (ps_ret (pe_ix ix_tup (pe_gf G_behind (hr.mono (by decide)) rfl passE (pa_c (pv 0) (pa_c (pLst pa_nil) (pa_c (pv 1) pa_nil)))) pe_int (fun _ _ => rfl)))), ?_⟩
    refine ⟨_, rfl, small' (by show 0 <= 1000000; decide), fun p0 H1 n1 s1 h1 => ⟨_, rfl, v, t, p0, pl, rs, ps, rfl, ht.same s1, hsz, h1, s1 _ _ hpl, paired_imp (fun _ _ h => h.same s1) hp, hlen, h64, hnd, to.same s1, fun hall b v' lv H2 st hb hv => ?_, fun hno e H2 s2 => kE hno e H2 (s1.trans s2)⟩⟩
    exact ⟨_, _, _, _, rfl, rfl, SqT.of hb, at0, k hall v' H2 ⟨fun c o n e => st.sx c o n (s1 _ _ e), st.to⟩ hv⟩
end
end NC
namespace NC
open PySem PySem.Spec PyProof.Rows L2
theorem cndP3 : (["_law_path"] : List Str).Nodup := by decide +kernel
theorem passF {P : Program} {w : World} {X : Cx} : Passes (CXE P w) X E0 := by
  intro pins σ H1 s1 e s' I h
  obtain ⟨ea, C, H', rfl, F, hE⟩ := h
  exact hE.elim
theorem powers_at (k : Int) : ∃ j : Int, 0 < j /\ j < 1000 /\ atI [V.int 1, V.int 2, V.int 4, V.int 8, V.int 16, V.int 32, V.int 64, V.int 128] (k % 8) = some (.int j) := by
  have h1 : 0 <= k % 8 := Int.emod_nonneg _ (by decide)
  have h2 : k % 8 < 8 := Int.emod_lt_of_pos _ (by decide)
  obtain ⟨j, hj⟩ : ∃ j : Nat, k % 8 = (j : Int) := ⟨_, (Int.toNat_of_nonneg h1).symm⟩
  rw [hj] at h2 ⊢
  match j, h2 with
  | 0, _ => exact ⟨1, by decide, by decide, rfl⟩
  | 1, _ => exact ⟨2, by decide, by decide, rfl⟩
  | 2, _ => exact ⟨4, by decide, by decide, rfl⟩
  | 3, _ => exact ⟨8, by decide, by decide, rfl⟩
  | 4, _ => exact ⟨16, by decide, by decide, rfl⟩
  | 5, _ => exact ⟨32, by decide, by decide, rfl⟩
  | 6, _ => exact ⟨64, by decide, by decide, rfl⟩
  | 7, _ => exact ⟨128, by decide, by decide, rfl⟩
  | n + 8, h => omega
def psD (ps : List (List Int)) : Dt := .lst (ps.map pD)
theorem psD_dsat {K : PySem.W.Frag} {H : Hp} : ∀ {rs : List V} {ps : List (List Int)}, Paired (PathV H) rs ps -> DsAt K H (ps.map pD) rs
  | _, _, .nil => rfl
  | _, _, .cons r t => ⟨_, _, rfl, pD_dat r, psD_dsat t⟩
theorem psD_dat {K : PySem.W.Frag} {H : Hp} {l : Addr} {rs : List V} {ps : List (List Int)} (h : H l = some (.lst rs)) (p : Paired (PathV H) rs ps) : DAt K H (psD ps) (.ref l) := ⟨l, rs, rfl, SqL.of h, psD_dsat p⟩
theorem psD_lims : ∀ ps : List (List Int), Dt.Lims 1 (ps.map pD)
  | [] => trivial
  | p :: ps => ⟨pD_lim p, psD_lims ps⟩
theorem psD_lim (ps : List (List Int)) : Dt.Lim (1 + 1) (psD ps) := psD_lims ps
inductive InvTold (H3 : Hp) (σ0 : L2.St) (vd vf : V) (tl : Addr) (t : Tm) (ps' : List (List Int)) (i : Nat) (σ : L2.St) (H' : Hp) : Prop where
  | mk (v' : V) (t' : Tm) (x6 x11 : Option V) (c1 : σ = σ0 ++ [x6, some vd, some vf, some (.ref tl), some v', x11]) (c2 : Same H3 H') (c3 : TermAt H' v' t') (c4 : Dev t' (ps'.drop i)) (c5 : dv t' (ps'.drop i) = dv t ps') (c6 : uz t' (ps'.drop i) <= 40000)
structure ExcsN (K : PySem.W.Frag) (mg : Str -> Option Value) (cN : Addr) : Prop where
  mN : mg "NoStep" = some (.ref cN)
  x2 : PySem.W.exmOne K (.ref cN) (.ref cN) = some true
section
variable {P : Program} {w : World} {K : PySem.W.Frag} {mg : Str -> Option Value} {base : Heap}
seal L2.PE L2.PA L2.PT L2.PS L2.PSs L2.PW L2.PG L2.PGs L2.PI L2.PO L2.OpR L2.UnR L2.CallR L2.TruR L2.IxR L2.SlR
abbrev s__law_some_of : Stmt := top 40
theorem sc__law_some_of : FnScope ["_law_paths", "_law_cell", "_law_powers", "_law_found", "_law_k"] ["_law_paths", "_law_cell"] (defScope s__law_some_of) := ⟨rfl, rfl, rfl, by decide +kernel, rfl, by decide +kernel, by decide +kernel⟩
abbrev s__law_copies : Stmt := top 41
theorem sc__law_copies : FnScope ["_law_paths"] ["_law_paths"] (defScope s__law_copies) := ⟨rfl, rfl, rfl, by decide +kernel, rfl, by decide +kernel, by decide +kernel⟩
abbrev s__law_refuses : Stmt := top 42
theorem sc__law_refuses : FnScope ["_law_way", "_law_term", "_law_paths"] ["_law_way", "_law_term", "_law_paths"] (defScope s__law_refuses) := ⟨rfl, rfl, rfl, by decide +kernel, rfl, by decide +kernel, by decide +kernel⟩
abbrev s__law_developed : Stmt := top 37
theorem sc__law_developed : FnScope ["_law_term", "_law_paths", "_law_pair"] ["_law_term", "_law_paths"] (defScope s__law_developed) := ⟨rfl, rfl, rfl, by decide +kernel, rfl, by decide +kernel, by decide +kernel⟩
abbrev s_law : Stmt := top 46
theorem sc_law : FnScope ["_law_script", "_law_term", "_law_every", "_law_paths", "_law_bad", "_law_handed", "_law_way", "_law_due", "_law_found", "_law_told", "_law_here", "_law_path"] ["_law_script"] (defScope s_law) := ⟨rfl, rfl, rfl, by decide +kernel, rfl, by decide +kernel, by decide +kernel⟩
inductive Sp_someI (vs : List V) (H : Hp) (Q : VK) : Prop where
  | mk (pl : Addr) (rs : List V) (ps : List (List Int)) (c : Int) (c1 : vs = [.ref pl, .int c]) (c2 : H pl = some (.lst rs)) (c3 : Paired (PathV H) rs ps) (c4 : rs.length < 64) (c5 : ∀ l rs' ps' H', Same H H' -> H l = none -> H' l = some (.lst rs') -> Paired (PathV H) rs' ps' -> ps'.Sublist ps -> Q (.ref l) H')
def sp_some : Sp := fun vs H Q _ => Sp_someI vs H Q
theorem ok_some {f : Addr} {fd : FuncData} (F : Fun K "_law_some_of" "_law_some_of" s__law_some_of f fd) (N_ : NoNames mg) : FnOk P w K mg base CX0 1 f fd ["_law_paths", "_law_cell"] sp_some := by
  refine F.ok sc__law_some_of (fun vs H Q E h => ?_) (fun cdv A outer s H vs Q E hr h => ?_)
  · obtain ⟨pl, rs, ps, c, rfl, _⟩ := h
    rfl
  · obtain ⟨pl, rs, ps, c, rfl, hpl, hp, h64, k⟩ := h
    refine ⟨_, (pss_cons (ps_set (i := 2) sc__law_some_of.nd rfl (Or.inl rfl) (pLst (pa_c pe_int (pa_c pe_int (pa_c pe_int (pa_c pe_int (pa_c pe_int (pa_c pe_int (pa_c pe_int (pa_c pe_int pa_nil))))))))))
      (pss_cons (ps_set (i := 3) sc__law_some_of.nd rfl (Or.inl rfl) (pLst pa_nil))
      (pss_cons (ps_for PassesOwn.never rfl (pi_range1 rfl N_.range (pa_c (pCB call_len_seq (by rfl) N_.len boot_len (pa_c (pv 0) pa_nil)) pa_nil)) (pg_name (i := 4) sc__law_some_of.nd rfl (Or.inl rfl)) (pss_one (ps_if (pt_cmpR op_eq (pe_op op_mod (pe_op op_fdiv (pv 1) (pe_ix ix_list (pv 2) (pe_op op_mod (pv 4) pe_int) (fun _ _ => rfl))) pe_int) pe_int (nomark _)) (pss_one (ps_expr (pApp (pv 3) (pe_ix ix_list (pv 0) (pv 4) (fun _ _ => rfl))))) pss_nil)))
      (pss_one (ps_ret (pv 3)))))), ?_⟩
    show (let V1_ : TS := _; let V2_ : TS := _; let V3_ : TS := tIfS _ V2_ _; let V4_ : TS := tSeq (tFor _ _ V3_) V1_; let V5_ : TS := tSeq _ V4_; tSeq _ V5_ _ _ _)
    intro V1_ V2_ V3_ V4_ V5_
    refine ⟨small' (by show 8 <= 1000000; decide), fun q H1 nq s1 h1 => ⟨small' (by show 0 <= 1000000; decide), fun fo H2 nf s2 h2 => ?_⟩⟩
    have s02 := s1.trans s2
    have nfo : H fo = none := s1.free nf
    refine ⟨_, rfl, _, _, rfl, Or.inl (SqL.of (s02 _ _ hpl)), _, rfl, by omega, by omega, ?_⟩
    rw [show ((rs.length : Nat) : Int).toNat = rs.length by omega]
    refine for_range (fun i σ H' => ∃ x4, σ = [some (.ref pl), some (.int c), some (.ref q), some (.ref fo), x4] /\ Same H H' /\ H' q = some (.lst [V.int 1, V.int 2, V.int 4, V.int 8, V.int 16, V.int 32, V.int 64, V.int 128]) /\ ∃ ys qs, H' fo = some (.lst ys) /\ Paired (PathV H) ys qs /\ qs.Sublist (ps.take i)) ⟨none, rfl, s02, s2 _ _ h1, [], [], h2, .nil, List.Sublist.slnil⟩ ?_ ?_
    · rintro i σ H3 hi ⟨x4, rfl, s3, hq3, ys, qs, hf3, hys, hsub⟩
      obtain ⟨j, hj0, hj1, hat⟩ := powers_at ((0 : Int) + (i : Int))
      obtain ⟨p, ep, hpv⟩ := paired_get hp (show rs[i]? = some rs[i] from List.getElem?_eq_getElem hi)
      have htk : ps.take (i + 1) = ps.take i ++ [p] := by rw [List.take_add_one, ep]; rfl
      refine ⟨_, rfl, _, rfl, _, rfl, _, _, rfl, rfl, (show (0 : Int) < 8 by decide), _, _, _, _, rfl, rfl, SqL.of hq3, hat, _, _, rfl, rfl, ⟨hj0, by omega⟩, _, _, rfl, rfl, (show (0 : Int) < 2 by decide), rfl, _, rfl, ifD (fun _ => ?_) (fun _ => ?_)⟩
      · refine ⟨_, rfl, Or.inl ⟨rfl, _, SqL.of hf3⟩, _, rfl, _, rfl, _, _, _, _, rfl, rfl, SqL.of (s3 _ _ hpl), (by rw [Int.zero_add]; exact atI_nat (List.getElem?_eq_getElem hi)), _, _, _, rfl, rfl, hf3, ?_, fun H4 k4 h4 => ?_⟩
        · have e1 := Paired.length hys
          have e2 := hsub.length_le
          rw [List.length_take] at e2
          exact small (by omega)
        · have nq' : q ≠ fo := fun z => by rw [<- z, hq3] at hf3; injection hf3 with e; injection e with e; rw [z] at h1; rw [h1] at nf; cases nf
          refine ⟨_, rfl, same_keep1 s3 k4 nfo, k4 _ _ (by simp [nq']) hq3, _, qs ++ [p], h4, paired_snoc hpv hys, ?_⟩
          rw [htk]
          exact hsub.append (List.Sublist.refl _)
      · refine ⟨_, rfl, s3, hq3, ys, qs, hf3, hys, ?_⟩
        rw [htk]
        exact hsub.trans (List.sublist_append_left _ _)
    · rintro σ H3 ⟨x4, rfl, s3, hq3, ys, qs, hf3, hys, hsub⟩
      rw [Paired.length hp, List.take_length] at hsub
      exact ⟨_, rfl, k fo ys qs H3 s3 nfo hf3 hys hsub⟩
inductive Sp_copiesI (vs : List V) (H : Hp) (Q : VK) : Prop where
  | mk (pl : Addr) (rs : List V) (ps : List (List Int)) (c1 : vs = [.ref pl]) (c2 : H pl = some (.lst rs)) (c3 : Paired (PathV H) rs ps) (c4 : rs.length < 64) (c5 : ∀ l rs' H', Same H H' -> H l = none -> H' l = some (.lst rs') -> Paired (PathV H') rs' ps -> Q (.ref l) H')
def sp_copies : Sp := fun vs H Q _ => Sp_copiesI vs H Q
theorem ok_copies {f : Addr} {fd : FuncData} (F : Fun K "_law_copies" "_law_copies" s__law_copies f fd) (N_ : NoNames mg) : FnOk P w K mg base CX0 1 f fd ["_law_paths"] sp_copies := by
  refine F.ok sc__law_copies (fun vs H Q E h => ?_) (fun cdv A outer s H vs Q E hr h => ?_)
  · obtain ⟨pl, rs, ps, rfl, _⟩ := h
    rfl
  · obtain ⟨pl, rs, ps, rfl, hpl, hp, h64, k⟩ := h
    refine ⟨_, (pss_one (ps_ret (pe_compC (N := ["_law_path"]) (fs := []) (js := []) (cl := []) rfl ⟨rfl, cndP3, by decide +kernel, by decide +kernel, by decide +kernel, by decide +kernel⟩ rfl clos0 rfl (fun x hx => nomatch hx) (pv 0) (fun _ _ _ => ⟨(pg_name (i := 0) cndP3 rfl (Or.inl rfl)), pf_nil, (pCT call_lo (by rfl) N_.list boot_list (pa_c (pv 0) pa_nil))⟩)))), ?_⟩
    refine ⟨_, rfl, pl, rs, rfl, SqL.of hpl, fun D nD => ?_⟩
    obtain ⟨W, w0, wl, ws, wd⟩ := copy_W (K := K) (K' := K) (SqL.of hpl) hp (by omega) nD
    refine ⟨W, w0, wl, fun C s0 H0 i x σ' H' hi hw => ?_, fun σ' H' hw => ?_⟩
    · obtain ⟨⟨x0, rfl⟩, p, zs, rfl, hq, hk⟩ := ws i x σ' H' hi hw
      exact ⟨_, rfl, p, zs, rfl, hq, fun l3 H3 n3 s3 h3 => hk l3 H3 n3 s3 h3⟩
    · obtain ⟨ys, sm, hD, hys⟩ := wd σ' H' hw
      exact k D ys H' sm nD hD hys
inductive Sp_refusesI (TL : Tabs) (vs : List V) (H : Hp) (Q : VK) : Prop where
  | mk (n : Int) (v : V) (t : Tm) (pl : Addr) (rs : List V) (ps : List (List Int)) (c1 : vs = [.int n, v, .ref pl]) (c2 : TermAt H v t) (c3 : t.size <= 25) (c5 : H pl = some (.lst rs)) (c6 : Paired (PathV H) rs ps) (c7 : ∀ p ∈ ps, p.length <= 900) (c8 : rs.length < 64) (c9 : ps.Nodup) (c10 : TO TL H) (c11 : ∀ (b : Bool) H', ST TL H H' -> (b = true ↔ ¬ ∀ p ∈ ps, p ∈ t.spots) -> Q (.bl b) H')
def sp_refuses (TL : Tabs) : Sp := fun vs H Q _ => Sp_refusesI TL vs H Q
theorem ok_refuses {f cN : Addr} {fd : FuncData} {TL : Tabs} (F : Fun K "_law_refuses" "_law_refuses" s__law_refuses f fd) (X_ : ExcsN K mg cN) (G_at_once : GF P w K mg base (CXE P w) 13 "at_once" ["term", "paths"] (sp_at_once TL cN)) (G_walked : GF P w K mg base (CXE P w) 5 "walked" ["term", "paths"] (sp_walked cN)) :
    FnOk P w K mg base CX0 14 f fd ["_law_way", "_law_term", "_law_paths"] (sp_refuses TL) := by
  refine F.ok sc__law_refuses (fun vs H Q E h => ?_) (fun cdv A outer s H vs Q E hr h => ?_)
  · obtain ⟨n, v, t, pl, rs, ps, rfl, _⟩ := h
    rfl
  · obtain ⟨n, v, t, pl, rs, ps, rfl, ht, hsz, hpl, hp, hlen, h64, hnd, to, k⟩ := h
    have hm_NoStep := X_.mN
    have hdp : t.deep <= 190 := Nat.le_trans (T.deep_le t) (by omega)
    refine ⟨_, (pss_cons (ps_tryC ⟨rfl, rfl, rfl⟩ (pt_cmpR op_eq (pv 0) pe_int (nomark _)) (pex_gf G_at_once (hr.mono (by decide)) rfl (pa_c (pv 1) (pa_c (pv 2) pa_nil))) (pex_gf G_walked (hr.mono (by decide)) rfl (pa_c (pv 1) (pa_c (pv 2) pa_nil))) rfl hm_NoStep (fun ea => (pss_one (ps_ret pe_bl))))
      (pss_one (ps_ret pe_bl))), ?_⟩
    show (let V1_ : TS := _; tSeq _ V1_ _ _ _)
    intro V1_
    refine ⟨_, rfl, rfl, _, rfl, ifD (fun _ => ?_) (fun _ => ?_)⟩
    · refine ⟨_, rfl, _, rfl, v, t, pl, rs, ps, rfl, ht, hsz, hpl, hp, hlen, h64, hnd, to, fun hall v' H1 st _ => ?_, fun hno e H1 s1 => ?_⟩
      · exact k false H1 st ⟨(fun z => nomatch z), fun z => absurd hall z⟩
      · exact ⟨e, _, rfl, rfl, X_.x2, k true H1 (ST.of_same to s1) ⟨fun _ => hno, fun _ => rfl⟩⟩
    · refine ⟨_, rfl, _, rfl, v, t, pl, rs, ps, rfl, ht, hdp, hpl, hp, hlen, h64, fun hall l rs' ps' H1 s1 _ _ _ _ _ => ?_, fun hno e H1 s1 => ?_⟩
      · exact k false H1 (ST.of_same to s1) ⟨(fun z => nomatch z), fun z => absurd hall z⟩
      · exact ⟨e, _, rfl, rfl, X_.x2, k true H1 (ST.of_same to s1) ⟨fun _ => hno, fun _ => rfl⟩⟩
def TupQ (H H' : Hp) (v : V) (p : List Int) : Prop := ∃ b c, v = .ref b /\ H' b = some (.tup [.int (0 - (p.length : Int)), .ref c]) /\ H c = some (.lst (p.map V.int))
inductive Sp_developedI (vs : List V) (H : Hp) (Q : VK) : Prop where
  | mk (v : V) (t : Tm) (pl : Addr) (rs : List V) (ps : List (List Int)) (c1 : vs = [v, .ref pl]) (c2 : TermAt H v t) (c3 : t.size <= 25) (c5 : H pl = some (.lst rs)) (c6 : Paired (PathV H) rs ps) (c7 : ∀ p ∈ ps, p.length <= 900) (c8 : rs.length < 64) (c9 : ps.Nodup) (c10 : ∀ p ∈ ps, p ∈ t.spots) (c11 : ∀ v' H', Same H H' -> TermAt H' v' (dv t ps) -> Q v' H')
def sp_developed : Sp := fun vs H Q _ => Sp_developedI vs H Q
inductive InvDev (H3 : Hp) (pl : Addr) (t : Tm) (ps' : List (List Int)) (i : Nat) (σ : L2.St) (H' : Hp) : Prop where
  | mk (v' : V) (t' : Tm) (x2 : Option V) (c1 : σ = [some v', some (.ref pl), x2]) (c2 : Same H3 H') (c3 : TermAt H' v' t') (c4 : Dev t' (ps'.drop i)) (c5 : dv t' (ps'.drop i) = dv t ps') (c6 : uz t' (ps'.drop i) <= 40000)
theorem ok_developed {f : Addr} {fd : FuncData} (F : Fun K "_law_developed" "_law_developed" s__law_developed f fd) (N_ : NoNames mg) (G__law_stepped : GF P w K mg base CX0 4 "_law_stepped" ["_law_term", "_law_path"] sp_stepped) : FnOk P w K mg base CX0 5 f fd ["_law_term", "_law_paths"] sp_developed := by
  refine F.ok sc__law_developed (fun vs H Q E h => ?_) (fun cdv A outer s H vs Q E hr h => ?_)
  · obtain ⟨v, t, pl, rs, ps, rfl, _⟩ := h
    rfl
  · obtain ⟨v, t, pl, rs, ps, rfl, ht, hsz, hpl, hp, hlen, h64, hnd, hall, k⟩ := h
    have hu8 := Nat.lt_of_le_of_lt (Nat.add_le_add_left (by decide : 8 <= 64) _) hr.units
    refine ⟨_, (pss_cons (ps_for PassesOwn.never rfl (pi_list (pCB (call_sortT hu8) (by rfl) N_.sorted boot_sorted (pa_c (pe_compC (N := ["_law_path"]) (fs := []) (js := []) (cl := []) rfl ⟨rfl, cndP3, by decide +kernel, by decide +kernel, by decide +kernel, by decide +kernel⟩ rfl clos0 rfl (fun x hx => nomatch hx) (pv 1) (fun _ _ _ => ⟨(pg_name (i := 0) cndP3 rfl (Or.inl rfl)), pf_nil, (pTup (pa_c (pe_op op_sub pe_int (pCB call_len_seq (by rfl) N_.len boot_len (pa_c (pv 0) pa_nil))) (pa_c (pv 0) pa_nil)))⟩)) pa_nil))) (pg_name (i := 2) sc__law_developed.nd rfl (Or.inl rfl)) (pss_one (ps_if (pt_cmpR op_notN (pv 0) pe_non (nomark _)) (pss_one (ps_set (i := 0) sc__law_developed.nd rfl (Or.inl rfl) (pe_gf G__law_stepped (hr.mono (by decide)) rfl pass0 (pa_c (pv 0) (pa_c (pe_ix ix_tup (pv 2) pe_int (fun _ _ => rfl)) pa_nil))))) pss_nil)))
      (pss_one (ps_ret (pv 0)))), ?_⟩
    show (let V1_ : TS := _; let V2_ : TS := _; let V3_ : TS := tIfS _ V2_ _; tSeq (tFor _ _ V3_) V1_ _ _ _)
    intro V1_ V2_ V3_
    refine ⟨_, rfl, pl, rs, rfl, SqL.of hpl, fun D nD => ?_⟩
    refine ⟨fun i σ' H' => (∃ x0, σ' = [x0]) /\ Same H H' /\ i <= rs.length /\ ∃ ys, H' D = some (.lst ys) /\ Paired (TupQ H H') ys (ps.take i), ⟨⟨none, rfl⟩, same_new nD, Nat.zero_le _, [], upd_same, .nil⟩, ?_, ?_, ?_⟩
    · rintro i σ' H' _ ⟨_, sm, _⟩
      exact SqL.of (sm _ _ hpl)
    · rintro C s0 H0 i x σ' H' hi ⟨⟨x0, rfl⟩, sm, hil, ys, hD, hys⟩
      obtain ⟨p, ep, b, rfl, hb⟩ := paired_get hp hi
      have hlt : i < rs.length := (List.getElem?_eq_some_iff.mp hi).1
      refine ⟨_, rfl, b, _, rfl, Or.inl (SqL.of (sm _ _ hb)), _, _, rfl, rfl, _, rfl, small' (by show 2 <= 1000000; decide), fun q H3 nq s3 hq => ⟨ys, s3 _ _ hD, ?_, ⟨_, rfl⟩, ?_, hlt, _, upd_same, ?_⟩⟩
      · have h1 := Paired.length hys
        rw [List.length_take] at h1
        exact small (by omega)
      · intro c o e
        rw [upd_ne fun z => by rw [z, nD] at e; cases e]
        exact s3 _ _ (sm _ _ e)
      · rw [List.length_map] at hq
        rw [List.take_add_one, ep]
        have nqD : q ≠ D := fun z => by rw [z, hD] at nq; cases nq
        refine paired_snoc ⟨q, b, rfl, by rw [upd_ne nqD]; exact hq, hb⟩ (paired_imp (fun v' p' h => ?_) hys)
        obtain ⟨b1, c1, e1, h1, h2⟩ := h
        refine ⟨b1, c1, e1, ?_, h2⟩
        rw [upd_ne fun z => by rw [z, hD] at h1; cases h1]
        exact s3 _ _ h1
    · rintro σ' H2 ⟨_, s2, _, ys, hD, hys⟩
      rw [Paired.length hp, List.take_length] at hys
      have hys2 : Paired (TupP H2) ys ps := paired_imp (fun v' p' ⟨b1, c1, e1, h1, h2⟩ => ⟨b1, c1, e1, h1, s2 _ _ h2⟩) hys
      have hyl : ys.length < 64 := by
        have h1 := Paired.length hys
        have h2 := Paired.length hp
        omega
      refine ⟨D, ys, ps, rfl, SqL.of hD, hyl, hys2, fun vs' ps' l H3 perm desc hp' nl s3 hl => ?_⟩
      have s03 := s2.trans s3
      obtain ⟨hdev, hdv⟩ := Dev.of_perm hall hnd perm desc
      refine ⟨l, rfl, ⟨_, SqL.of hl⟩, for_list (K := K) (a := l) (xs := vs') (InvDev H3 pl t ps') ⟨v, t, none, rfl, fun _ _ h => h, ht.same s03, hdev, rfl, uz_25 hsz _⟩ (fun i σ H' _ h => by
        obtain ⟨_, _, _, _, sm, _⟩ := h
        exact SqL.of (sm _ _ hl)) ?_ ?_⟩
      · rintro i y σ H' hi ⟨v', t', x2, rfl, s4, ht', hdv', hdv2, huz⟩
        obtain ⟨p, hp2, b, c, rfl, hb, hc⟩ := paired_get hp' hi
        have hdrop : ps'.drop i = p :: ps'.drop (i + 1) := drop_get hp2
        rw [hdrop] at hdv' hdv2 huz
        obtain ⟨t'', hstep, hdev2, hdv3, huz2, _, _⟩ := dev_step t' p (ps'.drop (i + 1)) hdv'
        have hsize : t'.size + 1 <= 40000 := Nat.le_trans (size_uz t' _) huz
        have hpl900 : p.length <= 900 := hlen p (perm.mem_iff.mp (List.mem_of_getElem? hp2))
        have est : stepT t' p = some t'' := (stepT_eq p t').trans hstep
        obtain ⟨av, eav⟩ := ht'.ref
        refine ⟨_, rfl, rfl, _, rfl, ifNT (fun z => by rw [eav] at z; cases z) ?_⟩
        refine ⟨_, rfl, _, rfl, _, _, _, _, rfl, rfl, SqT.of (s4 _ _ (s3 _ _ hb)), at1, v', t', c, p, rfl, ht', by omega, s4 _ _ (s3 _ _ hc), hpl900, fun r hr' v2 H5 s5 hv2 => ?_, fun hn => ?_⟩
        · have er : t'' = r := Option.some.inj (est.symm.trans hr')
          subst er
          exact ⟨v2, _, _, rfl, s4.trans s5, hv2, hdev2, hdv3.trans hdv2, Nat.le_trans huz2 huz⟩
        · rw [hn] at est
          cases est
      · rintro σ H' ⟨v', t', x2, rfl, s4, ht', hdv', hdv2, huz⟩
        rw [Paired.length hp', List.drop_length, dv_nil] at hdv2
        refine ⟨_, rfl, k v' H' (s03.trans s4) ?_⟩
        rw [<- hdv, <- hdv2]
        exact ht'
inductive Sp_lawI (TL : Tabs) (K : PySem.W.Frag) (vs : List V) (H : Hp) (Q : VK) : Prop where
  | mk (a : _) (ns : List Int) (c1 : vs = [.ref a]) (c2 : SqL K H a (ns.map V.int)) (c3 : ns.length <= 63) (c4 : TO TL H) (c5 : ∀ H', Q (.bl true) H')
def sp_law (TL : Tabs) (K : PySem.W.Frag) : Sp := fun vs H Q u3_ => Sp_lawI TL K vs H Q
theorem ok_law {f cN : Addr} {fd : FuncData} {TL : Tabs} (F : Fun K "law" "law" s_law f fd) (N_ : NoNames mg) (G__law_grown : GF P w K mg base CX0 2 "_law_grown" ["_law_cells"] (sp_grown K)) (G__law_room : GF P w K mg base CX0 1 "_law_room" ["_law_script", "_law_most", "_law_bound"] (sp_room K)) (G__law_at : GF P w K mg base CX0 1 "_law_at" ["_law_script", "_law_k"] (sp_lat K))
    (G__law_calls_of_forms : GF P w K mg base CX0 2 "_law_calls_of_forms" ["_law_term"] sp_calls) (G__law_some_of : GF P w K mg base CX0 1 "_law_some_of" ["_law_paths", "_law_cell"] sp_some) (G__law_copies : GF P w K mg base CX0 1 "_law_copies" ["_law_paths"] sp_copies) (G__law_refuses : GF P w K mg base CX0 14 "_law_refuses" ["_law_way", "_law_term", "_law_paths"] (sp_refuses TL))
    (G__law_are_paths : GF P w K mg base CX0 2 "_law_are_paths" ["_law_found"] sp_are_paths) (G__law_developed : GF P w K mg base CX0 5 "_law_developed" ["_law_term", "_law_paths"] sp_developed) (G_at_once : GF P w K mg base (CXE P w) 13 "at_once" ["term", "paths"] (sp_at_once TL cN)) (G_walked : GF P w K mg base (CXE P w) 5 "walked" ["term", "paths"] (sp_walked cN))
    (G__law_is_term : GF P w K mg base CX0 2 "_law_is_term" ["_law_found"] sp_lis_term) (G__law_stepped : GF P w K mg base CX0 4 "_law_stepped" ["_law_term", "_law_path"] sp_stepped) : FnOk P w K mg base CX0 15 f fd ["_law_script"] (sp_law TL K) := by
  refine F.ok sc_law (fun vs H Q E h => ?_) (fun cdv A outer s H vs Q E hr h => ?_)
  · obtain ⟨a, ns, rfl, _⟩ := h
    rfl
  · obtain ⟨a, ns, rfl, hS, hl, to0, k⟩ := h
    have huu : A.units + 3 + 16 * 14 + 200 < cLine := hr.un
    refine ⟨_, (pss_cons (ps_set (i := 1) sc_law.nd rfl (Or.inl rfl) (pe_gf G__law_grown (hr.mono (by decide)) rfl pass0 (pa_c (pe_slice sl_ls (pv 0) (po_some pe_int) (po_some (pe_op op_add pe_int (pe_gf G__law_room (hr.mono (by decide)) rfl pass0 (pa_c (pv 0) (pa_c pe_int (pa_c pe_int pa_nil))))))) pa_nil)))
      (pss_cons (ps_set (i := 2) sc_law.nd rfl (Or.inl rfl) (pe_gf G__law_calls_of_forms (hr.mono (by decide)) rfl pass0 (pa_c (pv 1) pa_nil)))
      (pss_cons (ps_set (i := 3) sc_law.nd rfl (Or.inl rfl) (pe_gf G__law_some_of (hr.mono (by decide)) rfl pass0 (pa_c (pv 2) (pa_c (pe_gf G__law_at (hr.mono (by decide)) rfl pass0 (pa_c (pv 0) (pa_c pe_int pa_nil))) pa_nil))))
      (pss_cons (ps_if (pt_cmpR op_eq (pe_op op_mod (pe_gf G__law_at (hr.mono (by decide)) rfl pass0 (pa_c (pv 0) (pa_c pe_int pa_nil))) pe_int) pe_int (nomark _)) (pss_one (ps_set (i := 3) sc_law.nd rfl (Or.inl rfl) (pe_lrev hr.hd rfl N_.reversed rfl N_.list (pv 3)))) pss_nil)
      (pss_cons (ps_set (i := 4) sc_law.nd rfl (Or.inl rfl) (pe_op op_mulL (pLst (pa_c (pe_op op_mod (pe_op op_fdiv (pe_gf G__law_at (hr.mono (by decide)) rfl pass0 (pa_c (pv 0) (pa_c pe_int pa_nil))) pe_int) pe_int) pa_nil)) (pe_op op_mod (pe_op op_fdiv (pe_gf G__law_at (hr.mono (by decide)) rfl pass0 (pa_c (pv 0) (pa_c pe_int pa_nil))) pe_int) pe_int)))
      (pss_cons (ps_if (PW.pt (pw_and (pt_cmpR op_eq (pe_op op_mod (pe_op op_fdiv (pe_gf G__law_at (hr.mono (by decide)) rfl pass0 (pa_c (pv 0) (pa_c pe_int pa_nil))) pe_int) pe_int) pe_int (nomark _)) (pw_and1 (pt_cmpR op_notInP (pv 4) (pv 2) rfl)))) (pss_one (ps_expr (pApp (pv 3) (pv 4)))) pss_nil)
      (pss_cons (ps_set (i := 5) sc_law.nd rfl (Or.inl rfl) (pe_gf G__law_copies (hr.mono (by decide)) rfl pass0 (pa_c (pv 3) pa_nil)))
      (pss_cons (ps_for PassesOwn.never rfl (pi_range1 rfl N_.range (pa_c pe_int pa_nil)) (pg_name (i := 6) sc_law.nd rfl (Or.inl rfl)) (pss_one (ps_if (pt_cmpR op_ne (pe_gf G__law_refuses (hr.mono (by decide)) rfl pass0 (pa_c (pv 6) (pa_c (pv 1) (pa_c (pv 5) pa_nil)))) (pe_and (pe_cmpR op_inP (pv 4) (pv 3) rfl) (pe_one (pe_cmpR op_notInP (pv 4) (pv 2) rfl))) (nomark _)) (pss_one (ps_ret pe_bl)) pss_nil)))
      (pss_cons (ps_if (PW.pt (pw_or (pt_not (pt_val (pe_gf G__law_are_paths (hr.mono (by decide)) rfl pass0 (pa_c (pv 5) pa_nil)))) (pw_or1 (pt_cmpR op_neD (pv 5) (pv 3) (nomark _))))) (pss_one (ps_ret pe_bl)) pss_nil)
      (pss_cons (ps_if (PW.pt (pw_and (pt_cmpR op_inP (pv 4) (pv 3) rfl) (pw_and1 (pt_cmpR op_notInP (pv 4) (pv 2) rfl)))) (pss_one (ps_ret pe_bl)) pss_nil)
      (pss_cons (ps_set (i := 7) sc_law.nd rfl (Or.inl rfl) (pe_gf G__law_developed (hr.mono (by decide)) rfl pass0 (pa_c (pv 1) (pa_c (pv 3) pa_nil))))
      (pss_cons (ps_set (i := 8) sc_law.nd rfl (Or.inl rfl) (pe_gf G_at_once (hr.mono (by decide)) rfl passF (pa_c (pv 1) (pa_c (pv 5) pa_nil))))
      (pss_cons (ps_if (PW.pt (pw_or (pt_not (pt_val (pe_gf G__law_is_term (hr.mono (by decide)) rfl pass0 (pa_c (pv 8) pa_nil)))) (pw_or1 (pt_cmpR op_neD (pv 8) (pv 7) (nomark _))))) (pss_one (ps_ret pe_bl)) pss_nil)
      (pss_cons (ps_set (i := 9) sc_law.nd rfl (Or.inl rfl) (pe_gf G_walked (hr.mono (by decide)) rfl passF (pa_c (pv 1) (pa_c (pv 5) pa_nil))))
      (pss_cons (ps_if (pt_not (pt_val (pe_gf G__law_are_paths (hr.mono (by decide)) rfl pass0 (pa_c (pv 9) pa_nil)))) (pss_one (ps_ret pe_bl)) pss_nil)
      (pss_cons (ps_set (i := 10) sc_law.nd rfl (Or.inl rfl) (pv 1))
      (pss_cons (ps_for PassesOwn.never rfl (pi_list (pv 9)) (pg_name (i := 11) sc_law.nd rfl (Or.inl rfl)) (pss_cons (ps_set (i := 10) sc_law.nd rfl (Or.inl rfl) (pe_gf G__law_stepped (hr.mono (by decide)) rfl pass0 (pa_c (pv 10) (pa_c (pv 11) pa_nil))))
      (pss_one (ps_if (pt_cmpR op_isN (pv 10) pe_non (nomark _)) (pss_one (ps_ret pe_bl)) pss_nil))))
      (pss_one (ps_ret (pe_cmpR op_eqD (pv 10) (pv 7) (nomark _))))))))))))))))))))), ?_⟩
    show (let V1_ : TS := _; let V2_ : TS := _; let V3_ : TS := tIfS _ V2_ _; let V4_ : TS := tSeq _ V3_; let V5_ : TS := tSeq (tFor _ _ V4_) V1_; let V6_ : TS := tSeq _ V5_; let V7_ : TS := _; let V8_ : TS := tSeq (tIfS _ V7_ _) V6_; let V9_ : TS := tSeq _ V8_; let V10_ : TS := _; let V11_ : TS := tSeq (tIfS _ V10_ _) V9_; let V12_ : TS := tSeq _ V11_; let V13_ : TS := tSeq _ V12_; let V14_ : TS := _; let V15_ : TS := tSeq (tIfS _ V14_ _) V13_; let V16_ : TS := _; let V17_ : TS := tSeq (tIfS _ V16_ _) V15_; let V18_ : TS := _; let V19_ : TS := tIfS _ V18_ _; let V20_ : TS := tSeq (tFor _ _ V19_) V17_; let V21_ : TS := tSeq _ V20_; let V22_ : TS := _; let V23_ : TS := tSeq (tIfS _ V22_ _) V21_; let V24_ : TS := tSeq _ V23_; let V25_ : TS := _; let V26_ : TS := tSeq (tIfS _ V25_ _) V24_; let V27_ : TS := tSeq _ V26_; let V28_ : TS := tSeq _ V27_; tSeq _ V28_ _ _ _)
    intro V1_ V2_ V3_ V4_ V5_ V6_ V7_ V8_ V9_ V10_ V11_ V12_ V13_ V14_ V15_ V16_ V17_ V18_ V19_ V20_ V21_ V22_ V23_ V24_ V25_ V26_ V27_ V28_
    refine ⟨_, rfl, _, rfl, _, rfl, a, ns, _, _, rfl, hS, hl, _, _, rfl, rfl, _, rfl, a, _, rfl, hS, fun p1 H1 np1 s1 h1 => ?_⟩
    obtain ⟨ms, h1, hms⟩ := cut_atB 2 12 h1
    refine ⟨p1, ms, rfl, SqL.of h1, by omega, fun v t H2 s2 hv hsz => ?_⟩
    have hsz : t.size <= 21 := by omega
    have hS2 := sql_same (sql_same hS s1) s2
    have to2 := (to0.same s1).same s2
    refine ⟨_, rfl, v, t, rfl, hv, by omega, fun ev evs He se nev hev hpe => ?_⟩
    have hve := hv.same se
    have hSe := sql_same hS2 se
    have toe := to2.same se
    have hfew := spots_len t
    have hevl : evs.length < 64 := by
      have := Paired.length hpe
      omega
    refine ⟨_, rfl, _, rfl, a, ns, 0, rfl, hSe, hl, fun c0 => ⟨ev, evs, t.spots, c0, rfl, hev, hpe, hevl, fun pa rs ps H3 s3 npa hpa hp3 hsub => ?_⟩⟩
    have s_nd : ps.Nodup := hsub.nodup (spots_nodup t)
    have s_all : ∀ p ∈ ps, p ∈ t.spots := fun p hp => hsub.subset hp
    have s_len : rs.length < 64 := by
      have h1 := Paired.length hp3
      have h2 := hsub.length_le
      omega
    show V26_ _ _ _
    refine tseq_cut (u := V24_) fun K1 h1 => ?_
    have rest1 : ∀ (pa : Addr) (rs : List V) (ps : List (List Int)) (H3 : Hp), Same He H3 -> He pa = none -> H3 pa = some (.lst rs) -> Paired (PathV He) rs ps -> ps.Nodup -> (∀ p ∈ ps, p ∈ t.spots) -> rs.length < 60 -> K1 [some (.ref a), some v, some (.ref ev), some (.ref pa), none, none, none, none, none, none, none, none] H3 := by
      intro pa rs ps H3 s3 npa hpa hp3 s_nd s_all s_len
      refine h1 _ _ ?_
      have hS3 := sql_same hSe s3
      refine ⟨_, rfl, a, ns, 1, rfl, hS3, hl, fun c2 => ⟨_, _, rfl, rfl, ⟨by decide, by decide⟩, _, _, rfl, rfl, (show (0 : Int) < 2 by decide), small' (by show 1 <= 1000000; decide), fun q H5 nq s5 h5 => ?_⟩⟩
      refine ⟨_, rfl, a, ns, 1, rfl, sql_same hS3 s5, hl, fun c3 => ?_⟩
      have hn0 : 0 <= c3 / 8 % 5 := Int.emod_nonneg _ (by decide)
      have hn5 : c3 / 8 % 5 < 5 := Int.emod_lt_of_pos _ (by decide)
      obtain ⟨n, hn⟩ : ∃ n : Nat, c3 / 8 % 5 = (n : Int) := ⟨_, (Int.toNat_of_nonneg hn0).symm⟩
      refine ⟨_, _, rfl, rfl, ⟨by decide, by decide⟩, _, _, rfl, rfl, (show (0 : Int) < 5 by decide), q, _, n, rfl, by rw [hn], h5, by omega, fun bd H6 nb s6 h6 => ?_⟩
      have hbd : PathV H6 (.ref bd) (List.replicate n (c2 / 4 % 2)) := ⟨bd, rfl, by rw [h6, List.map_replicate]⟩
      have hbl : (List.replicate n (c2 / 4 % 2)).length <= 900 := by rw [List.length_replicate]; omega
      generalize List.replicate n (c2 / 4 % 2) = bp at hbd hbl
      clear h6
      have s36 := s5.trans s6
      have se6 := s3.trans s36
      have hpa6 := s36 _ _ hpa
      have hbne : bd ≠ pa := fun z => by rw [z, s5 _ _ hpa] at nb; cases nb
      show V23_ _ _ _
      refine tseq_cut (u := V21_) fun K2 h2 => ?_
      have rest2 : ∀ (rs : List V) (ps : List (List Int)) (H7 : Hp), Same He H7 -> H7 pa = some (.lst rs) -> Paired (PathV H7) rs ps -> PathV H7 (.ref bd) bp -> ps.Nodup -> rs.length < 64 -> (∀ p ∈ ps, p.length <= 900) -> ((bp ∈ ps /\ bp ∉ t.spots) ∨ ∀ p ∈ ps, p ∈ t.spots) -> K2 [some (.ref a), some v, some (.ref ev), some (.ref pa), some (.ref bd), none, none, none, none, none, none, none] H7 := by
        intro rs ps H7 s7 hpa7 hp7 hbd7 hnd h64 hlen hor
        refine h2 _ _ ?_
        have hv7 := hve.same s7
        have hev7 := s7 _ _ hev
        have hpe7 : Paired (PathV H7) evs t.spots := paired_imp (fun _ _ h => h.same s7) hpe
        refine ⟨_, rfl, pa, rs, ps, rfl, hpa7, hp7, h64, fun hd rs3 H8 s8 nhd hhd hp8 => ?_⟩
        have hv8 := hv7.same s8
        have to8 := (toe.same s7).same s8
        have h64' : rs3.length < 64 := by
          have h1 := Paired.length hp8
          have h2 := Paired.length hp7
          omega
        have units : A.units + 3 + 3 < cLine := by omega
        refine ⟨_, rfl, by decide, by decide, ?_⟩
        refine for_range (lo := 0) (n := 2) (fun i σ H' => ∃ x6, σ = [some (.ref a), some v, some (.ref ev), some (.ref pa), some (.ref bd), some (.ref hd), x6, none, none, none, none, none] /\ ST TL H8 H') ⟨none, rfl, ST.of_same to8 (fun _ _ h => h)⟩ ?_ ?_
        · rintro i σ H9 hi ⟨x6, rfl, st9⟩
          have sxL : ∀ {l : Addr} {xs : List V}, H8 l = some (.lst xs) -> H9 l = some (.lst xs) := fun h => st9.sx _ _ (fun _ z => by cases z) h
          refine ⟨_, rfl, _, rfl, _, rfl, _, v, t, hd, rs3, ps, rfl, hv8.mono st9.tups, by omega, sxL hhd, paired_imp (fun _ _ h => sx_path h st9.sx) hp8, hlen, h64', hnd, st9.to, fun b H10 st10 hb => ?_⟩
          have sx10 : SameX H8 H10 := fun c o n e => st10.sx c o n (st9.sx c o n e)
          have sxL2 : ∀ {l : Addr} {xs : List V}, H7 l = some (.lst xs) -> H10 l = some (.lst xs) := fun h => sx10 _ _ (fun _ z => by cases z) (s8 _ _ h)
          have sxP : ∀ {v : V} {p : List Int}, PathV H7 v p -> PathV H10 v p := fun h => sx_path (h.same s8) sx10
          refine ⟨_, rfl, _, rfl, pa, rs, ps, bp, rfl, sxL2 hpa7, paired_imp (fun _ _ h => sxP h) hp7, sxP hbd7, units, _, rfl, ?_⟩
          rcases hor with ⟨hin, hout⟩ | hall
          · have eb : b = true := hb.mpr fun z => hout (z bp hin)
            subst eb
            rw [show (if false = true then !decide (bp ∈ ps) else decide (bp ∈ ps)) = true from decide_eq_true hin]
            refine iteT ⟨_, rfl, _, rfl, ev, evs, t.spots, bp, rfl, sxL2 hev7, paired_imp (fun _ _ h => sxP h) hpe7, sxP hbd7, units, ?_⟩
            rw [show (if true = true then !decide (bp ∈ t.spots) else decide (bp ∈ t.spots)) = true by simp [hout]]
            exact ⟨rfl, _, rfl, ifNF rfl ⟨_, rfl, fun c o n e => st10.sx c o n (st9.sx c o n e), st10.to⟩⟩
          · have eb : b = false := by
              cases b with
              | false => rfl
              | true => exact absurd hall (hb.mp rfl)
            subst eb
            by_cases hin : bp ∈ ps
            · rw [show (if false = true then !decide (bp ∈ ps) else decide (bp ∈ ps)) = true from decide_eq_true hin]
              refine iteT ⟨_, rfl, _, rfl, ev, evs, t.spots, bp, rfl, sxL2 hev7, paired_imp (fun _ _ h => sxP h) hpe7, sxP hbd7, units, ?_⟩
              rw [show (if true = true then !decide (bp ∈ t.spots) else decide (bp ∈ t.spots)) = false by simp [hall bp hin]]
              exact ⟨rfl, _, rfl, ifNF rfl ⟨_, rfl, fun c o n e => st10.sx c o n (st9.sx c o n e), st10.to⟩⟩
            · rw [show (if false = true then !decide (bp ∈ ps) else decide (bp ∈ ps)) = false from decide_eq_false hin]
              exact iteF ⟨rfl, _, rfl, ifNF rfl ⟨_, rfl, fun c o n e => st10.sx c o n (st9.sx c o n e), st10.to⟩⟩
        · rintro σ H10 ⟨x6, rfl, st10⟩
          have sxL : ∀ {l : Addr} {xs : List V}, H8 l = some (.lst xs) -> H10 l = some (.lst xs) := fun h => st10.sx _ _ (fun _ z => by cases z) h
          have sxL2 : ∀ {l : Addr} {xs : List V}, H7 l = some (.lst xs) -> H10 l = some (.lst xs) := fun h => sxL (s8 _ _ h)
          have sxP : ∀ {v : V} {p : List Int}, PathV H7 v p -> PathV H10 v p := fun h => sx_path (h.same s8) st10.sx
          have hhd10 := sxL hhd
          have hp10 : Paired (PathV H10) rs3 ps := paired_imp (fun _ _ h => sx_path h st10.sx) hp8
          have hpa10 := sxL2 hpa7
          have hpp10 : Paired (PathV H10) rs ps := paired_imp (fun _ _ h => sxP h) hp7
          refine ⟨_, rfl, hd, rs3, ps, rfl, hhd10, hp10, _, rfl, iteF ⟨_, rfl, _, rfl, ?_⟩⟩
          refine ⟨1, psD ps, psD ps, hd, pa, rfl, rfl, psD_lim ps, by show A.units + 3 + 1 + 1 < cLine; omega, psD_dat hhd10 hp10, psD_dat hpa10 hpp10, fun b hb => ?_⟩
          rw [hb.mpr rfl]
          refine ⟨_, rfl, iteF ?_⟩
          have hbd10 := sxP hbd7
          have hev10 := sxL2 hev7
          have hpe10 : Paired (PathV H10) evs t.spots := paired_imp (fun _ _ h => sxP h) hpe7
          have hv10 : TermAt H10 v t := hv8.mono st10.tups
          show V15_ _ _ _
          refine tseq_cut (u := V13_) fun K3 h3 => ?_
          have rest3 : (∀ p ∈ ps, p ∈ t.spots) -> K3 [some (.ref a), some v, some (.ref ev), some (.ref pa), some (.ref bd), some (.ref hd), x6, none, none, none, none, none] H10 := fun hall => by
            refine h3 _ _ ?_
            have hdvs : (dv t ps).size + 1 <= 40000 := Nat.le_trans (dv_size t ps) (uz_25 (by omega) ps)
            have hdvd : (dv t ps).deep <= 127 := Nat.le_trans (dv_deep t ps) (Nat.le_trans (ud_le t ps) (by omega))
            refine ⟨_, rfl, _, rfl, v, t, pa, rs, ps, rfl, hv10, by omega, hpa10, hpp10, hlen, h64, hnd, hall, fun vd H11 s11 hvd => ?_⟩
            refine ⟨_, rfl, _, rfl, v, t, hd, rs3, ps, rfl, hv10.same s11, by omega, s11 _ _ hhd10, paired_imp (fun _ _ h => h.same s11) hp10, hlen, h64', hnd, st10.to.same s11, fun _ vf H12 st12 hvf => ?_, fun hno => absurd hall hno⟩
            have hvd12 := hvd.mono st12.tups
            obtain ⟨cd, rfl⟩ := hvd.ref
            obtain ⟨cf, rfl⟩ := hvf.ref
            refine ⟨_, rfl, _, _, rfl, hvf, by omega, fun H13 s13 => ⟨_, rfl, iteF ⟨_, rfl, _, rfl, ?_⟩⟩⟩
            refine ⟨127, termD (dv t ps), termD (dv t ps), cf, cd, rfl, rfl, term_lim _ _ (by omega), by show A.units + 3 + 127 + 1 < cLine; omega, term_dat (hvf.same s13), term_dat (hvd12.same s13), fun b hb => ?_⟩
            rw [hb.mpr rfl]
            refine ⟨_, rfl, iteF ?_⟩
            have hv13 : TermAt H13 v t := ((hv10.same s11).mono st12.tups).same s13
            have hhd13 : H13 hd = some (.lst rs3) := s13 _ _ (st12.sx _ _ (fun _ z => by cases z) (s11 _ _ hhd10))
            have hp13 : Paired (PathV H13) rs3 ps := paired_imp (fun _ _ h => (sx_path (h.same s11) st12.sx).same s13) hp10
            refine ⟨_, rfl, _, rfl, v, t, hd, rs3, ps, rfl, hv13, Nat.le_trans (T.deep_le t) (by omega), hhd13, hp13, hlen, h64', fun _ tl rs5 ps5 H15 s15 ntl htl hp15 perm desc => ?_, fun hno => absurd hall hno⟩
            refine ⟨_, rfl, tl, rs5, ps5, rfl, htl, hp15, _, rfl, iteF ?_⟩
            obtain ⟨hdev, hdv⟩ := Dev.of_perm hall hnd perm desc
            refine ⟨_, rfl, ?_⟩
            refine ⟨_, rfl, tl, rfl, ⟨_, SqL.of htl⟩, for_list (K := K) (a := tl) (xs := rs5) (InvTold H15 [some (.ref a), some v, some (.ref ev), some (.ref pa), some (.ref bd), some (.ref hd)] (.ref cd) (.ref cf) tl t ps5) ⟨v, t, x6, none, rfl, fun _ _ h => h, hv13.same s15, hdev, rfl, uz_25 (by omega) _⟩ (fun i σ H' _ h => by
              obtain ⟨_, _, _, _, _, sm, _⟩ := h
              exact SqL.of (sm _ _ htl)) ?_ ?_⟩
            · rintro i y σ H' hi ⟨v', t', x6, x11, rfl, s4, ht', hdv', hdv2, huz⟩
              obtain ⟨p, hp2, c, rfl, hc⟩ := paired_get hp15 hi
              have hdrop : ps5.drop i = p :: ps5.drop (i + 1) := drop_get hp2
              rw [hdrop] at hdv' hdv2 huz
              obtain ⟨t'', hstep, hdev2, hdv3, huz2, _, _⟩ := dev_step t' p (ps5.drop (i + 1)) hdv'
              have hsize : t'.size + 1 <= 40000 := Nat.le_trans (size_uz t' _) huz
              have hpl900 : p.length <= 900 := hlen p (perm.mem_iff.mp (List.mem_of_getElem? hp2))
              have est : stepT t' p = some t'' := (stepT_eq p t').trans hstep
              refine ⟨_, rfl, _, rfl, v', t', c, p, rfl, ht', by omega, s4 _ _ hc, hpl900, fun r hr' v2 H5 s5 hv2 => ?_, fun hn => ?_⟩
              · have er : t'' = r := Option.some.inj (est.symm.trans hr')
                subst er
                obtain ⟨av, eav⟩ := hv2.ref
                refine ⟨_, rfl, rfl, _, rfl, ifF (fun z => by rw [eav] at z; cases z) ?_⟩
                exact ⟨v2, _, _, _, rfl, s4.trans s5, hv2, hdev2, hdv3.trans hdv2, Nat.le_trans huz2 huz⟩
              · rw [hn] at est
                cases est
            · rintro σ H' ⟨v', t', x6, x11, rfl, s4, ht', hdv', hdv2, huz⟩
              rw [Paired.length hp15, List.drop_length, dv_nil, hdv] at hdv2
              rw [hdv2] at ht'
              obtain ⟨ch, rfl⟩ := ht'.ref
              refine ⟨_, rfl, _, rfl, ?_⟩
              refine ⟨127, termD (dv t ps), termD (dv t ps), ch, cd, rfl, rfl, term_lim _ _ (by omega), by show A.units + 3 + 127 + 1 < cLine; omega, term_dat ht', term_dat (((hvd12.same s13).same s15).same s4), fun b hb => ?_⟩
              rw [hb.mpr rfl]
              exact k H'
          refine ⟨_, rfl, _, rfl, pa, rs, ps, bp, rfl, hpa10, hpp10, hbd10, units, _, rfl, ?_⟩
          rcases hor with ⟨hin, hout⟩ | hall
          · rw [show (if false = true then !decide (bp ∈ ps) else decide (bp ∈ ps)) = true from decide_eq_true hin]
            refine iteT ⟨_, rfl, _, rfl, ev, evs, t.spots, bp, rfl, hev10, hpe10, hbd10, units, _, rfl, ?_⟩
            rw [show (if true = true then !decide (bp ∈ t.spots) else decide (bp ∈ t.spots)) = true by simp [hout]]
            exact iteT (k H10)
          · by_cases hin : bp ∈ ps
            · rw [show (if false = true then !decide (bp ∈ ps) else decide (bp ∈ ps)) = true from decide_eq_true hin]
              refine iteT ⟨_, rfl, _, rfl, ev, evs, t.spots, bp, rfl, hev10, hpe10, hbd10, units, _, rfl, ?_⟩
              rw [show (if true = true then !decide (bp ∈ t.spots) else decide (bp ∈ t.spots)) = false by simp [hall bp hin]]
              exact iteF (rest3 hall)
            · rw [show (if false = true then !decide (bp ∈ ps) else decide (bp ∈ ps)) = false from decide_eq_false hin]
              exact iteF (iteF (rest3 hall))
      have hpp6 : Paired (PathV H6) rs ps := paired_imp (fun _ _ h => h.same se6) hp3
      have hlen6 : ∀ p ∈ ps, p.length <= 900 := fun p hp => Nat.le_trans (spot_len t p (s_all p hp)) (by omega)
      have stay : K2 [some (.ref a), some v, some (.ref ev), some (.ref pa), some (.ref bd), none, none, none, none, none, none, none] H6 := rest2 rs ps H6 se6 hpa6 hpp6 hbd s_nd (by omega) hlen6 (.inr s_all)
      have units : A.units + 3 + 3 < cLine := by omega
      refine ⟨_, rfl, a, ns, 1, rfl, sql_same hSe se6, hl, fun c4 => ⟨_, _, rfl, rfl, ⟨by decide, by decide⟩, _, _, rfl, rfl, (show (0 : Int) < 2 by decide), rfl, _, rfl, ifD (fun _ => ?_) (fun _ => iteF stay)⟩⟩
      refine ⟨_, rfl, _, rfl, ev, evs, t.spots, bp, rfl, se6 _ _ hev, paired_imp (fun _ _ h => h.same se6) hpe, hbd, units, _, rfl, ?_⟩
      by_cases hin : bp ∈ t.spots
      · rw [show (if true = true then !decide (bp ∈ t.spots) else decide (bp ∈ t.spots)) = false by simp [hin]]
        exact iteF stay
      · rw [show (if true = true then !decide (bp ∈ t.spots) else decide (bp ∈ t.spots)) = true by simp [hin]]
        refine iteT ⟨_, rfl, Or.inl ⟨rfl, _, SqL.of hpa6⟩, _, rfl, _, _, _, rfl, rfl, hpa6, small (by omega), fun H8 k8 h8 => ?_⟩
        have s8 : Same He H8 := same_keep1 se6 k8 npa
        have hbd8 : PathV H8 (.ref bd) bp := by
          obtain ⟨l, e, q⟩ := hbd
          cases e
          exact ⟨bd, rfl, k8 _ _ (by simp [hbne]) q⟩
        refine rest2 _ (ps ++ [bp]) H8 s8 h8 (paired_snoc hbd8 (paired_imp (fun _ _ h => h.same s8) hp3)) hbd8 ?_ (by rw [List.length_append, List.length_singleton]; omega) (fun p hp => ?_) (.inl ⟨by simp, hin⟩)
        · rw [List.nodup_append]
          refine ⟨s_nd, by simp, fun x hx y hy => ?_⟩
          rw [List.mem_singleton.mp hy]
          intro z
          exact hin (s_all _ (by rw [<- z]; exact hx))
        · rcases List.mem_append.mp hp with hp | hp
          · exact hlen6 p hp
          · rw [List.mem_singleton.mp hp]; exact hbl
    have s_len : rs.length < 60 := by
      have h1 := Paired.length hp3
      have h2 := hsub.length_le
      omega
    refine ⟨_, rfl, a, ns, 1, rfl, sql_same hSe s3, hl, fun c1 => ⟨_, _, rfl, rfl, (show (0 : Int) < 2 by decide), rfl, _, rfl, ifD (fun _ => ?_) (fun _ => rest1 pa rs ps H3 s3 npa hpa hp3 s_nd s_all s_len)⟩⟩
    refine ⟨_, rfl, pa, rs, rfl, SqL.of hpa, fun p2 np2 => ?_⟩
    refine rest1 p2 rs.reverse ps.reverse _ (s3.trans (same_new np2)) (s3.free np2) upd_same (paired_rev hp3) ?_ (fun p hp => s_all p (List.mem_reverse.mp hp)) (by rw [List.length_reverse]; exact s_len)
    exact (List.reverse_perm ps).nodup_iff.mpr s_nd
end
end NC
def PySem.W.Fast.tw10288100063154838236 : Nat := 0
def PySem.W.Fast.tw14282705335686457524 : Nat := 0
def PySem.W.Fast.tw17547247638817660667 : Nat := 0
def PySem.W.Fast.tw11896519023584812270 : Nat := 0
def PySem.W.Fast.tw6827361677940042745 : Nat := 0
def PySem.W.Fast.tw18032272348616666228 : Nat := 0
def PySem.W.Fast.tw6409701942401278492 : Nat := 0
def PySem.W.Fast.tw8358189508269454344 : Nat := 0
def PySem.W.Fast.tw4413964894639977299 : Nat := 0
def PySem.W.Fast.tw937560964330554266 : Nat := 0
def PySem.W.Fast.tw1943069442191893585 : Nat := 0
def PySem.W.Fast.tw817185499879933253 : Nat := 0
def PySem.W.Fast.tw16555560587075157237 : Nat := 0
def PySem.W.Fast.tw8587805103173770310 : Nat := 0
def PySem.W.Fast.tw2303971374147734475 : Nat := 0
namespace NC
open PySem PySem.Spec PyProof.Rows L2
theorem all_mk {l : PySem.W.OpenLaw} {w : World} {K : PySem.W.Frag} {h : Heap} {mg : Str -> Option Value} {fa C c0 c1 c2 c3 f1 f2 f3 f4 f5 f6 f7 f8 f9 f10 f11 f12 f13 f14 f15 f16 f17 f18 f19 f20 f21 f22 f23 f24 f25 f26 f27 f28 f29 f30 f31 f32 f33 f34 f35 f36 f37 f38 f39 f40 f41 : Addr} (T0 T1 T2 T3 : Addr) {C2 : Addr} {hA cN : Addr} {hoD : Option Addr} {hoN : Nat} {hoS : Array (Option Value)} {hoT : Tok} (X : K.In h) (G : h.Ns mainGlobals mg) (hfa : mg "law" = some (.ref fa))
    {od1 an1 od2 an2 od3 an3 od4 an4 od5 an5 od6 an6 od7 an7 od8 an8 od9 an9 od10 an10 od11 an11 od12 an12 od13 an13 od14 an14 od15 an15 od16 an16 od17 an17 od18 an18 od19 an19 od20 an20 od21 an21 od22 an22 od23 an23 od24 an24 od25 an25 od26 an26 od27 an27 od28 an28 od29 an29 od30 an30 od31 an31 od32 an32 od33 an33 od34 an34 od35 an35 od36 an36 od37 an37 od38 an38 od39 an39 od40 an40 od41 an41 : Option Addr} {sl1 sl2 sl3 sl4 sl5 sl6 sl7 sl8 sl9 sl10 sl11 sl12 sl13 sl14 sl15 sl16 sl17 sl18 sl19 sl20 sl21 sl22 sl23 sl24 sl25 sl26 sl27 sl28 sl29 sl30 sl31 sl32 sl33 sl34 sl35 sl36 sl37 sl38 sl39 sl40 sl41 : Array (Option Value)} {oc1 kV1 dc1 pm1 ct1 cd1 oc2 kV2 dc2 pm2 ct2 cd2 oc3 kV3 dc3 pm3 ct3 oc4 kV4 dc4 pm4 ct4 cd4 oc5 kV5 dc5 pm5 ct5 oc6 kV6 dc6 pm6 ct6 oc7 kV7 dc7 pm7 ct7 cd7 oc8 kV8 dc8 pm8 ct8 cd8 oc9 kV9 dc9 pm9 ct9 oc10 kV10 dc10 pm10 ct10 cd10 oc11 kV11 dc11 pm11 ct11 cd11 oc12 kV12 dc12 pm12 ct12 cd12 oc13 kV13 dc13 pm13 ct13 cd13 oc14 kV14 dc14 pm14 ct14 cd14 oc15 kV15 dc15 pm15 ct15 cd15 oc16 kV16 dc16 pm16 ct16 cd16 oc17 kV17 dc17 pm17 ct17 cd17 oc18 kV18 dc18 pm18 ct18 cd18 oc19 kV19 dc19 pm19 ct19 cd19 oc20 kV20 dc20 pm20 ct20 cd20 oc21 kV21 dc21 pm21 ct21 cd21 oc22 kV22 dc22 pm22 ct22 cd22 oc23 kV23 dc23 pm23 ct23 cd23 oc24 kV24 dc24 pm24 ct24 cd24 oc25 kV25 dc25 pm25 ct25 cd25 oc26 kV26 dc26 pm26 ct26 cd26 oc27 kV27 dc27 pm27 ct27 cd27 oc28 kV28 dc28 pm28 ct28 cd28 oc29 kV29 dc29 pm29 ct29 cd29 oc30 kV30 dc30 pm30 ct30 cd30 oc31 kV31 dc31 pm31 ct31 cd31 oc32 kV32 dc32 pm32 ct32 cd32 oc33 kV33 dc33 pm33 ct33 cd33 oc34 kV34 dc34 pm34 ct34 cd34 oc35 kV35 dc35 pm35 ct35 cd35 oc36 kV36 dc36 pm36 ct36 cd36 oc37 kV37 dc37 pm37 ct37 cd37 oc38 kV38 dc38 pm38 ct38 cd38 oc39 kV39 dc39 pm39 ct39 cd39 oc40 kV40 dc40 pm40 ct40 cd40 oc41 kV41 dc41 pm41 ct41 cd41 : Value}
    (a1 : PySem.W.nsIn K mainGlobals "is_outer" = some (some (.ref f1)))
    (a2 : PySem.W.nsIn K mainGlobals "walk" = some (some (.ref f2)))
    (a3 : PySem.W.nsIn K mainGlobals "parts_of" = some (some (.ref f3)))
    (a4 : PySem.W.nsIn K mainGlobals "built" = some (some (.ref f4)))
    (a5 : PySem.W.nsIn K mainGlobals "rebuilt" = some (some (.ref f5)))
    (a6 : PySem.W.nsIn K mainGlobals "lifted" = some (some (.ref f6)))
    (a9 : PySem.W.nsIn K mainGlobals "filled" = some (some (.ref f9)))
    (a10 : PySem.W.nsIn K mainGlobals "is_spot" = some (some (.ref f10)))
    (a18 : PySem.W.nsIn K mainGlobals "stand_at" = some (some (.ref f18)))
    (a19 : PySem.W.nsIn K mainGlobals "check" = some (some (.ref f19)))
    (a20 : PySem.W.nsIn K mainGlobals "walked" = some (some (.ref f20)))
    (a21 : PySem.W.nsIn K mainGlobals "moved" = some (some (.ref f21)))
    (a22 : PySem.W.nsIn K mainGlobals "behind" = some (some (.ref f22)))
    (a23 : PySem.W.nsIn K mainGlobals "at_once" = some (some (.ref f23)))
    (a24 : PySem.W.nsIn K mainGlobals "_law_whole" = some (some (.ref f24)))
    (a25 : PySem.W.nsIn K mainGlobals "_law_any" = some (some (.ref f25)))
    (a26 : PySem.W.nsIn K mainGlobals "_law_any_word" = some (some (.ref f26)))
    (a27 : PySem.W.nsIn K mainGlobals "_law_grown" = some (some (.ref f27)))
    (a28 : PySem.W.nsIn K mainGlobals "_law_at" = some (some (.ref f28)))
    (a29 : PySem.W.nsIn K mainGlobals "_law_parts" = some (some (.ref f29)))
    (a30 : PySem.W.nsIn K mainGlobals "_law_raised" = some (some (.ref f30)))
    (a31 : PySem.W.nsIn K mainGlobals "_law_stuffed" = some (some (.ref f31)))
    (a32 : PySem.W.nsIn K mainGlobals "_law_stepped" = some (some (.ref f32)))
    (a33 : PySem.W.nsIn K mainGlobals "_law_calls_of_forms" = some (some (.ref f33)))
    (a34 : PySem.W.nsIn K mainGlobals "_law_developed" = some (some (.ref f34)))
    (a35 : PySem.W.nsIn K mainGlobals "_law_is_term" = some (some (.ref f35)))
    (a36 : PySem.W.nsIn K mainGlobals "_law_are_paths" = some (some (.ref f36)))
    (a37 : PySem.W.nsIn K mainGlobals "_law_some_of" = some (some (.ref f37)))
    (a38 : PySem.W.nsIn K mainGlobals "_law_copies" = some (some (.ref f38)))
    (a39 : PySem.W.nsIn K mainGlobals "_law_refuses" = some (some (.ref f39)))
    (a40 : PySem.W.nsIn K mainGlobals "_law_room" = some (some (.ref f40)))
    (a41 : PySem.W.nsIn K mainGlobals "law" = some (some (.ref f41)))
    (yC : PySem.W.nsIn K mainGlobals "Raised" = some (some (.ref C))) (yM : PySem.W.makesIn K C = true) (yI : PySem.W.findIn K (.ref C) "__init__" = some (some (.ref f7))) (yIf : PySem.W.isFn K (.ref f7) = true) (yK : PySem.W.keepIn K (.ref C) = true)
    (y1 : PySem.W.plainGet K C Str.empty = true) (y2 : PySem.W.hasDictIn K C = true) (y3 : PySem.W.plainOver K C = true) (y4 : PySem.W.findIn K (.ref C) "__setattr__" = some (some (.builtin "object.__setattr__")))
    (yB_by : PySem.W.findIn K (.ref C) "by" = some (some (.ref f8))) (yF_by : PySem.W.isFn K (.ref f8) = true)
    (yN_term : PySem.W.findIn K (.ref C) "term" = some none)
    (yN_ready : PySem.W.findIn K (.ref C) "ready" = some none)
    (yC2 : PySem.W.nsIn K mainGlobals "Stand" = some (some (.ref C2))) (yM2 : PySem.W.makesIn K C2 = true) (yI2 : PySem.W.findIn K (.ref C2) "__init__" = some (some (.ref f11))) (yIf2 : PySem.W.isFn K (.ref f11) = true) (yK2 : PySem.W.keepIn K (.ref C2) = true)
    (y12 : PySem.W.plainGet K C2 Str.empty = true) (y22 : PySem.W.hasDictIn K C2 = true) (y32 : PySem.W.plainOver K C2 = true) (y42 : PySem.W.findIn K (.ref C2) "__setattr__" = some (some (.builtin "object.__setattr__")))
    (yB2_leads_on : PySem.W.findIn K (.ref C2) "leads_on" = some (some (.ref f12))) (yF2_leads_on : PySem.W.isFn K (.ref f12) = true)
    (yB2_go_down : PySem.W.findIn K (.ref C2) "go_down" = some (some (.ref f13))) (yF2_go_down : PySem.W.isFn K (.ref f13) = true)
    (yB2_go_up : PySem.W.findIn K (.ref C2) "go_up" = some (some (.ref f14))) (yF2_go_up : PySem.W.isFn K (.ref f14) = true)
    (yB2_go_to_top : PySem.W.findIn K (.ref C2) "go_to_top" = some (some (.ref f15))) (yF2_go_to_top : PySem.W.isFn K (.ref f15) = true)
    (yB2_is_called : PySem.W.findIn K (.ref C2) "is_called" = some (some (.ref f16))) (yF2_is_called : PySem.W.isFn K (.ref f16) = true)
    (yB2_do_step : PySem.W.findIn K (.ref C2) "do_step" = some (some (.ref f17))) (yF2_do_step : PySem.W.isFn K (.ref f17) = true)
    (yN2_part : PySem.W.findIn K (.ref C2) "part" = some none)
    (yN2_above : PySem.W.findIn K (.ref C2) "above" = some none)
    (eH : PySem.W.nsIn K mainGlobals "HOLE" = some (some (.ref hA))) (eHl : K.lookup hA = some ⟨.type "tuple", hoD, .seq #[.str (Str.ofString "hole") hoT] hoN, hoS⟩)
    (eN : PySem.W.nsIn K mainGlobals "NoStep" = some (some (.ref cN)))
    (eX : PySem.W.excIn K cN [.type "ValueError", .type "Exception", .type "BaseException", .type "object"] "ValueError.__new__" = true) (e2 : PySem.W.exmOne K (.ref cN) (.ref cN) = some true)
    (l1 : K.lookup f1 = some ⟨oc1, od1, .func (PySem.W.fnOf "is_outer" "is_outer" (defArgs s_is_outer) (defBody s_is_outer) (defScope s_is_outer) .none kV1 dc1 pm1 an1 cd1 ct1), sl1⟩) (c1' : PySem.W.codeIn K cd1 "is_outer" = true) (k1 : PySem.W.keepIn K (.ref f1) = true)
    (l2 : K.lookup f2 = some ⟨oc2, od2, .func (PySem.W.fnOf "walk" "walk" (defArgs s_walk) (defBody s_walk) (defScope s_walk) .none kV2 dc2 pm2 an2 cd2 ct2), sl2⟩) (c2' : PySem.W.codeIn K cd2 "walk" = true) (k2 : PySem.W.keepIn K (.ref f2) = true)
    (l3 : K.lookup f3 = some ⟨oc3, od3, .func (PySem.W.fnOf "parts_of" "parts_of" (defArgs s_parts_of) (defBody s_parts_of) (defScope s_parts_of) .none kV3 dc3 pm3 an3 (.ref c0) ct3), sl3⟩) (c3' : PySem.W.codeIn K (.ref c0) "parts_of" = true) (k3 : PySem.W.keepIn K (.ref f3) = true)
    (l4 : K.lookup f4 = some ⟨oc4, od4, .func (PySem.W.fnOf "built" "built" (defArgs s_built) (defBody s_built) (defScope s_built) .none kV4 dc4 pm4 an4 cd4 ct4), sl4⟩) (c4' : PySem.W.codeIn K cd4 "built" = true) (k4 : PySem.W.keepIn K (.ref f4) = true)
    (l5 : K.lookup f5 = some ⟨oc5, od5, .func (PySem.W.fnOf "rebuilt" "rebuilt" (defArgs s_rebuilt) (defBody s_rebuilt) (defScope s_rebuilt) .none kV5 dc5 pm5 an5 (.ref c1) ct5), sl5⟩) (c5' : PySem.W.codeIn K (.ref c1) "rebuilt" = true) (k5 : PySem.W.keepIn K (.ref f5) = true)
    (l6 : K.lookup f6 = some ⟨oc6, od6, .func (PySem.W.fnOf "lifted" "lifted" (defArgs s_lifted) (defBody s_lifted) (defScope s_lifted) .none kV6 dc6 pm6 an6 (.ref c2) ct6), sl6⟩) (c6' : PySem.W.codeIn K (.ref c2) "lifted" = true) (k6 : PySem.W.keepIn K (.ref f6) = true)
    (l7 : K.lookup f7 = some ⟨oc7, od7, .func (PySem.W.fnOf "__init__" "Raised.__init__" (defArgs s_Raised___init__) (defBody s_Raised___init__) (defScope s_Raised___init__) .none kV7 dc7 pm7 an7 cd7 ct7), sl7⟩) (c7' : PySem.W.codeIn K cd7 "Raised.__init__" = true) (k7 : PySem.W.keepIn K (.ref f7) = true)
    (l8 : K.lookup f8 = some ⟨oc8, od8, .func (PySem.W.fnOf "by" "Raised.by" (defArgs s_Raised_by) (defBody s_Raised_by) (defScope s_Raised_by) .none kV8 dc8 pm8 an8 cd8 ct8), sl8⟩) (c8' : PySem.W.codeIn K cd8 "Raised.by" = true) (k8 : PySem.W.keepIn K (.ref f8) = true)
    (l9 : K.lookup f9 = some ⟨oc9, od9, .func (PySem.W.fnOf "filled" "filled" (defArgs s_filled) (defBody s_filled) (defScope s_filled) .none kV9 dc9 pm9 an9 (.ref c3) ct9), sl9⟩) (c9' : PySem.W.codeIn K (.ref c3) "filled" = true) (k9 : PySem.W.keepIn K (.ref f9) = true)
    (l10 : K.lookup f10 = some ⟨oc10, od10, .func (PySem.W.fnOf "is_spot" "is_spot" (defArgs s_is_spot) (defBody s_is_spot) (defScope s_is_spot) .none kV10 dc10 pm10 an10 cd10 ct10), sl10⟩) (c10' : PySem.W.codeIn K cd10 "is_spot" = true) (k10 : PySem.W.keepIn K (.ref f10) = true)
    (l11 : K.lookup f11 = some ⟨oc11, od11, .func (PySem.W.fnOf "__init__" "Stand.__init__" (defArgs s_Stand___init__) (defBody s_Stand___init__) (defScope s_Stand___init__) .none kV11 dc11 pm11 an11 cd11 ct11), sl11⟩) (c11' : PySem.W.codeIn K cd11 "Stand.__init__" = true) (k11 : PySem.W.keepIn K (.ref f11) = true)
    (l12 : K.lookup f12 = some ⟨oc12, od12, .func (PySem.W.fnOf "leads_on" "Stand.leads_on" (defArgs s_Stand_leads_on) (defBody s_Stand_leads_on) (defScope s_Stand_leads_on) .none kV12 dc12 pm12 an12 cd12 ct12), sl12⟩) (c12' : PySem.W.codeIn K cd12 "Stand.leads_on" = true) (k12 : PySem.W.keepIn K (.ref f12) = true)
    (l13 : K.lookup f13 = some ⟨oc13, od13, .func (PySem.W.fnOf "go_down" "Stand.go_down" (defArgs s_Stand_go_down) (defBody s_Stand_go_down) (defScope s_Stand_go_down) .none kV13 dc13 pm13 an13 cd13 ct13), sl13⟩) (c13' : PySem.W.codeIn K cd13 "Stand.go_down" = true) (k13 : PySem.W.keepIn K (.ref f13) = true)
    (l14 : K.lookup f14 = some ⟨oc14, od14, .func (PySem.W.fnOf "go_up" "Stand.go_up" (defArgs s_Stand_go_up) (defBody s_Stand_go_up) (defScope s_Stand_go_up) .none kV14 dc14 pm14 an14 cd14 ct14), sl14⟩) (c14' : PySem.W.codeIn K cd14 "Stand.go_up" = true) (k14 : PySem.W.keepIn K (.ref f14) = true)
    (l15 : K.lookup f15 = some ⟨oc15, od15, .func (PySem.W.fnOf "go_to_top" "Stand.go_to_top" (defArgs s_Stand_go_to_top) (defBody s_Stand_go_to_top) (defScope s_Stand_go_to_top) .none kV15 dc15 pm15 an15 cd15 ct15), sl15⟩) (c15' : PySem.W.codeIn K cd15 "Stand.go_to_top" = true) (k15 : PySem.W.keepIn K (.ref f15) = true)
    (l16 : K.lookup f16 = some ⟨oc16, od16, .func (PySem.W.fnOf "is_called" "Stand.is_called" (defArgs s_Stand_is_called) (defBody s_Stand_is_called) (defScope s_Stand_is_called) .none kV16 dc16 pm16 an16 cd16 ct16), sl16⟩) (c16' : PySem.W.codeIn K cd16 "Stand.is_called" = true) (k16 : PySem.W.keepIn K (.ref f16) = true)
    (l17 : K.lookup f17 = some ⟨oc17, od17, .func (PySem.W.fnOf "do_step" "Stand.do_step" (defArgs s_Stand_do_step) (defBody s_Stand_do_step) (defScope s_Stand_do_step) .none kV17 dc17 pm17 an17 cd17 ct17), sl17⟩) (c17' : PySem.W.codeIn K cd17 "Stand.do_step" = true) (k17 : PySem.W.keepIn K (.ref f17) = true)
    (l18 : K.lookup f18 = some ⟨oc18, od18, .func (PySem.W.fnOf "stand_at" "stand_at" (defArgs s_stand_at) (defBody s_stand_at) (defScope s_stand_at) .none kV18 dc18 pm18 an18 cd18 ct18), sl18⟩) (c18' : PySem.W.codeIn K cd18 "stand_at" = true) (k18 : PySem.W.keepIn K (.ref f18) = true)
    (l19 : K.lookup f19 = some ⟨oc19, od19, .func (PySem.W.fnOf "check" "check" (defArgs s_check) (defBody s_check) (defScope s_check) .none kV19 dc19 pm19 an19 cd19 ct19), sl19⟩) (c19' : PySem.W.codeIn K cd19 "check" = true) (k19 : PySem.W.keepIn K (.ref f19) = true)
    (l20 : K.lookup f20 = some ⟨oc20, od20, .func (PySem.W.fnOf "walked" "walked" (defArgs s_walked) (defBody s_walked) (defScope s_walked) .none kV20 dc20 pm20 an20 cd20 ct20), sl20⟩) (c20' : PySem.W.codeIn K cd20 "walked" = true) (k20 : PySem.W.keepIn K (.ref f20) = true)
    (l21 : K.lookup f21 = some ⟨oc21, od21, .func (PySem.W.fnOf "moved" "moved" (defArgs s_moved) (defBody s_moved) (defScope s_moved) .none kV21 dc21 pm21 an21 cd21 ct21), sl21⟩) (c21' : PySem.W.codeIn K cd21 "moved" = true) (k21 : PySem.W.keepIn K (.ref f21) = true)
    (l22 : K.lookup f22 = some ⟨oc22, od22, .func (PySem.W.fnOf "behind" "behind" (defArgs s_behind) (defBody s_behind) (defScope s_behind) .none kV22 dc22 pm22 an22 cd22 ct22), sl22⟩) (c22' : PySem.W.codeIn K cd22 "behind" = true) (k22 : PySem.W.keepIn K (.ref f22) = true)
    (l23 : K.lookup f23 = some ⟨oc23, od23, .func (PySem.W.fnOf "at_once" "at_once" (defArgs s_at_once) (defBody s_at_once) (defScope s_at_once) .none kV23 dc23 pm23 an23 cd23 ct23), sl23⟩) (c23' : PySem.W.codeIn K cd23 "at_once" = true) (k23 : PySem.W.keepIn K (.ref f23) = true)
    (l24 : K.lookup f24 = some ⟨oc24, od24, .func (PySem.W.fnOf "_law_whole" "_law_whole" (defArgs s__law_whole) (defBody s__law_whole) (defScope s__law_whole) .none kV24 dc24 pm24 an24 cd24 ct24), sl24⟩) (c24' : PySem.W.codeIn K cd24 "_law_whole" = true) (k24 : PySem.W.keepIn K (.ref f24) = true)
    (l25 : K.lookup f25 = some ⟨oc25, od25, .func (PySem.W.fnOf "_law_any" "_law_any" (defArgs s__law_any) (defBody s__law_any) (defScope s__law_any) .none kV25 dc25 pm25 an25 cd25 ct25), sl25⟩) (c25' : PySem.W.codeIn K cd25 "_law_any" = true) (k25 : PySem.W.keepIn K (.ref f25) = true)
    (l26 : K.lookup f26 = some ⟨oc26, od26, .func (PySem.W.fnOf "_law_any_word" "_law_any_word" (defArgs s__law_any_word) (defBody s__law_any_word) (defScope s__law_any_word) .none kV26 dc26 pm26 an26 cd26 ct26), sl26⟩) (c26' : PySem.W.codeIn K cd26 "_law_any_word" = true) (k26 : PySem.W.keepIn K (.ref f26) = true)
    (l27 : K.lookup f27 = some ⟨oc27, od27, .func (PySem.W.fnOf "_law_grown" "_law_grown" (defArgs s__law_grown) (defBody s__law_grown) (defScope s__law_grown) .none kV27 dc27 pm27 an27 cd27 ct27), sl27⟩) (c27' : PySem.W.codeIn K cd27 "_law_grown" = true) (k27 : PySem.W.keepIn K (.ref f27) = true)
    (l28 : K.lookup f28 = some ⟨oc28, od28, .func (PySem.W.fnOf "_law_at" "_law_at" (defArgs s__law_at) (defBody s__law_at) (defScope s__law_at) .none kV28 dc28 pm28 an28 cd28 ct28), sl28⟩) (c28' : PySem.W.codeIn K cd28 "_law_at" = true) (k28 : PySem.W.keepIn K (.ref f28) = true)
    (l29 : K.lookup f29 = some ⟨oc29, od29, .func (PySem.W.fnOf "_law_parts" "_law_parts" (defArgs s__law_parts) (defBody s__law_parts) (defScope s__law_parts) .none kV29 dc29 pm29 an29 cd29 ct29), sl29⟩) (c29' : PySem.W.codeIn K cd29 "_law_parts" = true) (k29 : PySem.W.keepIn K (.ref f29) = true)
    (l30 : K.lookup f30 = some ⟨oc30, od30, .func (PySem.W.fnOf "_law_raised" "_law_raised" (defArgs s__law_raised) (defBody s__law_raised) (defScope s__law_raised) .none kV30 dc30 pm30 an30 cd30 ct30), sl30⟩) (c30' : PySem.W.codeIn K cd30 "_law_raised" = true) (k30 : PySem.W.keepIn K (.ref f30) = true)
    (l31 : K.lookup f31 = some ⟨oc31, od31, .func (PySem.W.fnOf "_law_stuffed" "_law_stuffed" (defArgs s__law_stuffed) (defBody s__law_stuffed) (defScope s__law_stuffed) .none kV31 dc31 pm31 an31 cd31 ct31), sl31⟩) (c31' : PySem.W.codeIn K cd31 "_law_stuffed" = true) (k31 : PySem.W.keepIn K (.ref f31) = true)
    (l32 : K.lookup f32 = some ⟨oc32, od32, .func (PySem.W.fnOf "_law_stepped" "_law_stepped" (defArgs s__law_stepped) (defBody s__law_stepped) (defScope s__law_stepped) .none kV32 dc32 pm32 an32 cd32 ct32), sl32⟩) (c32' : PySem.W.codeIn K cd32 "_law_stepped" = true) (k32 : PySem.W.keepIn K (.ref f32) = true)
    (l33 : K.lookup f33 = some ⟨oc33, od33, .func (PySem.W.fnOf "_law_calls_of_forms" "_law_calls_of_forms" (defArgs s__law_calls_of_forms) (defBody s__law_calls_of_forms) (defScope s__law_calls_of_forms) .none kV33 dc33 pm33 an33 cd33 ct33), sl33⟩) (c33' : PySem.W.codeIn K cd33 "_law_calls_of_forms" = true) (k33 : PySem.W.keepIn K (.ref f33) = true)
    (l34 : K.lookup f34 = some ⟨oc34, od34, .func (PySem.W.fnOf "_law_developed" "_law_developed" (defArgs s__law_developed) (defBody s__law_developed) (defScope s__law_developed) .none kV34 dc34 pm34 an34 cd34 ct34), sl34⟩) (c34' : PySem.W.codeIn K cd34 "_law_developed" = true) (k34 : PySem.W.keepIn K (.ref f34) = true)
    (l35 : K.lookup f35 = some ⟨oc35, od35, .func (PySem.W.fnOf "_law_is_term" "_law_is_term" (defArgs s__law_is_term) (defBody s__law_is_term) (defScope s__law_is_term) .none kV35 dc35 pm35 an35 cd35 ct35), sl35⟩) (c35' : PySem.W.codeIn K cd35 "_law_is_term" = true) (k35 : PySem.W.keepIn K (.ref f35) = true)
    (l36 : K.lookup f36 = some ⟨oc36, od36, .func (PySem.W.fnOf "_law_are_paths" "_law_are_paths" (defArgs s__law_are_paths) (defBody s__law_are_paths) (defScope s__law_are_paths) .none kV36 dc36 pm36 an36 cd36 ct36), sl36⟩) (c36' : PySem.W.codeIn K cd36 "_law_are_paths" = true) (k36 : PySem.W.keepIn K (.ref f36) = true)
    (l37 : K.lookup f37 = some ⟨oc37, od37, .func (PySem.W.fnOf "_law_some_of" "_law_some_of" (defArgs s__law_some_of) (defBody s__law_some_of) (defScope s__law_some_of) .none kV37 dc37 pm37 an37 cd37 ct37), sl37⟩) (c37' : PySem.W.codeIn K cd37 "_law_some_of" = true) (k37 : PySem.W.keepIn K (.ref f37) = true)
    (l38 : K.lookup f38 = some ⟨oc38, od38, .func (PySem.W.fnOf "_law_copies" "_law_copies" (defArgs s__law_copies) (defBody s__law_copies) (defScope s__law_copies) .none kV38 dc38 pm38 an38 cd38 ct38), sl38⟩) (c38' : PySem.W.codeIn K cd38 "_law_copies" = true) (k38 : PySem.W.keepIn K (.ref f38) = true)
    (l39 : K.lookup f39 = some ⟨oc39, od39, .func (PySem.W.fnOf "_law_refuses" "_law_refuses" (defArgs s__law_refuses) (defBody s__law_refuses) (defScope s__law_refuses) .none kV39 dc39 pm39 an39 cd39 ct39), sl39⟩) (c39' : PySem.W.codeIn K cd39 "_law_refuses" = true) (k39 : PySem.W.keepIn K (.ref f39) = true)
    (l40 : K.lookup f40 = some ⟨oc40, od40, .func (PySem.W.fnOf "_law_room" "_law_room" (defArgs s__law_room) (defBody s__law_room) (defScope s__law_room) .none kV40 dc40 pm40 an40 cd40 ct40), sl40⟩) (c40' : PySem.W.codeIn K cd40 "_law_room" = true) (k40 : PySem.W.keepIn K (.ref f40) = true)
    (l41 : K.lookup f41 = some ⟨oc41, od41, .func (PySem.W.fnOf "law" "law" (defArgs s_law) (defBody s_law) (defScope s_law) .none kV41 dc41 pm41 an41 cd41 ct41), sl41⟩) (c41' : PySem.W.codeIn K cd41 "law" = true) (k41 : PySem.W.keepIn K (.ref f41) = true)
    (z0 : PySem.W.nsIn K mainGlobals "len" = some none) (z1 : PySem.W.nsIn K mainGlobals "abs" = some none) (z2 : PySem.W.nsIn K mainGlobals "isinstance" = some none) (z3 : PySem.W.nsIn K mainGlobals "list" = some none) (z4 : PySem.W.nsIn K mainGlobals "tuple" = some none) (z5 : PySem.W.nsIn K mainGlobals "str" = some none) (z6 : PySem.W.nsIn K mainGlobals "reversed" = some none) (z7 : PySem.W.nsIn K mainGlobals "int" = some none) (z8 : PySem.W.nsIn K mainGlobals "bool" = some none) (z9 : PySem.W.nsIn K mainGlobals "sorted" = some none) (z10 : PySem.W.nsIn K mainGlobals "range" = some none) (z11 : PySem.W.nsIn K mainGlobals "zip" = some none)
    (hC0 : PySem.W.codeHdIn K c0 T0 = true) (hC1 : PySem.W.codeHdIn K c1 T1 = true) (hC2 : PySem.W.codeHdIn K c2 T2 = true) (hC3 : PySem.W.codeHdIn K c3 T3 = true) (hT : [T0, T1, T2, T3].Nodup) :
    ∃ fd : FuncData, (∀ (s : Shared) (v : Value), BindsTo s fd ⟨[v], []⟩ [("_law_script", v)]) /\ ∀ base : Heap, K.In base -> base.Ns mainGlobals mg -> BltAt base mg -> FnOk l.prog w K mg base CX0 15 fa fd ["_law_script"] (sp_law [(T0, lamPos l_parts_of_0, q_parts_of_0), (T1, lamPos l_rebuilt_0, q_rebuilt_0), (T2, defPos s_lifted_raised, q_raised), (T3, defPos s_filled_fill, q_fill)] K) := by
  have e := hfa.symm.trans (PySem.W.mg_of X G a41)
  cases e
  have N_ : NoNames mg := ⟨PySem.W.mg_none_of X G z0, PySem.W.mg_none_of X G z1, PySem.W.mg_none_of X G z2, PySem.W.mg_none_of X G z3, PySem.W.mg_none_of X G z4, PySem.W.mg_none_of X G z5, PySem.W.mg_none_of X G z6, PySem.W.mg_none_of X G z7, PySem.W.mg_none_of X G z8, PySem.W.mg_none_of X G z9, PySem.W.mg_none_of X G z10, PySem.W.mg_none_of X G z11⟩
  have dis : TDis [(T0, lamPos l_parts_of_0, q_parts_of_0), (T1, lamPos l_rebuilt_0, q_rebuilt_0), (T2, defPos s_lifted_raised, q_raised), (T3, defPos s_filled_fill, q_fill)] := tdis_of hT
  have hT0 : (T0, lamPos l_parts_of_0, q_parts_of_0) ∈ ([(T0, lamPos l_parts_of_0, q_parts_of_0), (T1, lamPos l_rebuilt_0, q_rebuilt_0), (T2, defPos s_lifted_raised, q_raised), (T3, defPos s_filled_fill, q_fill)] : Tabs) := (.head _)
  have hT1 : (T1, lamPos l_rebuilt_0, q_rebuilt_0) ∈ ([(T0, lamPos l_parts_of_0, q_parts_of_0), (T1, lamPos l_rebuilt_0, q_rebuilt_0), (T2, defPos s_lifted_raised, q_raised), (T3, defPos s_filled_fill, q_fill)] : Tabs) := (.tail _ (.head _))
  have hT2 : (T2, defPos s_lifted_raised, q_raised) ∈ ([(T0, lamPos l_parts_of_0, q_parts_of_0), (T1, lamPos l_rebuilt_0, q_rebuilt_0), (T2, defPos s_lifted_raised, q_raised), (T3, defPos s_filled_fill, q_fill)] : Tabs) := (.tail _ (.tail _ (.head _)))
  have hT3 : (T3, defPos s_filled_fill, q_fill) ∈ ([(T0, lamPos l_parts_of_0, q_parts_of_0), (T1, lamPos l_rebuilt_0, q_rebuilt_0), (T2, defPos s_lifted_raised, q_raised), (T3, defPos s_filled_fill, q_fill)] : Tabs) := (.tail _ (.tail _ (.tail _ (.head _))))
  have R : RCls K C := ⟨⟨y1, y2, y3, y4⟩, yN_term, yN_ready⟩
  have R2 : StCls K C2 := ⟨⟨y12, y22, y32, y42⟩, yN2_part, yN2_above⟩
  have hH : HoleK K mg hA := ⟨PySem.W.mg_of X G eH, fun H => .inr ⟨_, _, _, eHl, rfl, rfl, by show 1 <= sizeLine; decide, .cons ⟨_, rfl⟩ .nil⟩⟩
  have X_ : ExcsN K mg cN := ⟨PySem.W.mg_of X G eN, e2⟩
  have F1 := fun_mk (st := s_is_outer) l1 c1' k1
  have b1 := F1.binds (ps := ["part", "forms"]) fun _ _ _ _ _ _ us hl => by obtain ⟨_, _, rfl⟩ := len2 hl; rfl
  have m1 := PySem.W.mg_of X G a1
  have F2 := fun_mk (st := s_walk) l2 c2' k2
  have b2 := F2.binds (ps := ["term", "around", "inward"]) fun _ _ _ _ _ _ us hl => by obtain ⟨_, _, _, rfl⟩ := len3 hl; rfl
  have m2 := PySem.W.mg_of X G a2
  have F3 : FunC K "parts_of" "parts_of" s_parts_of f3 _ c0 := ⟨⟨_, _, _, _, _, _, _, _, rfl, l3, c3'⟩⟩
  have b3 : Binds K (PySem.W.fnOf "parts_of" "parts_of" (defArgs s_parts_of) (defBody s_parts_of) (defScope s_parts_of) .none kV3 dc3 pm3 an3 (.ref c0) ct3) ["term"] [] := .all fun us hl => by obtain ⟨_, rfl⟩ := len1 hl; rfl
  have m3 := PySem.W.mg_of X G a3
  have F4 := fun_mk (st := s_built) l4 c4' k4
  have b4 := F4.binds (ps := ["found", "leaf", "over"]) fun _ _ _ _ _ _ us hl => by obtain ⟨_, _, _, rfl⟩ := len3 hl; rfl
  have m4 := PySem.W.mg_of X G a4
  have F5 : FunC K "rebuilt" "rebuilt" s_rebuilt f5 _ c1 := ⟨⟨_, _, _, _, _, _, _, _, rfl, l5, c5'⟩⟩
  have b5 : Binds K (PySem.W.fnOf "rebuilt" "rebuilt" (defArgs s_rebuilt) (defBody s_rebuilt) (defScope s_rebuilt) .none kV5 dc5 pm5 an5 (.ref c1) ct5) ["term", "change"] [] := .all fun us hl => by obtain ⟨_, _, rfl⟩ := len2 hl; rfl
  have m5 := PySem.W.mg_of X G a5
  have F6 : FunC K "lifted" "lifted" s_lifted f6 _ c2 := ⟨⟨_, _, _, _, _, _, _, _, rfl, l6, c6'⟩⟩
  have b6 : Binds K (PySem.W.fnOf "lifted" "lifted" (defArgs s_lifted) (defBody s_lifted) (defScope s_lifted) .none kV6 dc6 pm6 an6 (.ref c2) ct6) ["term", "by"] [] := .all fun us hl => by obtain ⟨_, _, rfl⟩ := len2 hl; rfl
  have m6 := PySem.W.mg_of X G a6
  have F7 := fun_mk (st := s_Raised___init__) l7 c7' k7
  have b7 := F7.binds (ps := ["self", "term"]) fun _ _ _ _ _ _ us hl => by obtain ⟨_, _, rfl⟩ := len2 hl; rfl
  have F8 := fun_mk (st := s_Raised_by) l8 c8' k8
  have b8 := F8.binds (ps := ["self", "forms"]) fun _ _ _ _ _ _ us hl => by obtain ⟨_, _, rfl⟩ := len2 hl; rfl
  have F9 : FunC K "filled" "filled" s_filled f9 _ c3 := ⟨⟨_, _, _, _, _, _, _, _, rfl, l9, c9'⟩⟩
  have b9 : Binds K (PySem.W.fnOf "filled" "filled" (defArgs s_filled) (defBody s_filled) (defScope s_filled) .none kV9 dc9 pm9 an9 (.ref c3) ct9) ["body", "term"] [] := .all fun us hl => by obtain ⟨_, _, rfl⟩ := len2 hl; rfl
  have m9 := PySem.W.mg_of X G a9
  have F10 := fun_mk (st := s_is_spot) l10 c10' k10
  have b10 := F10.binds (ps := ["part"]) fun _ _ _ _ _ _ us hl => by obtain ⟨_, rfl⟩ := len1 hl; rfl
  have m10 := PySem.W.mg_of X G a10
  have F11 := fun_mk (st := s_Stand___init__) l11 c11' k11
  have b11 := F11.binds (ps := ["self", "term"]) fun _ _ _ _ _ _ us hl => by obtain ⟨_, _, rfl⟩ := len2 hl; rfl
  have F12 := fun_mk (st := s_Stand_leads_on) l12 c12' k12
  have b12 := F12.binds (ps := ["self", "turn"]) fun _ _ _ _ _ _ us hl => by obtain ⟨_, _, rfl⟩ := len2 hl; rfl
  have F13 := fun_mk (st := s_Stand_go_down) l13 c13' k13
  have b13 := F13.binds (ps := ["self", "turn"]) fun _ _ _ _ _ _ us hl => by obtain ⟨_, _, rfl⟩ := len2 hl; rfl
  have F14 := fun_mk (st := s_Stand_go_up) l14 c14' k14
  have b14 := F14.binds (ps := ["self"]) fun _ _ _ _ _ _ us hl => by obtain ⟨_, rfl⟩ := len1 hl; rfl
  have F15 := fun_mk (st := s_Stand_go_to_top) l15 c15' k15
  have b15 := F15.binds (ps := ["self"]) fun _ _ _ _ _ _ us hl => by obtain ⟨_, rfl⟩ := len1 hl; rfl
  have F16 := fun_mk (st := s_Stand_is_called) l16 c16' k16
  have b16 := F16.binds (ps := ["self"]) fun _ _ _ _ _ _ us hl => by obtain ⟨_, rfl⟩ := len1 hl; rfl
  have F17 := fun_mk (st := s_Stand_do_step) l17 c17' k17
  have b17 := F17.binds (ps := ["self"]) fun _ _ _ _ _ _ us hl => by obtain ⟨_, rfl⟩ := len1 hl; rfl
  have F18 := fun_mk (st := s_stand_at) l18 c18' k18
  have b18 := F18.binds (ps := ["term", "path"]) fun _ _ _ _ _ _ us hl => by obtain ⟨_, _, rfl⟩ := len2 hl; rfl
  have m18 := PySem.W.mg_of X G a18
  have F19 := fun_mk (st := s_check) l19 c19' k19
  have b19 := F19.binds (ps := ["term", "paths"]) fun _ _ _ _ _ _ us hl => by obtain ⟨_, _, rfl⟩ := len2 hl; rfl
  have m19 := PySem.W.mg_of X G a19
  have F20 := fun_mk (st := s_walked) l20 c20' k20
  have b20 := F20.binds (ps := ["term", "paths"]) fun _ _ _ _ _ _ us hl => by obtain ⟨_, _, rfl⟩ := len2 hl; rfl
  have m20 := PySem.W.mg_of X G a20
  have F21 := fun_mk (st := s_moved) l21 c21' k21
  have b21 := F21.binds (ps := ["paths", "spot", "body"]) fun _ _ _ _ _ _ us hl => by obtain ⟨_, _, _, rfl⟩ := len3 hl; rfl
  have m21 := PySem.W.mg_of X G a21
  have F22 := fun_mk (st := s_behind) l22 c22' k22
  have b22 := F22.binds (ps := ["term", "paths", "done"]) fun _ _ _ _ _ _ us hl => by obtain ⟨_, _, _, rfl⟩ := len3 hl; rfl
  have m22 := PySem.W.mg_of X G a22
  have F23 := fun_mk (st := s_at_once) l23 c23' k23
  have b23 := F23.binds (ps := ["term", "paths"]) fun _ _ _ _ _ _ us hl => by obtain ⟨_, _, rfl⟩ := len2 hl; rfl
  have m23 := PySem.W.mg_of X G a23
  have F24 := fun_mk (st := s__law_whole) l24 c24' k24
  have b24 := F24.binds (ps := ["_law_found"]) fun _ _ _ _ _ _ us hl => by obtain ⟨_, rfl⟩ := len1 hl; rfl
  have m24 := PySem.W.mg_of X G a24
  have F25 := fun_mk (st := s__law_any) l25 c25' k25
  have b25 := F25.binds (ps := ["_law_cell"]) fun _ _ _ _ _ _ us hl => by obtain ⟨_, rfl⟩ := len1 hl; rfl
  have m25 := PySem.W.mg_of X G a25
  have F26 := fun_mk (st := s__law_any_word) l26 c26' k26
  have b26 := F26.binds (ps := ["_law_cell"]) fun _ _ _ _ _ _ us hl => by obtain ⟨_, rfl⟩ := len1 hl; rfl
  have m26 := PySem.W.mg_of X G a26
  have F27 := fun_mk (st := s__law_grown) l27 c27' k27
  have b27 := F27.binds (ps := ["_law_cells"]) fun _ _ _ _ _ _ us hl => by obtain ⟨_, rfl⟩ := len1 hl; rfl
  have m27 := PySem.W.mg_of X G a27
  have F28 := fun_mk (st := s__law_at) l28 c28' k28
  have b28 := F28.binds (ps := ["_law_script", "_law_k"]) fun _ _ _ _ _ _ us hl => by obtain ⟨_, _, rfl⟩ := len2 hl; rfl
  have m28 := PySem.W.mg_of X G a28
  have F29 := fun_mk (st := s__law_parts) l29 c29' k29
  have b29 := F29.binds (ps := ["_law_term"]) fun _ _ _ _ _ _ us hl => by obtain ⟨_, rfl⟩ := len1 hl; rfl
  have m29 := PySem.W.mg_of X G a29
  have F30 := fun_mk (st := s__law_raised) l30 c30' k30
  have b30 := F30.binds (ps := ["_law_term", "_law_by"]) fun _ _ _ _ _ _ us hl => by obtain ⟨_, _, rfl⟩ := len2 hl; rfl
  have m30 := PySem.W.mg_of X G a30
  have F31 := fun_mk (st := s__law_stuffed) l31 c31' k31
  have b31 := F31.binds (ps := ["_law_body", "_law_given"]) fun _ _ _ _ _ _ us hl => by obtain ⟨_, _, rfl⟩ := len2 hl; rfl
  have m31 := PySem.W.mg_of X G a31
  have F32 := fun_mk (st := s__law_stepped) l32 c32' k32
  have b32 := F32.binds (ps := ["_law_term", "_law_path"]) fun _ _ _ _ _ _ us hl => by obtain ⟨_, _, rfl⟩ := len2 hl; rfl
  have m32 := PySem.W.mg_of X G a32
  have F33 := fun_mk (st := s__law_calls_of_forms) l33 c33' k33
  have b33 := F33.binds (ps := ["_law_term"]) fun _ _ _ _ _ _ us hl => by obtain ⟨_, rfl⟩ := len1 hl; rfl
  have m33 := PySem.W.mg_of X G a33
  have F34 := fun_mk (st := s__law_developed) l34 c34' k34
  have b34 := F34.binds (ps := ["_law_term", "_law_paths"]) fun _ _ _ _ _ _ us hl => by obtain ⟨_, _, rfl⟩ := len2 hl; rfl
  have m34 := PySem.W.mg_of X G a34
  have F35 := fun_mk (st := s__law_is_term) l35 c35' k35
  have b35 := F35.binds (ps := ["_law_found"]) fun _ _ _ _ _ _ us hl => by obtain ⟨_, rfl⟩ := len1 hl; rfl
  have m35 := PySem.W.mg_of X G a35
  have F36 := fun_mk (st := s__law_are_paths) l36 c36' k36
  have b36 := F36.binds (ps := ["_law_found"]) fun _ _ _ _ _ _ us hl => by obtain ⟨_, rfl⟩ := len1 hl; rfl
  have m36 := PySem.W.mg_of X G a36
  have F37 := fun_mk (st := s__law_some_of) l37 c37' k37
  have b37 := F37.binds (ps := ["_law_paths", "_law_cell"]) fun _ _ _ _ _ _ us hl => by obtain ⟨_, _, rfl⟩ := len2 hl; rfl
  have m37 := PySem.W.mg_of X G a37
  have F38 := fun_mk (st := s__law_copies) l38 c38' k38
  have b38 := F38.binds (ps := ["_law_paths"]) fun _ _ _ _ _ _ us hl => by obtain ⟨_, rfl⟩ := len1 hl; rfl
  have m38 := PySem.W.mg_of X G a38
  have F39 := fun_mk (st := s__law_refuses) l39 c39' k39
  have b39 := F39.binds (ps := ["_law_way", "_law_term", "_law_paths"]) fun _ _ _ _ _ _ us hl => by obtain ⟨_, _, _, rfl⟩ := len3 hl; rfl
  have m39 := PySem.W.mg_of X G a39
  have F40 := fun_mk (st := s__law_room) l40 c40' k40
  have b40 := F40.binds (ps := ["_law_script", "_law_most", "_law_bound"]) fun _ _ _ _ _ _ us hl => by obtain ⟨_, _, _, rfl⟩ := len3 hl; rfl
  have m40 := PySem.W.mg_of X G a40
  have F41 := fun_mk (st := s_law) l41 c41' k41
  have b41 := F41.binds (ps := ["_law_script"]) fun _ _ _ _ _ _ us hl => by obtain ⟨_, rfl⟩ := len1 hl; rfl
  have m41 := PySem.W.mg_of X G a41
  refine ⟨PySem.W.fnOf "law" "law" (defArgs s_law) (defBody s_law) (defScope s_law) .none kV41 dc41 pm41 an41 cd41 ct41, fun s v => .of_eq rfl, fun base KB _ BB => ?_⟩
  have Go : ∀ base, GF l.prog w K mg base CX0 1 "is_outer" ["part", "forms"] sp_is_outer := fun base => ⟨_, _, ok_is_outer F1, m1, k1, b1⟩
  have Gw : ∀ base, GB l.prog w K mg base CX0 2 "walk" ["term", "around", "inward"] (sp_walk 1 l.prog w K mg) := fun base base' _ => ⟨_, _, ok_walk F2, m2, k2, b2⟩
  have Gp : ∀ base, BltAt base mg -> GF l.prog w K mg base CX0 3 "parts_of" ["term"] (sp_parts [(T0, lamPos l_parts_of_0, q_parts_of_0), (T1, lamPos l_rebuilt_0, q_rebuilt_0), (T2, defPos s_lifted_raised, q_raised), (T3, defPos s_filled_fill, q_fill)]) := fun base BB => ⟨_, _, ok_parts_of F3 hC0 BB dis hT0 (Gw base), m3, k3, b3⟩
  have Gb1 : ∀ base, GB l.prog w K mg base CX0 3 "built" ["found", "leaf", "over"] (sp_built [(T0, lamPos l_parts_of_0, q_parts_of_0), (T1, lamPos l_rebuilt_0, q_rebuilt_0), (T2, defPos s_lifted_raised, q_raised), (T3, defPos s_filled_fill, q_fill)] 2 l.prog w K mg) := fun base base' _ => ⟨_, _, ok_built F4 N_, m4, k4, b4⟩
  have Gb6 : ∀ base, GB l.prog w K mg base CX0 8 "built" ["found", "leaf", "over"] (sp_built [(T0, lamPos l_parts_of_0, q_parts_of_0), (T1, lamPos l_rebuilt_0, q_rebuilt_0), (T2, defPos s_lifted_raised, q_raised), (T3, defPos s_filled_fill, q_fill)] 7 l.prog w K mg) := fun base base' _ => ⟨_, _, ok_built F4 N_, m4, k4, b4⟩
  have Gr1 : ∀ base, BltAt base mg -> GB l.prog w K mg base CX0 4 "rebuilt" ["term", "change"] (sp_rebuilt [(T0, lamPos l_parts_of_0, q_parts_of_0), (T1, lamPos l_rebuilt_0, q_rebuilt_0), (T2, defPos s_lifted_raised, q_raised), (T3, defPos s_filled_fill, q_fill)] 2 l.prog w K mg) := fun base BB base' kb => ⟨_, _, ok_rebuilt (kf := 1) (by decide) F5 hC1 (BB.mono kb) dis hT1 (Gp base' (BB.mono kb)) (Gb1 base'), m5, k5, b5⟩
  have Gr6 : ∀ base, BltAt base mg -> GB l.prog w K mg base CX0 9 "rebuilt" ["term", "change"] (sp_rebuilt [(T0, lamPos l_parts_of_0, q_parts_of_0), (T1, lamPos l_rebuilt_0, q_rebuilt_0), (T2, defPos s_lifted_raised, q_raised), (T3, defPos s_filled_fill, q_fill)] 7 l.prog w K mg) := fun base BB base' kb => ⟨_, _, ok_rebuilt (kf := 6) (by decide) F5 hC1 (BB.mono kb) dis hT1 (Gp base' (BB.mono kb)) (Gb6 base'), m5, k5, b5⟩
  have Gl : ∀ base, BltAt base mg -> GF l.prog w K mg base CX0 5 "lifted" ["term", "by"] (sp_lifted [(T0, lamPos l_parts_of_0, q_parts_of_0), (T1, lamPos l_rebuilt_0, q_rebuilt_0), (T2, defPos s_lifted_raised, q_raised), (T3, defPos s_filled_fill, q_fill)]) := fun base BB => ⟨_, _, ok_lifted F6 hC2 BB dis hT2 Go (Gr1 base BB), m6, k6, b6⟩
  have Gby : ∀ base, BltAt base mg -> GM l.prog w K mg base CX0 6 C "by" ["self", "forms"] (sp_by [(T0, lamPos l_parts_of_0, q_parts_of_0), (T1, lamPos l_rebuilt_0, q_rebuilt_0), (T2, defPos s_lifted_raised, q_raised), (T3, defPos s_filled_fill, q_fill)] C) := fun base BB => ⟨_, _, ok_by F8 R (Gl base BB), ⟨yB_by, yF_by, k8⟩, b8⟩
  have Gk : GK l.prog w K mg base CX0 1 C "Raised" ["self", "term"] (sp_init C) := ⟨_, _, ok_init F7 R, ⟨yM, yI, yIf, yK⟩, PySem.W.mg_of X G yC, b7⟩
  have Gf : GF l.prog w K mg base CX0 10 "filled" ["body", "term"] (sp_filled [(T0, lamPos l_parts_of_0, q_parts_of_0), (T1, lamPos l_rebuilt_0, q_rebuilt_0), (T2, defPos s_lifted_raised, q_raised), (T3, defPos s_filled_fill, q_fill)]) := ⟨_, _, ok_filled F9 hC3 BB dis hT3 R.cl Go Gk (fun base' kb => Gby base' (BB.mono kb)) (Gr6 base BB), m9, k9, b9⟩
  have G_is_spot : GF l.prog w K mg base CX0 1 "is_spot" ["part"] sp_is_spot := ⟨_, _, ok_is_spot F10 , m10, k10, b10⟩
  have G_Stand : GK l.prog w K mg base CX0 1 C2 "Stand" ["self", "term"] (sp_sinit C2 hA) := ⟨_, _, ok_sinit F11 R2, ⟨yM2, yI2, yIf2, yK2⟩, PySem.W.mg_of X G yC2, b11⟩
  have G_Stand_leads_on : GM l.prog w K mg base CX0 1 C2 "leads_on" ["self", "turn"] (sp_leads C2 hA) := ⟨_, _, ok_leads F12 R2, ⟨yB2_leads_on, yF2_leads_on, k12⟩, b12⟩
  have G_Stand_go_down : GM l.prog w K mg base CX0 1 C2 "go_down" ["self", "turn"] (sp_down C2 hA) := ⟨_, _, ok_down F13 R2 hH, ⟨yB2_go_down, yF2_go_down, k13⟩, b13⟩
  have G_Stand_go_up : GM l.prog w K mg base CX0 1 C2 "go_up" ["self"] (sp_up C2 hA) := ⟨_, _, ok_up F14 R2 hH, ⟨yB2_go_up, yF2_go_up, k14⟩, b14⟩
  have G_Stand_go_to_top : GM l.prog w K mg base CX0 2 C2 "go_to_top" ["self"] (sp_top C2 hA) := ⟨_, _, ok_top F15 R2 G_Stand_go_up, ⟨yB2_go_to_top, yF2_go_to_top, k15⟩, b15⟩
  have G_Stand_is_called : GM l.prog w K mg base CX0 1 C2 "is_called" ["self"] (sp_called C2 hA) := ⟨_, _, ok_called F16 N_ R2 hH, ⟨yB2_is_called, yF2_is_called, k16⟩, b16⟩
  have G_Stand_do_step : GM l.prog w K mg base CX0 11 C2 "do_step" ["self"] (sp_do [(T0, lamPos l_parts_of_0, q_parts_of_0), (T1, lamPos l_rebuilt_0, q_rebuilt_0), (T2, defPos s_lifted_raised, q_raised), (T3, defPos s_filled_fill, q_fill)] C2 hA) := ⟨_, _, ok_do F17 R2 Gf G_Stand_is_called G_Stand_go_up, ⟨yB2_do_step, yF2_do_step, k17⟩, b17⟩
  have G_stand_at : GF l.prog w K mg base (CXE l.prog w) 3 "stand_at" ["term", "path"] (sp_stand_at C2 hA cN) := ⟨_, _, ok_stand_at F18 R2 (exc_of KB X_.mN eX) G_Stand G_Stand_leads_on G_Stand_go_down G_is_spot, m18, k18, b18⟩
  have G_check : GF l.prog w K mg base (CXE l.prog w) 4 "check" ["term", "paths"] (sp_check cN) := ⟨_, _, ok_check F19 G_stand_at, m19, k19, b19⟩
  have G_walked : GF l.prog w K mg base (CXE l.prog w) 5 "walked" ["term", "paths"] (sp_walked cN) := ⟨_, _, ok_walked F20 N_ G_check, m20, k20, b20⟩
  have G_moved : GF l.prog w K mg base CX0 1 "moved" ["paths", "spot", "body"] sp_moved0 := ⟨_, _, ok_moved0 F21 N_, m21, k21, b21⟩
  have G_behind : GF l.prog w K mg base (CXE l.prog w) 12 "behind" ["term", "paths", "done"] (sp_behind0 [(T0, lamPos l_parts_of_0, q_parts_of_0), (T1, lamPos l_rebuilt_0, q_rebuilt_0), (T2, defPos s_lifted_raised, q_raised), (T3, defPos s_filled_fill, q_fill)] cN) := ⟨_, _, ok_behind0 F22 N_ R2 G_check G_walked G_stand_at G_moved G_Stand_do_step G_Stand_go_to_top, m22, k22, b22⟩
  have G_at_once : GF l.prog w K mg base (CXE l.prog w) 13 "at_once" ["term", "paths"] (sp_at_once [(T0, lamPos l_parts_of_0, q_parts_of_0), (T1, lamPos l_rebuilt_0, q_rebuilt_0), (T2, defPos s_lifted_raised, q_raised), (T3, defPos s_filled_fill, q_fill)] cN) := ⟨_, _, ok_at_once F23 G_behind, m23, k23, b23⟩
  have G__law_whole : GF l.prog w K mg base CX0 1 "_law_whole" ["_law_found"] sp_whole := ⟨_, _, ok__law_whole F24 N_, m24, k24, b24⟩
  have G__law_any : GF l.prog w K mg base CX0 1 "_law_any" ["_law_cell"] sp_any := ⟨_, _, ok__law_any F25 , m25, k25, b25⟩
  have G__law_any_word : GF l.prog w K mg base CX0 1 "_law_any_word" ["_law_cell"] sp_any_word := ⟨_, _, ok__law_any_word F26 N_, m26, k26, b26⟩
  have G__law_grown : GF l.prog w K mg base CX0 2 "_law_grown" ["_law_cells"] (sp_grown K) := ⟨_, _, ok__law_grown F27 N_ G__law_any G__law_any_word, m27, k27, b27⟩
  have G__law_at : GF l.prog w K mg base CX0 1 "_law_at" ["_law_script", "_law_k"] (sp_lat K) := ⟨_, _, ok__law_at F28 N_, m28, k28, b28⟩
  have G__law_room : GF l.prog w K mg base CX0 1 "_law_room" ["_law_script", "_law_most", "_law_bound"] (sp_room K) := ⟨_, _, ok__law_room F40 N_, m40, k40, b40⟩
  have G__law_parts : GF l.prog w K mg base CX0 1 "_law_parts" ["_law_term"] sp_lparts := ⟨_, _, ok__law_parts F29 N_, m29, k29, b29⟩
  have G__law_raised : GF l.prog w K mg base CX0 2 "_law_raised" ["_law_term", "_law_by"] sp_lraised := ⟨_, _, ok__law_raised F30 G__law_parts, m30, k30, b30⟩
  have G__law_stuffed : GF l.prog w K mg base CX0 3 "_law_stuffed" ["_law_body", "_law_given"] sp_lstuffed := ⟨_, _, ok__law_stuffed F31 G__law_parts G__law_raised, m31, k31, b31⟩
  have G__law_is_term : GF l.prog w K mg base CX0 2 "_law_is_term" ["_law_found"] sp_lis_term := ⟨_, _, ok__law_is_term F35 N_ G__law_whole, m35, k35, b35⟩
  have G__law_calls_of_forms : GF l.prog w K mg base CX0 2 "_law_calls_of_forms" ["_law_term"] sp_calls := ⟨_, _, ok__law_calls_of_forms F33 N_, m33, k33, b33⟩
  have G__law_are_paths : GF l.prog w K mg base CX0 2 "_law_are_paths" ["_law_found"] sp_are_paths := ⟨_, _, ok__law_are_paths F36 N_ G__law_whole, m36, k36, b36⟩
  have G__law_stepped : GF l.prog w K mg base CX0 4 "_law_stepped" ["_law_term", "_law_path"] sp_stepped := ⟨_, _, ok_stepped F32 N_ G__law_stuffed, m32, k32, b32⟩
  have G__law_some_of : GF l.prog w K mg base CX0 1 "_law_some_of" ["_law_paths", "_law_cell"] sp_some := ⟨_, _, ok_some F37 N_, m37, k37, b37⟩
  have G__law_copies : GF l.prog w K mg base CX0 1 "_law_copies" ["_law_paths"] sp_copies := ⟨_, _, ok_copies F38 N_, m38, k38, b38⟩
  have G__law_refuses : GF l.prog w K mg base CX0 14 "_law_refuses" ["_law_way", "_law_term", "_law_paths"] (sp_refuses [(T0, lamPos l_parts_of_0, q_parts_of_0), (T1, lamPos l_rebuilt_0, q_rebuilt_0), (T2, defPos s_lifted_raised, q_raised), (T3, defPos s_filled_fill, q_fill)]) := ⟨_, _, ok_refuses F39 X_ G_at_once G_walked, m39, k39, b39⟩
  have G__law_developed : GF l.prog w K mg base CX0 5 "_law_developed" ["_law_term", "_law_paths"] sp_developed := ⟨_, _, ok_developed F34 N_ G__law_stepped, m34, k34, b34⟩
  exact ok_law F41 N_ G__law_grown G__law_room G__law_at G__law_calls_of_forms G__law_some_of G__law_copies G__law_refuses G__law_are_paths G__law_developed G_at_once G_walked G__law_is_term G__law_stepped
end NC
open PySem PySem.W PyProof.Rows
set_option maxRecDepth 100000 in
set_option maxHeartbeats 0 in
theorem PySem.Challenge.cw_namecall_k11_whole_at_once_by_single_ste_holds : PySem.Challenge.rw_namecall_k11_whole_at_once_by_single_ste.Holds := by
  w_on; o_law; k_head; (case hw => w_witness2)
  k_fill
  refine NC.walk_T (l := PySem.Challenge.rw_namecall_k11_whole_at_once_by_single_ste) (k := 15) (tabs := [(41, 37), (87, 83), (94, 90), (129, 125)]) (sp := NC.sp_law [(37, NC.lamPos NC.l_parts_of_0, NC.q_parts_of_0), (83, NC.lamPos NC.l_rebuilt_0, NC.q_rebuilt_0), (90, NC.defPos NC.s_lifted_raised, NC.q_raised), (125, NC.defPos NC.s_filled_fill, NC.q_fill)]) (x := "_law_script") rfl rfl ⟨rfl, by decide, by decide⟩ (fun w h Y => PySem.W.km_in_of Y) ?Y ?T1 ?T2 ?F ?S
  case Y => exact fun w h Y => List.forall_mem_cons.mpr ⟨PySem.W.km_tabs_of Y 37 (by k_mem), List.forall_mem_cons.mpr ⟨PySem.W.km_tabs_of Y 83 (by k_mem), List.forall_mem_cons.mpr ⟨PySem.W.km_tabs_of Y 90 (by k_mem), List.forall_mem_cons.mpr ⟨PySem.W.km_tabs_of Y 125 (by k_mem), fun _ h => nomatch h⟩⟩⟩⟩
  case T1 => exact fun P => List.forall_mem_cons.mpr ⟨by kernel_rfl, List.forall_mem_cons.mpr ⟨by kernel_rfl, List.forall_mem_cons.mpr ⟨by kernel_rfl, List.forall_mem_cons.mpr ⟨by kernel_rfl, fun _ h => nomatch h⟩⟩⟩⟩
  case T2 => exact fun P => List.forall_mem_cons.mpr ⟨by kernel_rfl, List.forall_mem_cons.mpr ⟨by kernel_rfl, List.forall_mem_cons.mpr ⟨by kernel_rfl, List.forall_mem_cons.mpr ⟨by kernel_rfl, fun _ h => nomatch h⟩⟩⟩⟩
  case S => exact fun K H a ns hl hH hS => ⟨a, ns, rfl, hS, hl, List.forall_mem_cons.mpr ⟨.inl (hH _ (.head _)), List.forall_mem_cons.mpr ⟨.inl (hH _ (.tail _ (.head _))), List.forall_mem_cons.mpr ⟨.inl (hH _ (.tail _ (.tail _ (.head _)))), List.forall_mem_cons.mpr ⟨.inl (hH _ (.tail _ (.tail _ (.tail _ (.head _))))), fun _ h => nomatch h⟩⟩⟩⟩, fun _ => rfl⟩
  case F =>
    intro w mg fa h KX G hmg
    refine' NC.all_mk 37 83 90 125 KX G hmg ?a1 ?a2 ?a3 ?a4 ?a5 ?a6 ?a9 ?a10 ?a18 ?a19 ?a20 ?a21 ?a22 ?a23 ?a24 ?a25 ?a26 ?a27 ?a28 ?a29 ?a30 ?a31 ?a32 ?a33 ?a34 ?a35 ?a36 ?a37 ?a38 ?a39 ?a40 ?a41 ?yC ?yM ?yI ?yIf ?yK ?y1 ?y2 ?y3 ?y4 ?yB_by ?yF_by ?yN_term ?yN_ready ?yC2 ?yM2 ?yI2 ?yIf2 ?yK2 ?y12 ?y22 ?y32 ?y42 ?yB2_leads_on ?yF2_leads_on ?yB2_go_down ?yF2_go_down ?yB2_go_up ?yF2_go_up ?yB2_go_to_top ?yF2_go_to_top ?yB2_is_called ?yF2_is_called ?yB2_do_step ?yF2_do_step ?yN2_part ?yN2_above ?eH ?eHl ?eN ?eX ?e2 ?l1 ?c1' ?k1 ?l2 ?c2' ?k2 ?l3 ?c3' ?k3 ?l4 ?c4' ?k4 ?l5 ?c5' ?k5 ?l6 ?c6' ?k6 ?l7 ?c7' ?k7 ?l8 ?c8' ?k8 ?l9 ?c9' ?k9 ?l10 ?c10' ?k10 ?l11 ?c11' ?k11 ?l12 ?c12' ?k12 ?l13 ?c13' ?k13 ?l14 ?c14' ?k14 ?l15 ?c15' ?k15 ?l16 ?c16' ?k16 ?l17 ?c17' ?k17 ?l18 ?c18' ?k18 ?l19 ?c19' ?k19 ?l20 ?c20' ?k20 ?l21 ?c21' ?k21 ?l22 ?c22' ?k22 ?l23 ?c23' ?k23 ?l24 ?c24' ?k24 ?l25 ?c25' ?k25 ?l26 ?c26' ?k26 ?l27 ?c27' ?k27 ?l28 ?c28' ?k28 ?l29 ?c29' ?k29 ?l30 ?c30' ?k30 ?l31 ?c31' ?k31 ?l32 ?c32' ?k32 ?l33 ?c33' ?k33 ?l34 ?c34' ?k34 ?l35 ?c35' ?k35 ?l36 ?c36' ?k36 ?l37 ?c37' ?k37 ?l38 ?c38' ?k38 ?l39 ?c39' ?k39 ?l40 ?c40' ?k40 ?l41 ?c41' ?k41 ?z0 ?z1 ?z2 ?z3 ?z4 ?z5 ?z6 ?z7 ?z8 ?z9 ?z10 ?z11 ?hC0 ?hC1 ?hC2 ?hC3 (by decide)
    (case a1 => k_is); (case a2 => k_is); (case a3 => k_is); (case a4 => k_is); (case a5 => k_is); (case a6 => k_is); (case a9 => k_is); (case a10 => k_is)
    (case a18 => k_is); (case a19 => k_is); (case a20 => k_is); (case a21 => k_is); (case a22 => k_is); (case a23 => k_is); (case a24 => k_is); (case a25 => k_is)
    (case a26 => k_is); (case a27 => k_is); (case a28 => k_is); (case a29 => k_is); (case a30 => k_is); (case a31 => k_is); (case a32 => k_is); (case a33 => k_is)
    (case a34 => k_is); (case a35 => k_is); (case a36 => k_is); (case a37 => k_is); (case a38 => k_is); (case a39 => k_is); (case a40 => k_is); (case a41 => k_is)
    (case yC => k_is); (case yM => k_is); (case yI => k_is); (case yIf => k_is); (case yK => k_is); (case y1 => k_is); (case y2 => k_is); (case y3 => k_is)
    (case y4 => k_is); (case yB_by => k_is); (case yF_by => k_is); (case yN_term => k_is); (case yN_ready => k_is); (case yC2 => k_is); (case yM2 => k_is); (case yI2 => k_is)
    (case yIf2 => k_is); (case yK2 => k_is); (case y12 => k_is); (case y22 => k_is); (case y32 => k_is); (case y42 => k_is); (case yB2_leads_on => k_is); (case yF2_leads_on => k_is)
    (case yB2_go_down => k_is); (case yF2_go_down => k_is); (case yB2_go_up => k_is); (case yF2_go_up => k_is); (case yB2_go_to_top => k_is); (case yF2_go_to_top => k_is); (case yB2_is_called => k_is); (case yF2_is_called => k_is)
    (case yB2_do_step => k_is); (case yF2_do_step => k_is); (case yN2_part => k_is); (case yN2_above => k_is); (case eH => k_is); (case eHl => k_is); (case eN => k_is); (case eX => kernel_rfl)
    (case e2 => kernel_rfl); (case l1 => k_is); (case c1' => k_is); (case k1 => k_is); (case l2 => k_is); (case c2' => k_is); (case k2 => k_is); (case l3 => k_is)
    (case c3' => k_is); (case k3 => k_is); (case l4 => k_is); (case c4' => k_is); (case k4 => k_is); (case l5 => k_is); (case c5' => k_is); (case k5 => k_is)
    (case l6 => k_is); (case c6' => k_is); (case k6 => k_is); (case l7 => k_is); (case c7' => k_is); (case k7 => k_is); (case l8 => k_is); (case c8' => k_is)
    (case k8 => k_is); (case l9 => k_is); (case c9' => k_is); (case k9 => k_is); (case l10 => k_is); (case c10' => k_is); (case k10 => k_is); (case l11 => k_is)
    (case c11' => k_is); (case k11 => k_is); (case l12 => k_is); (case c12' => k_is); (case k12 => k_is); (case l13 => k_is); (case c13' => k_is); (case k13 => k_is)
    (case l14 => k_is); (case c14' => k_is); (case k14 => k_is); (case l15 => k_is); (case c15' => k_is); (case k15 => k_is); (case l16 => k_is); (case c16' => k_is)
    (case k16 => k_is); (case l17 => k_is); (case c17' => k_is); (case k17 => k_is); (case l18 => k_is); (case c18' => k_is); (case k18 => k_is); (case l19 => k_is)
    (case c19' => k_is); (case k19 => k_is); (case l20 => k_is); (case c20' => k_is); (case k20 => k_is); (case l21 => k_is); (case c21' => k_is); (case k21 => k_is)
    (case l22 => k_is); (case c22' => k_is); (case k22 => k_is); (case l23 => k_is); (case c23' => k_is); (case k23 => k_is); (case l24 => k_is); (case c24' => k_is)
    (case k24 => k_is); (case l25 => k_is); (case c25' => k_is); (case k25 => k_is); (case l26 => k_is); (case c26' => k_is); (case k26 => k_is); (case l27 => k_is)
    (case c27' => k_is); (case k27 => k_is); (case l28 => k_is); (case c28' => k_is); (case k28 => k_is); (case l29 => k_is); (case c29' => k_is); (case k29 => k_is)
    (case l30 => k_is); (case c30' => k_is); (case k30 => k_is); (case l31 => k_is); (case c31' => k_is); (case k31 => k_is); (case l32 => k_is); (case c32' => k_is)
    (case k32 => k_is); (case l33 => k_is); (case c33' => k_is); (case k33 => k_is); (case l34 => k_is); (case c34' => k_is); (case k34 => k_is); (case l35 => k_is)
    (case c35' => k_is); (case k35 => k_is); (case l36 => k_is); (case c36' => k_is); (case k36 => k_is); (case l37 => k_is); (case c37' => k_is); (case k37 => k_is)
    (case l38 => k_is); (case c38' => k_is); (case k38 => k_is); (case l39 => k_is); (case c39' => k_is); (case k39 => k_is); (case l40 => k_is); (case c40' => k_is)
    (case k40 => k_is); (case l41 => k_is); (case c41' => k_is); (case k41 => k_is); (case z0 => k_is); (case z1 => k_is); (case z2 => k_is); (case z3 => k_is)
    (case z4 => k_is); (case z5 => k_is); (case z6 => k_is); (case z7 => k_is); (case z8 => k_is); (case z9 => k_is); (case z10 => k_is); (case z11 => k_is)
    (case hC0 => kernel_rfl); (case hC1 => kernel_rfl); (case hC2 => kernel_rfl); (case hC3 => kernel_rfl)
