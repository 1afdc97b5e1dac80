import PyProof.Rows.All
import Wide.All
import OpenK.AllK
import Wide.FinOn
import Lean
import PyProof.EqAt
import PyProof.EqKinds
import PyProof.TupleCall
import PyProof.NeKinds
import PySem.Challenge.RW_namecall_k14_whole_one_end
set_option Elab.async false
set_option linter.all false
set_option maxRecDepth 100000
/-! THE HAND LAYER, for ints, bools, texts, own classes, LISTS and tuples (index, slices, in, append, pop ..), calls, loops. Paste it whole ahead of your own text; what your proof does not reach may be deleted. -/
namespace L2
open PySem PySem.Spec PyProof.Rows
abbrev Key:=Sum Int Str
def sL:Key->Value->Bool
 | .inl k,v=>Value.isInt k v
 | .inr x,v=>Value.isStrOf x v
def Pw(w:World):Key->Int
 | .inl k=>hashInt k
 | .inr x=>hashStr w x
theorem da:∀{k:Key}{v:Value},sL k v=true->(∃i t,k=Sum.inl i/\v=Value.int i t) ∨ (∃x t,k=Sum.inr x/\v=Value.str x t)
 | .inl i,v,h=>by
  obtain⟨t,e⟩:=Value.isInt_shape (k:=i) (v:=v) h
  exact .inl ⟨i,t,rfl,e⟩
 | .inr x,v,h=>by
  obtain⟨t,e⟩:=Value.isStrOf_shape (x:=x) (v:=v) h
  exact .inr ⟨x,t,rfl,e⟩
theorem Ao(i:Int)(t:Tok):sL (.inl i) (.int i t)=true:=by simp[sL,Value.isInt]
theorem An(x:Str)(t:Tok):sL (.inr x) (.str x t)=true:=by simp[sL,Value.isStrOf]
theorem Ia(a b:Int):decide ((Sum.inl a:Key)=Sum.inl b)=(a==b):=by
 by_cases e:a=b
 ·subst e;simp
 ·have h:¬(Sum.inl a:Key)=Sum.inl b:=fun q=>e (Sum.inl.inj q)
  rw[decide_eq_false h]
  exact(beq_eq_false_iff_ne.mpr e).symm
theorem HX(a b:Str):decide ((Sum.inr a:Key)=Sum.inr b)=decide (a=b):=by
 by_cases e:a=b
 ·subst e;simp
 ·have h:¬(Sum.inr a:Key)=Sum.inr b:=fun q=>e (Sum.inr.inj q)
  rw[decide_eq_false h,decide_eq_false e]
theorem HZ(a:Int)(b:Str):decide ((Sum.inl a:Key)=Sum.inr b)=false:=decide_eq_false (fun q=>nomatch q)
theorem HY(a:Str)(b:Int):decide ((Sum.inr a:Key)=Sum.inl b)=false:=decide_eq_false (fun q=>nomatch q)
def dQ(prog:Program)(w:World):PySem.KeyKind prog w Key where
 is:=sL
 hash:=Pw w
 inj:=fun v a b ha hb=>by
  rcases da ha with⟨i,t,rfl,rfl⟩|⟨x,t,rfl,rfl⟩
  ·rcases da hb with⟨j,u,rfl,e⟩|⟨y,u,rfl,e⟩
   ·injection e with e1 _;rw[e1]
   ·exact nomatch e
  ·rcases da hb with⟨j,u,rfl,e⟩|⟨y,u,rfl,e⟩
   ·exact nomatch e
   ·injection e with e1 _;rw[e1]
 byValue:=fun k v h=>by
  rcases da h with⟨i,t,rfl,rfl⟩|⟨x,t,rfl,rfl⟩<;>rfl
 pyHash:=fun hv h=>by
  rcases da hv with⟨i,t,rfl,rfl⟩|⟨x,t,rfl,rfl⟩
  ·exact wpAny_pyHash_int h
  ·exact wpAny_pyHash_str h
 eqBool:=fun hu hv h=>by
  rcases da hu with⟨i,t,rfl,rfl⟩|⟨x,t,rfl,rfl⟩
  ·rcases da hv with⟨j,u,rfl,rfl⟩|⟨y,u,rfl,rfl⟩
   ·rw[Ia] at h;exact wpAny_eqBool_int h
   ·rw[HZ] at h;exact SeqAt.EqAt.int_str i t y u _ _ _ _ h
  ·rcases da hv with⟨j,u,rfl,rfl⟩|⟨y,u,rfl,rfl⟩
   ·rw[HY] at h;exact SeqAt.EqAt.str_int x t j u _ _ _ _ h
   ·rw[HX] at h;exact wpAny_eqBool_str h
 «strs»:=fun k x t v h=>by
  rcases da h with⟨i,u,rfl,e⟩|⟨y,u,rfl,e⟩
  ·exact nomatch e
  ·injection e with e1 _
   subst e1
   cases v<;>rfl
theorem vD(prog:Program)(w:World)(i:Int)(t:Tok):(dQ prog w).is (.inl i) (.int i t)=true:=Ao i t
theorem vC(prog:Program)(w:World)(x:Str)(t:Tok):(dQ prog w).is (.inr x) (.str x t)=true:=An x t
end L2
namespace L2
open PySem PySem.Spec PyProof.Rows
inductive V where
 |d0|bl (b:Bool)|int (i:Int)|str (x:Str)|zk (b:Array UInt8)|IT (b:UInt64)|ref (a:Addr)|ty (n:String)
 deriving DecidableEq
def RelV:V->Value->Prop
 | .d0,u=>u=Value.none
 | .bl b,u=>u=Value.bool b
 | .int i,u=>∃t,u=Value.int i t
 | .str x,u=>∃t,u=Value.str x t
 | .zk b,u=>∃t,u=Value.bytes b t
 | .IT b,u=>∃t,u=Value.float b t
 | .ref a,u=>u=Value.ref a
 | .ty n,u=>u=Value.type n
abbrev Vals:List V->List Value->Prop:=Paired RelV
theorem Vals.length{xs:List V}{us:List Value}(r:Vals xs us):xs.length=us.length:=Paired.length r
theorem Vals.get:∀{xs:List V}{us:List Value}{i:Nat}{x:V},Vals xs us->xs[i]? =some x->∃u,us[i]? =some u/\RelV x u
 |_,_,_,_,.nil,e=>by simp at e
 |_,_,0,_,.cons r _,e=>by simp at e;subst e;exact⟨_,rfl,r⟩
 |_,_,i+1,x,.cons _ t,e=>by
  obtain⟨u,h1,h2⟩:=Vals.get (i:=i) (x:=x) t (by simpa using e)
  exact⟨u,by simpa using h1,h2⟩
theorem Vals.set{x:V}{u:Value}(r:RelV x u):∀{xs:List V}{us:List Value} (i:Nat),Vals xs us->Vals (xs.set i x) (us.set i u)
 |_,_,_,.nil=> .nil
 |_,_,0,.cons _ t=> .cons r t
 |_,_,i+1,.cons q t=> .cons q (Vals.set r i t)
theorem Vals.append:∀{xs ys:List V}{us ws:List Value},Vals xs us->Vals ys ws->Vals (xs++ys) (us++ws)
 |_,_,_,_,.nil,s=>s
 |_,_,_,_,.cons r t,s=> .cons r (Vals.append t s)
theorem Vals.take:∀{xs:List V}{us:List Value} (n:Nat),Vals xs us->Vals (xs.take n) (us.take n)
 |_,_,0,_=> .nil
 |_,_,_+1,.nil=> .nil
 |_,_,n+1,.cons r t=> .cons r (Vals.take n t)
theorem Vals.drop:∀{xs:List V}{us:List Value} (n:Nat),Vals xs us->Vals (xs.drop n) (us.drop n)
 |_,_,0,r=>r
 |_,_,_+1,.nil=> .nil
 |_,_,n+1,.cons _ t=>Vals.drop n t
theorem Vals.none_of:∀{xs:List V}{us:List Value}{i:Nat},Vals xs us->xs[i]? =none->us[i]? =none:=fun {xs us i} r e=>by
 have h1:=r.length
 have h2:xs.length<=i:=List.getElem?_eq_none_iff.mp e
 exact List.getElem?_eq_none_iff.mpr (by omega)
def jV:Option V->Option Value->Prop
 |some v,some u=>RelV v u
 |none,none=>True
 |_,_=>False
def KV{κ:Type}:List (κ×V)->List (κ×Value)->Prop:=Paired fun(p:κ×V) (q:κ×Value)=>p.1=q.1/\RelV p.2 q.2
def kV:Key->V
 | .inl i=> .int i
 | .inr x=> .str x
inductive HO where
 |lst (xs:List V)
 |tup (xs:List V)
 |dK (ba:List (Key×V))|dT (ba:List (List Key×V))
 |set (S:Int->Bool) (n:Nat)
 |ins (C dx:Addr) (fs:List (Str×V))
 |own (x:Addr)
 |xd (fs:List (Str×V))
 |met (f x:Addr)
 |zN (lo hi:Int)
 |xI (o:Obj) (u:HO)
 |gu (ps:Array Value)
 |ext (φ:Heap->Prop)
abbrev Hp:=Addr->Option HO
def upd(H:Hp)(a:Addr)(o:HO):Hp:=fun b=>if b=a then some o else H b
theorem aH{H:Hp}{a:Addr}{o:HO}:upd H a o a=some o:=by unfold upd;rw[if_pos rfl]
theorem aF{H:Hp}{a b:Addr}{o:HO}(h:b≠a):upd H a o b=H b:=by unfold upd;rw[if_neg h]
theorem KR{H:Hp}{a b:Addr}{o u:HO}(h:H a=some o)(h':H b=some u)(d:o≠u):a≠b:=by
 intro e;subst e;rw[h] at h';exact d (Option.some.inj h')
theorem aY{H:Hp}{a b:Addr}{o:HO}(h:H a=some o)(h':H b=none):a≠b:=by
 intro e;subst e;rw[h] at h';cases h'
section
variable (P:Program) (w:World)
def cK(H:Hp)(h:Heap)(a:Addr):HO->Prop
 | .lst xs=>xs.length<=sizeLine/\∃(aN:List Value) (n:Nat),Vals xs aN/\h.get? a=some {cls:= .type "list",data:= .seq aN.toArray n}
 | .tup xs=>xs.length<=sizeLine/\∃aN:List Value,Vals xs aN/\IsTup h a aN.toArray
 | .dK ba=>ba.length<=sizeLine/\(a==sysModules)=false/\∃vs,KV ba vs/\h.DictOf (dQ P w) a vs
 | .dT ba=>ba.length<=sizeLine/\(a==sysModules)=false/\∃xs:List (List Key×Addr×Value),
   Paired (fun(p:List Key×V) (q:List Key×Addr×Value)=>p.1=q.1/\H q.2.1=some (.tup (p.1.map kV))/\RelV p.2 q.2.2) ba xs/\
   ∃o es ep,h.get? a=some o/\o.ExactDict/\o.data= .dict es ep/\es.toList=xs.map (entryOfKey (tupleKind (dQ P w)))/\(xs.map (·.1)).Nodup
 | .set S n=>h.SetOf (intKind P w) a S n
 | .ins C dx fs=>H dx=some (.own a)/\fs.length<=1000/\dx≠a/\h.get? a=some (PySem.W.instObj C dx)/\
   ∃mA,h.Ns1 dx mA/\(∀f,jV (fs.lookup f) (mA f))/\PySem.Within mA (fs.map (·.1))
 | .own _=>∃o,h.get? a=some o
 | .xd fs=>∃mA,h.Ns1 a mA/\∀f,jV (fs.lookup f) (mA f)
 | .zN lo hi=>∃t u v,h.get? a=some {cls:= .type "range",data:= .fields #[.int lo t,.int hi u,.int 1 v]}
 | .xI o u=>h.get? a=some o/\cK H h a u
 | .gu ps=>h.get? a=some {cls:= .none,data:= .fields ps}
 | .met f x=>h.get? a=some (PySem.W.methodObj (.ref f) (.ref x))
 | .ext φ=>φ h/\(∃o,h.get? a=some o)/\∀h1 h2:Heap,φ h1->(∀o,h1.get? a=some o->h2.get? a=some o)->φ h2
def mz(H:Hp)(h:Heap):Prop:=∀a o,H a=some o->cK P w H h a o
end
section
variable {P:Program}{w:World}{H H':Hp}{h h':Heap}{a:Addr}{o:HO}
theorem cK.lt(x:cK P w H h a o):a < h.objs.size:=by
 cases o with
 |lst xs=>obtain⟨_,_,_,_,e⟩:=x;exact Heap.lt_size e
 |tup xs=>obtain⟨_,_,_,p⟩:=x;exact p.lt
 |dK ba=>obtain⟨_,_,_,_,o,_,_,e,_⟩:=x;exact Heap.lt_size e
 |dT ba=>obtain⟨_,_,_,_,o,_,_,e,_⟩:=x;exact Heap.lt_size e
 |set S n=>obtain⟨o,_,_,_,e,_⟩:=x;exact Heap.lt_size e
 |ins C dx fs=>obtain⟨_,_,_,e,_⟩:=x;exact Heap.lt_size e
 |own y=>obtain⟨_,e⟩:=x;exact Heap.lt_size e
 |xd fs=>obtain⟨_,⟨_,_,_,e,_⟩,_⟩:=x;exact Heap.lt_size e
 |zN lo hi=>obtain⟨_,_,_,e⟩:=x;exact Heap.lt_size e
 |xI ob u=>obtain⟨e,_⟩:=x;exact Heap.lt_size e
 |gu ps=>exact Heap.lt_size (show h.get? a=some _ from x)
 |met f y=>exact Heap.lt_size (show h.get? a=some _ from x)
 |ext φ=>obtain⟨_,⟨_,e⟩,_⟩:=x;exact Heap.lt_size e
theorem Paired.HL{α β:Type}{F G:α->β->Prop}:∀{l₁:List α}{l₂:List β},Paired F l₁ l₂->(∀a b,F a b->G a b)->Paired G l₁ l₂
 |_,_,.nil,_=> .nil
 |_,_,.cons r t,f=> .cons (f _ _ r) (Paired.HL t f)
theorem cK.lD(x:cK P w H h a o)(k:∀b u,(b=a ∨ H b=some (.own a))->h.get? b=some u->h'.get? b=some u)
  (ho:∀b,H b=some (.own a)->H' b=some (.own a))(ht:∀b xs,H b=some (.tup xs)->H' b=some (.tup xs)):cK P w H' h' a o:=by
 induction o with
 |lst xs=>obtain⟨z,aN,n,r,e⟩:=x;exact⟨z,aN,n,r,k _ _ (.inl rfl) e⟩
 |tup xs=>obtain⟨z,aN,r,ob,e,c⟩:=x;exact⟨z,aN,r,ob,k _ _ (.inl rfl) e,c⟩
 |dK ba=>obtain⟨z,y,vs,r,ob,es,ep,e,c⟩:=x;exact⟨z,y,vs,r,ob,es,ep,k _ _ (.inl rfl) e,c⟩
 |dT ba=>
  obtain⟨z,y,xs,r,ob,es,ep,e,c⟩:=x
  exact⟨z,y,xs,Paired.HL r fun p q z=>⟨z.1,ht _ _ z.2.1,z.2.2⟩,ob,es,ep,k _ _ (.inl rfl) e,c⟩
 |set S n=>obtain⟨ob,es,ep,t,e,c⟩:=x;exact⟨ob,es,ep,t,k _ _ (.inl rfl) e,c⟩
 |ins C dx fs=>
  obtain⟨d,z,ne,e,mA,⟨od,es,ep,e2,c⟩,r⟩:=x
  exact⟨ho _ d,z,ne,k _ _ (.inl rfl) e,mA,⟨od,es,ep,k _ _ (.inr d) e2,c⟩,r⟩
 |own y=>obtain⟨ob,e⟩:=x;exact⟨ob,k _ _ (.inl rfl) e⟩
 |xd fs=>obtain⟨mA,⟨od,es,ep,e,c⟩,r⟩:=x;exact⟨mA,⟨od,es,ep,k _ _ (.inl rfl) e,c⟩,r⟩
 |zN lo hi=>obtain⟨t,u,v,e⟩:=x;exact⟨t,u,v,k _ _ (.inl rfl) e⟩
 |xI ob u ih=>obtain⟨e,q⟩:=x;exact⟨k _ _ (.inl rfl) e,ih q⟩
 |gu ps=>
  have e:h.get? a=some {cls:= .none,data:= .fields ps}:=x
  show h'.get? a=some {cls:= .none,data:= .fields ps}
  exact k a _ (.inl rfl) e
 |met f y=>
  have e:h.get? a=some (PySem.W.methodObj (.ref f) (.ref y)):=x
  show h'.get? a=some (PySem.W.methodObj (.ref f) (.ref y))
  exact k a _ (.inl rfl) e
 |ext φ=>obtain⟨p,⟨o,e⟩,st⟩:=x;exact⟨st _ _ p fun o q=>k _ _ (.inl rfl) q,⟨o,k _ _ (.inl rfl) e⟩,st⟩
theorem mz.lt(x:mz P w H h)(e:H a=some o):a < h.objs.size:=(x a o e).lt
theorem mz.fresh(x:mz P w H h)(e:h.objs.size<=a):H a=none:=by
 cases q:H a with
 |none=>rfl
 |some u=>exact absurd (Nat.lt_of_lt_of_le (x.lt q) e) (Nat.lt_irrefl _)
theorem mz.kept(x:mz P w H h)(k:∀b u,h.get? b=some u->h'.get? b=some u):mz P w H h':=fun a o e=>
 (x a o e).lD (fun b u _ q=>k b u q) (fun _ q=>q) fun _ _ q=>q
theorem mz.laid(x:mz P w H h)(k:∀b u,h.get? b=some u->h'.get? b=some u)(hp:h.objs.size<=a)(new:cK P w (upd H a o) h' a o):mz P w (upd H a o) h':=fun b u e=>by
 have hn:=x.fresh hp
 by_cases hb:b=a
 ·subst hb;rw[aH] at e;cases e;exact new
 ·rw[aF hb] at e
  exact(x b u e).lD (fun c v _ q=>k c v q) (fun c q=>by rw[aF (aY q hn)];exact q) fun c xs q=>by rw[aF (aY q hn)];exact q
end
def Rd(H:Hp)(a:Addr)(u:HO):Prop:=H a=some u ∨ ∃o,H a=some (.xI o u)
theorem Rd.of{H:Hp}{a:Addr}{u:HO}(h:H a=some u):Rd H a u:= .inl h
theorem Rd.ok{P:Program}{w:World}{H:Hp}{h:Heap}{a:Addr}{u:HO}(r:Rd H a u)(x:mz P w H h):cK P w H h a u:=by
 rcases r with r|⟨o,r⟩
 ·exact x a u r
 ·obtain⟨_,q⟩:=x a _ r
  exact q
def MY:Option HO->Prop
 |some (.lst _)=>True
 |some (.dK _)=>True
 |some (.dT _)=>True
 |some (.set _ _)=>True
 |some (.ins _ _ _)=>True
 |some (.ext _)=>True
 |_=>False
section
variable {P:Program}{w:World}{H:Hp}{h h':Heap}{x e:Addr}{o':HO}
theorem mz.write(ok:mz P w H h)(mu:MY (H x))(he:e=x ∨ H e=some (.own x))(k:∀b u,b≠e->h.get? b=some u->h'.get? b=some u)(JV:∃u,h'.get? e=some u)
  (new:cK P w (upd H x o') h' x o'):mz P w (upd H x o') h':=fun b u q=>by
 have KQ:∀c y,H c=some (.own y)->c≠x:=fun c y r z=>by subst z;rw[r] at mu;exact mu
 have O5:∀c xs,H c=some (.tup xs)->c≠x:=fun c xs r z=>by subst z;rw[r] at mu;exact mu
 by_cases hb:b=x
 ·subst hb;rw[aH] at q;cases q;exact new
 ·rw[aF hb] at q
  by_cases IG:b=e
  ·have q':H b=some (.own x):=by
    rcases he with z|z
    ·exact absurd (IG.trans z) hb
    ·rw[IG];exact z
   rw[q] at q';cases q'
   obtain⟨v,hv⟩:=JV
   exact⟨v,by rw[IG];exact hv⟩
  ·refine(ok b u q).lD (fun c v hc r=>k c v ?_ r) (fun c r=>by rw[aF (KQ c b r)];exact r) fun c xs r=>by rw[aF (O5 c xs r)];exact r
   rcases hc with rfl|hc
   ·exact IG
   ·rintro rfl
    rcases he with z|z
    ·exact KQ c b hc z
    ·rw[hc] at z;cases z;exact hb rfl
end
structure Un(fs ex:List Addr)(H H':Hp)(h h':Heap):Prop where
 keep:∀b o,h.get? b=some o->H b=none->b∉fs->b∉ex->h'.get? b=some o
 slot:∀b o,h.get? b=some o->H b=none->b∈fs->b∉ex->∃sl,h'.get? b=some {o with slots:=sl}
 free:∀b o,h.get? b=some o->H b=none->b∉ex->H' b=none
 there:∀b o,h.get? b=some o->b∉ex->∃o',h'.get? b=some o'
 cM:∀b xs,H b=some (.tup xs)->H' b=some (.tup xs)
 nH:∀b o u,H b=some (.xI o u)->H' b=some (.xI o u)
 mI:∀b ps,H b=some (.gu ps)->∃more,H' b=some (.gu (ps++more))
section
variable {fs Mc ex U1:List Addr}{H H1 H2:Hp}{h h1 h2 h':Heap}{a x e:Addr}{o:HO}
theorem Un.any(u:Un fs ex H H1 h h1){b:Addr}{ob:Obj}(q:h.get? b=some ob)(n:H b=none)(hx:b∉ex):∃sl,h1.get? b=some {ob with slots:=sl}:=by
 by_cases hb:b∈fs
 ·exact u.slot b ob q n hb hx
 ·exact⟨ob.slots,u.keep b ob q n hb hx⟩
theorem Un.trans(a:Un fs ex H H1 h h1)(b:Un fs ex H1 H2 h1 h2):Un fs ex H H2 h h2 where
 keep:=fun c ob q n hc hx=>b.keep c ob (a.keep c ob q n hc hx) (a.free c ob q n hx) hc hx
 slot:=fun c ob q n hc hx=>by
  obtain⟨sl,e1⟩:=a.slot c ob q n hc hx
  obtain⟨OF,e2⟩:=b.slot c _ e1 (a.free c ob q n hx) hc hx
  exact⟨OF,e2⟩
 free:=fun c ob q n hx=>by
  obtain⟨o',e1⟩:=a.there c ob q hx
  exact b.free c o' e1 (a.free c ob q n hx) hx
 there:=fun c ob q hx=>by
  obtain⟨o',e1⟩:=a.there c ob q hx
  exact b.there c o' e1 hx
 cM:=fun c xs q=>b.cM c xs (a.cM c xs q)
 nH:=fun c ob xs q=>b.nH c ob xs (a.nH c ob xs q)
 mI:=fun c ps q=>by
  obtain⟨m1,e1⟩:=a.mI c ps q
  obtain⟨m2,e2⟩:=b.mI c _ e1
  exact⟨m1++m2,by rw[e2,Array.append_assoc]⟩
theorem Un.kept(k:∀b u,h.get? b=some u->h'.get? b=some u):Un fs ex H H h h':=
 ⟨fun b ob q _ _ _=>k b ob q,fun b ob q _ _ _=>⟨ob.slots,k b ob q⟩,fun _ _ _ n _=>n,fun b ob q _=>⟨ob,k b ob q⟩,fun _ _ q=>q,fun _ _ _ q=>q,fun _ ps q=>⟨#[],by rw[q];simp⟩⟩
theorem Un.refl:Un fs ex H H h h:=Un.kept fun _ _ q=>q
theorem Un.laid(k:∀b u,h.get? b=some u->h'.get? b=some u)(hp:h.objs.size<=a)(hn:H a=none):Un fs ex H (upd H a o) h h' where
 keep:=fun b u q _ _ _=>k b u q
 slot:=fun b u q _ _ _=>⟨u.slots,k b u q⟩
 free:=fun b u q n _=>by rw[aF (Nat.ne_of_lt (Nat.lt_of_lt_of_le (Heap.lt_size q) hp))];exact n
 there:=fun b u q _=>⟨u,k b u q⟩
 cM:=fun b xs q=>by rw[aF (aY q hn)];exact q
 nH:=fun b u xs q=>by rw[aF (aY q hn)];exact q
 mI:=fun b ps q=>⟨#[],by rw[aF (aY q hn),q];simp⟩
theorem Un.write(mu:MY (H x))(he:e=x ∨ H e=some (.own x))(k:∀b u,b≠e->h.get? b=some u->h'.get? b=some u)(JV:∃u,h'.get? e=some u):Un fs ex H (upd H x o) h h':=by
 have hx:∀b,H b=none->b≠x:=fun b n z=>by subst z;rw[n] at mu;exact mu
 have hb:∀b,H b=none->b≠e:=fun b n z=>by
  subst z
  rcases he with r|r
  ·exact hx b n r
  ·rw[n] at r;cases r
 have hm:∀b u,H b=some u->¬MY (some u)->b≠x:=fun b u q nm z=>by subst z;rw[q] at mu;exact nm mu
 refine⟨fun b u q n _ _=>k b u (hb b n) q,fun b u q n _ _=>⟨u.slots,k b u (hb b n) q⟩,fun b u q n _=>by rw[aF (hx b n)];exact n,fun b u q _=>?_,
  fun b xs q=>by rw[aF (hm b _ q fun z=>z)];exact q,fun b u xs q=>by rw[aF (hm b _ q fun z=>z)];exact q,fun b ps q=>⟨#[],by rw[aF (hm b _ q fun z=>z),q];simp⟩⟩
 by_cases IG:b=e
 ·subst IG;exact JV
 ·exact⟨u,k b u IG q⟩
theorem Un.mono(u:Un fs ex H H1 h h1)(hs:∀b∈fs,b∈Mc)(hx:∀b∈ex,b∈U1):Un Mc U1 H H1 h h1:=
 ⟨fun b ob q n hb he=>u.keep b ob q n (fun z=>hb (hs b z)) fun z=>he (hx b z),fun _ _ q n _ he=>u.any q n fun z=>he (hx _ z),fun b ob q n he=>u.free b ob q n fun z=>he (hx b z),fun b ob q he=>u.there b ob q fun z=>he (hx b z),u.cM,u.nH,u.mI⟩
end
def FG(h:Heap)(H:Hp):List Addr:=(List.range h.objs.size).filter fun a=>(H a).isSome
def uo(h:Heap)(H:Hp):Heap:=PySem.W.hideAll h (FG h H)
theorem AD(h:Heap)(H:Hp):(uo h H).objs.size=h.objs.size:=PySem.W.hideAll_size _ _
theorem ro{h:Heap}{H:Hp}{b:Addr}{o:Obj}(e:h.get? b=some o)(n:H b=none):(uo h H).get? b=some o:=
 PySem.W.hideAll_get _ e fun hm=>by
  have q:(H b).isSome=true:=(List.mem_filter.mp hm).2
  rw[n] at q;simp at q
theorem EC{h:Heap}{H:Hp}{b:Addr}{o:Obj}(e:(uo h H).get? b=some o):h.get? b=some o/\H b=none:=by
 have e':h.get? b=some o:=PySem.W.of_hideAll (FG h H) e
 refine⟨e',?_⟩
 cases q:H b with
 |none=>rfl
 |some x=>
  have hm:b∈FG h H:=List.mem_filter.mpr ⟨List.mem_range.mpr (Heap.lt_size e'),by simp[q]⟩
  have z:(uo h H).get? b=none:=PySem.W.hideAll_none (FG h H) hm
  rw[z] at e;cases e
def nV(g h:Heap)(L:Addr):List (Addr×Obj):=(List.range h.objs.size).filterMap fun a=>if a=L ∨ (g.get? a).isSome=true then none else (h.get? a).map fun o=>(a,o)
theorem hV{g h:Heap}{L a:Addr}{o:Obj}(h1:a≠L)(h2:g.get? a=none)(h3:h.get? a=some o):(a,o)∈nV g h L:=
 List.mem_filterMap.mpr ⟨a,List.mem_range.mpr (Heap.lt_size h3),by simp[h1,h2,h3]⟩
theorem qU{g h:Heap}{L:Addr}{p:Addr×Obj}(hp:p∈nV g h L):p.1≠L/\g.get? p.1=none/\h.get? p.1=some p.2:=by
 obtain⟨b,_,e⟩:=List.mem_filterMap.mp hp
 split at e
 ·cases e
 ·rename_i hn
  cases q:h.get? b with
  |none=>rw[q] at e;simp at e
  |some u=>
   rw[q] at e
   simp only[Option.map_some,Option.some.injEq] at e
   subst e
   refine⟨fun z=>hn (.inl z),?_,q⟩
   show g.get? b=none
   cases r:g.get? b with
   |none=>rfl
   |some v=>exact(hn (.inr (by simp[r]))).elim
def rest(g h:Heap)(L d:Addr):List (Addr×Obj):=(nV g h L).filter fun p=>decide (p.1≠d)
theorem Ce{g h:Heap}{L:Addr}:News g L h (nV g h L):=fun p hp=>let ⟨a,b,c⟩:=qU hp;⟨c,a,b⟩
end L2
namespace L2
open PySem PySem.Spec PyProof.Rows
structure Mod(K:W.Frag)(mg:Str->Option Value)(base:Heap):Prop where
 HW:K.In base
 glob:base.Ns mainGlobals mg
 blt:∃mb,base.Ns builtinsNs mb/\∀x:Str,x≠"__name__"->mb x=bootBuiltins x
 nolimit:base.NoLimit
/-- the context: a def's body (or a comprehension's block) running. base: fixed through the whole law; s₀, H₀: the entry; outer: the frames whose slots others may change (a def's callers); stack: all frames that run;
   ex: iterators that were made ahead of the entry and are walked here (a comprehension's); fn: the names whose cells were made at the entry (a def: all; a comprehension's block: its own); calm: not within an except suite; pn: pins that every state bears; xe: what is wanted of an exception that leaves the code -/
structure Cx where
 prog:Program
 w:World
 K:W.Frag
 mg:Str->Option Value
 base:Heap
 A:Around
 N:List Str
 s₀:Shared
 H₀:Hp
 env:Env
 outer:List Env
 stack:List Env
 ex:List Addr
 fn:Str->Bool
 calm:Bool
 pn:List (Addr×Obj)
 xe:Value->Shared->Prop
def vP(l:List Env):List Addr:=l.filterMap (·.frame)
abbrev Cx.fs(X:Cx):List Addr:=vP X.outer
def J1(sc:Scope)(x:Str):Prop:=sc.names.lookup x=some .local ∨ sc.names.lookup x=some .cell ∨ sc.names.lookup x=some .free
def Loc(sc:Scope)(x:Str):Prop:=sc.names.lookup x=some .local ∨ sc.names.lookup x=some .cell
def Look(env:Env)(h:Heap)(m:Str->Option Value)(x:Str)(u:Value):Prop:=
 (env.kindOf x=some .local/\m x=some u) ∨ ((env.kindOf x=some .cell ∨ env.kindOf x=some .free)/\∃c,env.cells.lookup x=some c/\h.IsCell c (some u))
structure Cx.Ok(X:Cx):Prop where
 mod:Mod X.K X.mg X.base
 kind:X.env.scope.kind= .function
 glob:X.env.globals=mainGlobals
 blt:X.env.builtins=builtinsNs
 above:X.s₀.heap.objs.size<=X.env.locals
 inj:∀x y c,X.env.cells.lookup x=some c->X.env.cells.lookup y=some c->x=y
 has:∀x,(X.env.kindOf x=some .cell ∨ X.env.kindOf x=some .free)->∃c,X.env.cells.lookup x=some c
 J0:∀x c,X.fn x=true->X.env.cells.lookup x=some c->X.s₀.heap.objs.size<=c
 hd:X.calm=true->X.A.handled=none
 frames:X.A.frames=some X.stack
 Nm:X.stack=X.outer ∨ (X.stack=X.env::X.outer/\X.env.frame=some X.env.locals)
 U0:∀b∈X.ex,b≠X.env.locals/\∀x c,X.env.cells.lookup x=some c->c≠b
 bs:∀b o,X.base.get? b=some o->X.s₀.heap.get? b=some o/\X.H₀ b=none
 Bh:X.base.objs.size<=X.s₀.heap.objs.size
 ED:∀b o,X.base.get? b=some o->b∉X.ex
 E8:∀b∈X.ex,b∉X.fs
 lH:X.s₀.heap.FunFrames X.base X.outer
 DM:∀b∈X.fs,X.H₀ b=none
structure Inv(X:Cx)(pins:List (Addr×Obj))(σ:List (Option V))(H:Hp)(s:Shared):Prop where
 ok:X.Ok
 os:s.os=X.s₀.os
 bare:AllBare s.gens
 base:Un X.fs X.ex X.H₀ H X.s₀.heap s.heap
 loc:∃m,s.heap.Ns X.env.locals m/\∀(i:Nat) (x:Str) (v:V),X.N[i]? =some x->σ[i]? =some (some v)->J1 X.env.scope x->∃u,RelV v u/\Look X.env s.heap m x u
 cell:∀x c,X.env.cells.lookup x=some c->∃v,s.heap.IsCell c v
 free:H X.env.locals=none
 jP:∀x c,X.env.cells.lookup x=some c->H c=none
 pin:∀p∈X.pn++pins,s.heap.get? p.1=some p.2/\H p.1=none/\p.1≠X.env.locals/\p.1∉X.fs/\∀v,p.2.data≠ .cell v
 cx:mz X.prog X.w H s.heap
 len:σ.length=X.N.length
section
variable {X:Cx}{pins:List (Addr×Obj)}{σ:List (Option V)}{H H':Hp}{s:Shared}{h':Heap}
theorem Cx.Ok.O7(ok:X.Ok){b:Addr}{o:Obj}(e:X.base.get? b=some o):b∉X.fs:=fun hb=>by
 have:=(ok.lH.mem hb).1
 rw[e] at this;cases this
theorem Inv.bs(I:Inv X pins σ H s):∀b o,X.base.get? b=some o->s.heap.get? b=some o/\H b=none:=fun b o e=>
 ⟨I.base.keep b o (I.ok.bs b o e).1 (I.ok.bs b o e).2 (I.ok.O7 e) (I.ok.ED b o e),I.base.free b o (I.ok.bs b o e).1 (I.ok.bs b o e).2 (I.ok.ED b o e)⟩
theorem Inv.bk(I:Inv X pins σ H s):∀b o,X.base.get? b=some o->s.heap.get? b=some o:=fun b o e=>(I.bs b o e).1
theorem Inv.mod(I:Inv X pins σ H s):Mod X.K X.mg X.base:=I.ok.mod
theorem Inv.nu(I:Inv X pins σ H s):X.K.In s.heap:=I.ok.mod.HW.keeps I.bk
theorem Inv.nolimit(I:Inv X pins σ H s):s.heap.NoLimit:=I.ok.mod.nolimit.keeps I.bk
theorem Inv.fr(I:Inv X pins σ H s):∃m,Fr X.base X.env.locals s.heap m:=
 let ⟨m,hn,_⟩:=I.loc
 ⟨m,hn,I.bk,Nat.le_trans I.ok.Bh I.ok.above⟩
theorem Inv.lt(I:Inv X pins σ H s):X.env.locals < s.heap.objs.size:=let ⟨_,hn,_⟩:=I.loc;hn.lt
theorem Inv.sz(I:Inv X pins σ H s):X.s₀.heap.objs.size<=s.heap.objs.size:=Nat.le_trans I.ok.above (Nat.le_of_lt I.lt)
theorem Inv.O6(I:Inv X pins σ H s){a:Addr}(h:s.heap.objs.size<=a):a∉X.fs:=fun hb=>by
 obtain⟨_,o,ho,_⟩:=I.ok.lH.mem hb
 exact absurd (Nat.lt_of_lt_of_le (Heap.lt_size ho) (Nat.le_trans I.sz h)) (Nat.lt_irrefl _)
theorem Inv.GJ(I:Inv X pins σ H s):∀x c,X.env.cells.lookup x=some c->c≠X.env.locals:=fun x c e z=>by
 obtain⟨v,o,ho,hd⟩:=I.cell x c e
 obtain⟨m,⟨o',es,ep,ID,LZ,_⟩,_⟩:=I.loc
 rw[z,ID] at ho;cases ho;rw[LZ] at hd;cases hd
theorem Inv.lH(I:Inv X pins σ H s):s.heap.FunFrames X.base X.outer:=by
 have all:∀(l:List Env),(∀b∈vP l,b∈X.fs)->X.s₀.heap.FunFrames X.base l->s.heap.FunFrames X.base l:=by
  intro l
  induction l with
  |nil=>intro _ _;trivial
  |cons env r ih=>
   intro hs hl
   obtain⟨hk,⟨L,o,hf,hn,ho,hd⟩,hr⟩:=hl
   have hL:L∈X.fs:=hs L (by unfold vP;rw[List.filterMap_cons,hf];exact List.mem_cons_self)
   obtain⟨sl,e⟩:=I.base.slot L o ho (I.ok.DM L hL) hL fun z=>I.ok.E8 L z hL
   exact⟨hk,⟨L,_,hf,hn,e,hd⟩,ih (fun b hb=>hs b (by unfold vP;rw[List.filterMap_cons,hf];exact List.mem_cons_of_mem _ hb)) hr⟩
 exact all X.outer (fun _ hb=>hb) I.ok.lH
theorem Inv.stack(I:Inv X pins σ H s):s.heap.FunFrames X.base X.stack:=by
 rcases I.ok.Nm with e|⟨e,hf⟩
 ·rw[e];exact I.lH
 ·rw[e]
  obtain⟨m,hn,_⟩:=I.loc
  refine .cons (by rw[I.ok.kind];decide) hf hn ?_ I.lH
  exact Heap.get?_none_of_le (Nat.le_trans I.ok.Bh I.ok.above)
theorem Inv.wR(I:Inv X pins σ H s):∀b∈vP X.stack,b∈X.env.locals::X.fs:=fun b hb=>by
 rcases I.ok.Nm with e|⟨e,hf⟩
 ·rw[e] at hb;exact List.mem_cons_of_mem _ hb
 ·rw[e] at hb
  unfold vP at hb
  rw[List.filterMap_cons,hf] at hb
  exact hb
theorem Inv.tI(I:Inv X pins σ H s):∀b∈vP X.stack,H b=none:=fun b hb=>by
 rcases List.mem_cons.mp (I.wR b hb) with e|hb
 ·rw[e];exact I.free
 ·obtain⟨_,o,ho,_⟩:=I.ok.lH.mem hb
  exact I.base.free b o ho (I.ok.DM b hb) fun z=>I.ok.E8 b z hb
theorem Inv.step{g':Array GenState}{t':Nat}{d':Drawn}{ch:List Addr}(I:Inv X pins σ H s)
  (Bf:∀b∈ch,(b∈X.ex ∨ X.s₀.heap.objs.size<=b)/\b≠X.env.locals/\(∀x c,X.env.cells.lookup x=some c->c≠b)/\∀p∈X.pn++pins,p.1≠b)
  (keep:∀b o,b≠X.env.locals->b∉X.fs->b∉ch->s.heap.get? b=some o->H b=none->h'.get? b=some o)
  (slot:∀b o,b≠X.env.locals->b∈X.fs->b∉ch->s.heap.get? b=some o->H b=none->∃sl,h'.get? b=some {o with slots:=sl})(free:∀b o,b∉ch->s.heap.get? b=some o->H b=none->H' b=none)
  (there:∀b o,b∉ch->s.heap.get? b=some o->∃o',h'.get? b=some o')
  (cM:∀b xs,H b=some (.tup xs)->H' b=some (.tup xs))(nH:∀b o u,H b=some (.xI o u)->H' b=some (.xI o u))(mI:∀b ps,H b=some (.gu ps)->∃more,H' b=some (.gu (ps++more)))
  (ns:∀m,s.heap.Ns X.env.locals m->h'.Ns X.env.locals m)(cx:mz X.prog X.w H' h')(hg:AllBare g'):
  Inv X pins σ H' {s with heap:=h',gens:=g',drawn:=d',toks:=t'}:=by
 have Tq:∀b o,X.s₀.heap.get? b=some o->b≠X.env.locals:=fun b o e=>Nat.ne_of_lt (Nat.lt_of_lt_of_le (Heap.lt_size e) I.ok.above)
 have Nx:∀b o,X.s₀.heap.get? b=some o->b∉X.ex->b∉ch:=fun b o e hx hb=>by
  rcases(Bf b hb).1 with z|z
  ·exact hx z
  ·exact absurd (Nat.lt_of_lt_of_le (Heap.lt_size e) z) (Nat.lt_irrefl _)
 have cellK:∀x c,X.env.cells.lookup x=some c->∀v,s.heap.IsCell c v->h'.IsCell c v:=fun x c e v ⟨o,ho,hd⟩=>by
  have Cf:c∉ch:=fun z=>(Bf c z).2.2.1 x c e rfl
  by_cases hc:c∈X.fs
  ·obtain⟨sl,q⟩:=slot c o (I.GJ x c e) hc Cf ho (I.jP x c e)
   exact⟨_,q,hd⟩
  ·exact⟨o,keep c o (I.GJ x c e) hc Cf ho (I.jP x c e),hd⟩
 refine⟨I.ok,I.os,hg,⟨fun b o e n hb hx=>?_,fun b o e n hb hx=>?_,fun b o e n hx=>?_,fun b o e hx=>?_,fun b xs e=>cM b xs (I.base.cM b xs e),fun b o xs e=>nH b o xs (I.base.nH b o xs e),fun b ps e=>?_⟩,?_,fun x c e=>?_,?_,fun x c e=>?_,fun p hp=>?_,cx,I.len⟩
 ·exact keep b o (Tq b o e) hb (Nx b o e hx) (I.base.keep b o e n hb hx) (I.base.free b o e n hx)
 ·obtain⟨sl,e1⟩:=I.base.slot b o e n hb hx
  obtain⟨OF,e2⟩:=slot b _ (Tq b o e) hb (Nx b o e hx) e1 (I.base.free b o e n hx)
  exact⟨OF,e2⟩
 ·obtain⟨o',e1⟩:=I.base.there b o e hx
  exact free b o' (Nx b o e hx) e1 (I.base.free b o e n hx)
 ·obtain⟨o',e1⟩:=I.base.there b o e hx
  exact there b o' (Nx b o e hx) e1
 ·obtain⟨m1,e1⟩:=I.base.mI b ps e
  obtain⟨m2,e2⟩:=mI b _ e1
  exact⟨m1++m2,by rw[e2,Array.append_assoc]⟩
 ·obtain⟨m,hn,hl⟩:=I.loc
  refine⟨m,ns m hn,fun i x v e1 e2 e3=>?_⟩
  obtain⟨u,r,l⟩:=hl i x v e1 e2 e3
  refine⟨u,r,?_⟩
  rcases l with l|⟨k,c,e,z⟩
  ·exact .inl l
  ·exact .inr ⟨k,c,e,cellK x c e _ z⟩
 ·obtain⟨v,z⟩:=I.cell x c e
  exact⟨v,cellK x c e v z⟩
 ·obtain⟨m,⟨o,_,_,ho,_⟩,_⟩:=I.loc
  exact free _ o (fun z=>(Bf _ z).2.1 rfl) ho I.free
 ·obtain⟨v,o,ho,hd⟩:=I.cell x c e
  exact free c o (fun z=>(Bf c z).2.2.1 x c e rfl) ho (I.jP x c e)
 ·obtain⟨e,n,ne,nf,d⟩:=I.pin p hp
  have Cf:p.1∉ch:=fun z=>(Bf p.1 z).2.2.2 p hp rfl
  exact⟨keep p.1 p.2 ne nf Cf e n,free p.1 p.2 Cf e n,ne,nf,d⟩
theorem Inv.un{t':Nat}(I:Inv X pins σ H s)(u:Un X.fs [] H H' s.heap h')(cx:mz X.prog X.w H' h'):Inv X pins σ H' {s with heap:=h',toks:=t'}:=by
 obtain⟨m,⟨o,es,ep,ho,r⟩,_⟩:=id I.loc
 obtain⟨sl,hL⟩:=u.any ho I.free (by simp)
 exact I.step (g':=s.gens) (d':=s.drawn) (ch:=[]) (fun _ z=>nomatch z) (fun b o _ hb _ e n=>u.keep b o e n hb (by simp)) (fun b o _ hb _ e n=>u.slot b o e n hb (by simp)) (fun b o _ e n=>u.free b o e n (by simp)) (fun b o _ e=>u.there b o e (by simp)) u.cM u.nH u.mI (fun m' hm=>by
  obtain⟨o',Rr,Md,ID,r'⟩:=hm
  rw[ho] at ID;cases ID
  exact⟨_,Rr,Md,hL,r'⟩) cx I.bare
theorem Inv.call{g':Array GenState}{t':Nat}{d':Drawn}{ch:List Addr}(I:Inv X pins σ H s)(u:Un (vP X.stack) ch H H' s.heap h')(cx:mz X.prog X.w H' h')(hg:AllBare g')
  (Bf:∀b∈ch,(b∈X.ex ∨ X.s₀.heap.objs.size<=b)/\b≠X.env.locals/\(∀x c,X.env.cells.lookup x=some c->c≠b)/\∀p∈X.pn++pins,p.1≠b):
  Inv X pins σ H' {s with heap:=h',gens:=g',drawn:=d',toks:=t'}:=by
 obtain⟨m,⟨o,es,ep,ho,r⟩,_⟩:=id I.loc
 obtain⟨sl,hL⟩:=u.any ho I.free fun z=>(Bf _ z).2.1 rfl
 exact I.step (ch:=ch) Bf (fun b o hL hb hc e n=>u.keep b o e n (fun z=>(List.mem_cons.mp (I.wR b z)).elim hL hb) hc) (fun b o _ _ hc e n=>u.any e n hc) (fun b o hc e n=>u.free b o e n hc) (fun b o hc e=>u.there b o e hc) u.cM u.nH u.mI (fun m' hm=>by
  obtain⟨o',Rr,Md,ID,r'⟩:=hm
  rw[ho] at ID;cases ID
  exact⟨_,Rr,Md,hL,r'⟩) cx hg
theorem Inv.turned{t':Nat}{it:Addr}(I:Inv X pins σ H s)(k:∀b o,b≠it->s.heap.get? b=some o->h'.get? b=some o)(hn:H it=none)(hL:it≠X.env.locals)
  (h1:it∈X.ex ∨ X.s₀.heap.objs.size<=it)(h2:∀x c,X.env.cells.lookup x=some c->c≠it)(h3:∀p∈X.pn++pins,p.1≠it):Inv X pins σ H {s with heap:=h',toks:=t'}:=by
 have Tp:∀b u,H b=some u->b≠it:=fun b u e z=>by rw[z,hn] at e;cases e
 refine I.step (g':=s.gens) (d':=s.drawn) (ch:=[it]) (fun b hb=>?_) (fun b o _ _ hc e _=>k b o (fun z=>hc (by simp[z])) e) (fun b o _ _ hc e _=>⟨o.slots,k b o (fun z=>hc (by simp[z])) e⟩) (fun _ _ _ _ n=>n)
  (fun b o hc e=>⟨o,k b o (fun z=>hc (by simp[z])) e⟩) (fun _ _ e=>e) (fun _ _ _ e=>e) (fun b ps e=>⟨#[],by rw[e];simp⟩) (fun m hm=>?_) (fun b u e=>?_) I.bare
 ·have e:b=it:=by simpa using hb
  subst e
  exact⟨h1,hL,h2,h3⟩
 ·obtain⟨o,es,ep,ho,r⟩:=hm
  exact⟨o,es,ep,k _ o (Ne.symm hL) ho,r⟩
 ·refine(I.cx b u e).lD (fun c v hc q=>k c v ?_ q) (fun _ q=>q) fun _ _ q=>q
  rcases hc with z|z
  ·rw[z];exact Tp b u e
  ·exact Tp c _ z
theorem Inv.tok(I:Inv X pins σ H s)(t:Nat):Inv X pins σ H {s with toks:=t}:=I.un (h':=s.heap) (t':=t) Un.refl I.cx
theorem Inv.kept{t':Nat}(I:Inv X pins σ H s)(k:∀b u,s.heap.get? b=some u->h'.get? b=some u):Inv X pins σ H {s with heap:=h',toks:=t'}:=I.un (Un.kept k) (I.cx.kept k)
theorem Inv.laid{a:Addr}{o:HO}{t':Nat}(I:Inv X pins σ H s)(k:∀b u,s.heap.get? b=some u->h'.get? b=some u)(hp:s.heap.objs.size<=a)(new:cK X.prog X.w (upd H a o) h' a o):
  Inv X pins σ (upd H a o) {s with heap:=h',toks:=t'}:=I.un (Un.laid k hp (I.cx.fresh hp)) (I.cx.laid k hp new)
theorem Inv.write{x e:Addr}{o:HO}{t':Nat}(I:Inv X pins σ H s)(mu:MY (H x))(he:e=x ∨ H e=some (.own x))(k:∀b u,b≠e->s.heap.get? b=some u->h'.get? b=some u)(JV:∃u,h'.get? e=some u)
  (new:cK X.prog X.w (upd H x o) h' x o):Inv X pins σ (upd H x o) {s with heap:=h',toks:=t'}:=I.un (Un.write mu he k JV) (I.cx.write mu he k JV new)
theorem Inv.yr{FX:List (Addr×Obj)}(I:Inv X pins σ H s)(h:∀p∈FX,s.heap.get? p.1=some p.2/\H p.1=none/\p.1≠X.env.locals/\p.1∉X.fs/\∀v,p.2.data≠ .cell v):Inv X FX σ H s:=
 ⟨I.ok,I.os,I.bare,I.base,I.loc,I.cell,I.free,I.jP,fun p hp=>(List.mem_append.mp hp).elim (fun z=>I.pin p (List.mem_append_left _ z)) (h p),I.cx,I.len⟩
theorem vz{N:List Str}(hN:N.Nodup){i j:Nat}{x:Str}(a:N[i]? =some x)(b:N[j]? =some x):i=j:=by
 obtain⟨h1,e1⟩:=List.getElem?_eq_some_iff.mp a
 obtain⟨h2,e2⟩:=List.getElem?_eq_some_iff.mp b
 exact(List.getElem_inj hN).mp (e1.trans e2.symm)
theorem zH{M:Model}{A:Around}{E:Value->Shared->Prop}{i:Nat}{x:Str}{v:V}{u:Value}{Q:Unit->Shared->Prop}(I:Inv X pins σ H s)(hN:X.N.Nodup)(hi:X.N[i]? =some x)(hx:Loc X.env.scope x)(r:RelV v u)
  (h:∀s',Inv X pins (σ.set i (some v)) H s'->(∃a,Heap.SameBut a s.heap s'.heap/\(a=X.env.locals ∨ X.env.cells.lookup x=some a))->Q () s')(hf:X.fn x=true ∨ X.env.scope.names.lookup x=some .local:=by first|exact .inl rfl|exact .inr rfl|assumption):wpAny M A (storeName X.env x u) Q E s:=by
 obtain⟨m,hn,hl⟩:=id I.loc
 have QS:(X.env.scope.kind== .class||(X.env.scope.kind== .module&&X.env.locals != X.env.globals))=false:=by rw[I.ok.kind];rfl
 have hiσ:i < σ.length:=by rw[I.len];exact(List.getElem?_eq_some_iff.mp hi).1
 have GJ:=I.GJ
 have tracked:∀{a:Addr}{h':Heap},(∃o,s.heap.get? a=some o/\H a=none)->Heap.SameBut a s.heap h'->mz X.prog X.w H h':=fun {a h'} ha hs b ob e=>by
  obtain⟨_,_,Gq⟩:=ha
  refine(I.cx b ob e).lD (fun c w' hc q=>(hs.2 c ?_).trans q) (fun _ q=>q) fun _ _ q=>q
  rintro rfl
  rcases hc with rfl|hc
  ·rw[Gq] at e;cases e
  ·rw[Gq] at hc;cases hc
 rcases hx with hk|hk
 ·refine wpAny_storeName_local hk hn (fun h' Uz hs=>?_) QS
  obtain⟨oL,_,_,Ya,_⟩:=id hn
  refine h _ ⟨I.ok,I.os,I.bare,⟨fun b o e n hb hx=>?_,fun b o e n hb hx=>?_,I.base.free,fun b o e hx=>?_,I.base.cM,I.base.nH,I.base.mI⟩,⟨_,Uz,fun j y v' e1 e2 e3=>?_⟩,fun y c e=>?_,I.free,I.jP,fun p hp=>?_,tracked ⟨oL,Ya,I.free⟩ hs,by simpa using I.len⟩ ⟨_,hs,.inl rfl⟩
  ·exact(hs.2 b (Nat.ne_of_lt (Nat.lt_of_lt_of_le (Heap.lt_size e) I.ok.above))).trans (I.base.keep b o e n hb hx)
  ·obtain⟨sl,e1⟩:=I.base.slot b o e n hb hx
   exact⟨sl,(hs.2 b (Nat.ne_of_lt (Nat.lt_of_lt_of_le (Heap.lt_size e) I.ok.above))).trans e1⟩
  ·obtain⟨o',e1⟩:=I.base.there b o e hx
   exact⟨o',(hs.2 b (Nat.ne_of_lt (Nat.lt_of_lt_of_le (Heap.lt_size e) I.ok.above))).trans e1⟩
  ·by_cases hj:j=i
   ·subst hj
    rw[hi] at e1;cases e1
    rw[List.getElem?_set_self hiσ] at e2
    cases e2
    exact⟨u,r,.inl ⟨hk,by simp⟩⟩
   ·rw[List.getElem?_set_ne (Ne.symm hj)] at e2
    obtain⟨u',r',q⟩:=hl j y v' e1 e2 e3
    refine⟨u',r',?_⟩
    rcases q with⟨k,e⟩|⟨k,c,e,z⟩
    ·refine .inl ⟨k,?_⟩
     have:y≠x:=fun e=>hj (vz hN e1 (e ▸ hi))
     simp[this,e]
    ·exact .inr ⟨k,c,e,z.sameBut hs (GJ y c e)⟩
  ·obtain⟨w',z⟩:=I.cell y c e
   exact⟨w',z.sameBut hs (GJ y c e)⟩
  ·obtain⟨e,n,ne,nf,d⟩:=I.pin p hp
   exact⟨(hs.2 p.1 ne).trans e,n,ne,nf,d⟩
 ·have QK:X.fn x=true:=by
   rcases hf with z|z
   ·exact z
   ·rw[z] at hk;cases hk
  obtain⟨c,hc⟩:=I.ok.has x (.inl hk)
  obtain⟨w',z⟩:=I.cell x c hc
  refine wpAny_storeName_cell I.ok.kind hk hc z (fun h' UK hs=>?_)
  obtain⟨oc,NG,Qr⟩:=id z
  refine h {s with heap:=h'} ⟨I.ok,I.os,I.bare,⟨fun b o e n hb hx=>?_,fun b o e n hb hx=>?_,I.base.free,fun b o e hx=>?_,I.base.cM,I.base.nH,I.base.mI⟩,⟨m,hn.sameBut hs (Ne.symm (GJ x c hc)),fun j y v' e1 e2 e3=>?_⟩,fun y c' e=>?_,I.free,I.jP,fun p hp=>?_,tracked ⟨oc,NG,I.jP x c hc⟩ hs,by simpa using I.len⟩ ⟨c,hs,.inr hc⟩
  ·exact(hs.2 b (Nat.ne_of_lt (Nat.lt_of_lt_of_le (Heap.lt_size e) (I.ok.J0 x c QK hc)))).trans (I.base.keep b o e n hb hx)
  ·obtain⟨sl,e1⟩:=I.base.slot b o e n hb hx
   exact⟨sl,(hs.2 b (Nat.ne_of_lt (Nat.lt_of_lt_of_le (Heap.lt_size e) (I.ok.J0 x c QK hc)))).trans e1⟩
  ·obtain⟨o',e1⟩:=I.base.there b o e hx
   exact⟨o',(hs.2 b (Nat.ne_of_lt (Nat.lt_of_lt_of_le (Heap.lt_size e) (I.ok.J0 x c QK hc)))).trans e1⟩
  ·by_cases hj:j=i
   ·subst hj
    rw[hi] at e1;cases e1
    rw[List.getElem?_set_self hiσ] at e2
    cases e2
    exact⟨u,r,.inr ⟨.inl hk,c,hc,UK⟩⟩
   ·rw[List.getElem?_set_ne (Ne.symm hj)] at e2
    obtain⟨u',r',q⟩:=hl j y v' e1 e2 e3
    refine⟨u',r',?_⟩
    rcases q with q|⟨k,c',e,z'⟩
    ·exact .inl q
    ·refine .inr ⟨k,c',e,z'.sameBut hs ?_⟩
     rintro rfl
     exact hj (vz hN e1 (I.ok.inj _ _ _ e hc ▸ hi))
  ·by_cases yR:c'=c
   ·subst yR;exact⟨_,UK⟩
   ·obtain⟨w2,z2⟩:=I.cell y c' e
    exact⟨w2,z2.sameBut hs yR⟩
  ·obtain⟨e,n,ne,nf,d⟩:=I.pin p hp
   refine⟨(hs.2 p.1 ?_).trans e,n,ne,nf,d⟩
   intro q
   rw[q,NG] at e
   have q':oc=p.2:=Option.some.inj e
   exact d w' (by rw[<-q'];exact Qr)
theorem kd{M:Model}{A:Around}{E:Value->Shared->Prop}{i:Nat}{x:Str}{v:V}{u:Value}{Q:Unit->Shared->Prop}(I:Inv X pins σ H s)(hN:X.N.Nodup)(hi:X.N[i]? =some x)(hx:Loc X.env.scope x)(r:RelV v u)
  (h:∀s',Inv X pins (σ.set i (some v)) H s'->Q () s')(hf:X.fn x=true ∨ X.env.scope.names.lookup x=some .local:=by first|exact .inl rfl|exact .inr rfl|assumption):wpAny M A (storeName X.env x u) Q E s:=
 zH I hN hi hx r (fun s' I' _=>h s' I') hf
theorem Inv.Mr{s':Shared}{ch:List Addr}(I:Inv X pins σ H s)(ho:s'.os=s.os)(u:Un (vP X.stack) ch H H' s.heap s'.heap)(cx:mz X.prog X.w H' s'.heap)(hg:AllBare s'.gens)
  (Bf:∀b∈ch,(b∈X.ex ∨ X.s₀.heap.objs.size<=b)/\b≠X.env.locals/\(∀x c,X.env.cells.lookup x=some c->c≠b)/\∀p∈X.pn++pins,p.1≠b):Inv X pins σ H' s':=by
 obtain⟨h',g',d',t',o'⟩:=s'
 have e:o'=s.os:=ho
 subst e
 exact I.call (g':=g') (t':=t') (d':=d') u cx hg Bf
end
abbrev XK:=Value->Option Addr->Hp->Prop
abbrev St:=List (Option V)
abbrev VK:=V->Hp->Prop
abbrev TE:=St->Hp->VK->Prop
abbrev TT:=St->Hp->(Bool->Hp->Prop)->Prop
abbrev TA:=St->Hp->(List V->Hp->Prop)->Prop
structure Ends where
 nx:St->Hp->Prop
 rt:VK
 bk:St->Hp->Prop:=fun _ _=>False
 ct:St->Hp->Prop:=fun _ _=>False
abbrev TS:=Ends->St->Hp->Prop
inductive EPI(X:Cx)(pins:List (Addr×Obj))(σ:St)(Q:VK)(u:Value)(s':Shared):Prop where
 |mk(v:_)(H':_)(c1:Inv X pins σ H' s')(c2:RelV v u)(c3:Q v H')
def EP(X:Cx)(pins:List (Addr×Obj))(σ:St)(Q:VK)(u:Value)(s':Shared):Prop:=EPI X pins σ Q u s'
def TP(X:Cx)(pins:List (Addr×Obj))(σ:St)(Q:Bool->Hp->Prop)(b:Bool)(s':Shared):Prop:=∃H',Inv X pins σ H' s'/\Q b H'
inductive API(X:Cx)(pins:List (Addr×Obj))(σ:St)(Q:List V->Hp->Prop)(us:List Value)(s':Shared):Prop where
 |mk(vs:_)(H':_)(c1:Inv X pins σ H' s')(c2:Vals vs us)(c3:Q vs H')
def AP(X:Cx)(pins:List (Addr×Obj))(σ:St)(Q:List V->Hp->Prop)(us:List Value)(s':Shared):Prop:=API X pins σ Q us s'
def SP(X:Cx)(pins:List (Addr×Obj))(D:Ends)(f:Flow)(s':Shared):Prop:=
 match f with
 | .next=>∃σ' H',Inv X pins σ' H' s'/\D.nx σ' H'
 | .brk=>∃σ' H',Inv X pins σ' H' s'/\D.bk σ' H'
 | .cont=>∃σ' H',Inv X pins σ' H' s'/\D.ct σ' H'
 | .ret u=>∃v σ' H',Inv X pins σ' H' s'/\RelV v u/\D.rt v H'
def PE(X:Cx)(e:Expr)(t:TE):Prop:=
 ∀(pins:List (Addr×Obj)) (s:Shared) (σ:St) (H:Hp) (Q:VK),Inv X pins σ H s->t σ H Q->wpAny (model X.prog X.w) X.A (eval e X.env) (EP X pins σ Q) X.xe s
def PT(X:Cx)(e:Expr)(t:TT):Prop:=
 ∀(pins:List (Addr×Obj)) (s:Shared) (σ:St) (H:Hp) (Q:Bool->Hp->Prop),Inv X pins σ H s->t σ H Q->wpAny (model X.prog X.w) X.A (isTrue e X.env (eval e X.env)) (TP X pins σ Q) X.xe s
def PW(X:Cx)(e:Expr)(t:TT):Prop:=
 ∀(whole:Sem Value) (pins:List (Addr×Obj)) (s:Shared) (σ:St) (H:Hp) (Q:Bool->Hp->Prop),Inv X pins σ H s->t σ H Q->wpAny (model X.prog X.w) X.A (isTrue e X.env whole) (TP X pins σ Q) X.xe s
theorem PW.pt{X:Cx}{e:Expr}{t:TT}(h:PW X e t):PT X e t:=h _
def PA(X:Cx)(es:List Expr)(t:TA):Prop:=
 ∀(pos:Pos) (pins:List (Addr×Obj)) (s:Shared) (σ:St) (H:Hp) (Q:List V->Hp->Prop),Inv X pins σ H s->t σ H Q->wpAny (model X.prog X.w) X.A (spliced (backTo pos (starEach es X.env))) (AP X pins σ Q) X.xe s
def PS(X:Cx)(st:Stmt)(t:TS):Prop:=
 ∀(pins:List (Addr×Obj)) (s:Shared) (σ:St) (H:Hp) (D:Ends),Inv X pins σ H s->t D σ H->wpAny (model X.prog X.w) X.A (exec st X.env) (SP X pins D) X.xe s
def nZ(X:Cx)(st:List Stmt)(t:TS):Prop:=
 ∀(pins:List (Addr×Obj)) (s:Shared) (σ:St) (H:Hp) (D:Ends),Inv X pins σ H s->t D σ H->wpAny (model X.prog X.w) X.A (execs st X.env) (SP X pins D) X.xe s
theorem dB{α:Type}{t:Sem α}{Q Q':α->Shared->Prop}{M:Model}{A:Around}{E:Value->Shared->Prop}{s:Shared}(h:wpAny M A t Q E s)(hQ:∀a s,Q a s->Q' a s):wpAny M A t Q' E s:=wpAny_mono h hQ fun _ _ x=>x
end L2
namespace L2
open PySem PySem.Spec PyProof.Rows
section
variable {X:Cx}
theorem bin{a b:Expr}{ta tb:TE}(ha:PE X a ta)(hb:PE X b tb){pins:List (Addr×Obj)}{s:Shared}{σ:St}{H:Hp}{R:V->V->Hp->Prop}(I:Inv X pins σ H s)(h:ta σ H fun x H1=>tb σ H1 fun y H2=>R x y H2)
  {α:Type}{Q:α->Shared->Prop}{f:Value->Value->Sem α}
  (hf:∀v u s2 x y H2,Inv X pins σ H2 s2->RelV x v->RelV y u->R x y H2->wpAny (model X.prog X.w) X.A (f v u) Q X.xe s2):
  wpAny (model X.prog X.w) X.A (eval a X.env) (fun v s₁=>wpAny (model X.prog X.w) X.A (eval b X.env) (fun u s₂=>wpAny (model X.prog X.w) X.A (f v u) Q X.xe s₂) X.xe s₁) X.xe s:=by
 refine dB (ha pins s σ H _ I h) fun v s1 ⟨x,H1,I1,r1,q1⟩=>?_
 refine dB (hb pins s1 σ H1 _ I1 q1) fun u s2 ⟨y,H2,I2,r2,q2⟩=>?_
 exact hf v u s2 x y H2 I2 r1 r2 q2
inductive MG(i:Nat)(σ:L2.St)(H:Hp)(Q:VK):Prop where
 |mk(v:_)(c1:σ[i]? =some (some v))(c2:Q v H)
def zG(i:Nat):TE:=fun σ H Q=>MG i σ H Q
def tC(v:V):TE:=fun _ H Q=>Q v H
theorem BR{i:Nat}{x:Str}{pos:Pos}(hN:X.N[i]? =some x)(hv:J1 X.env.scope x)(hd:(x==("__debug__":Str))=false:=by decide)(rQ:(x==("__classdict__":Str))=false:=by decide):PE X (.Name x pos) (zG i):=by
 intro pins s σ H Q I h
 obtain⟨v,e,h⟩:=h
 obtain⟨m,hn,hl⟩:=I.loc
 obtain⟨u,r,l⟩:=hl i x v hN e hv
 have fin:EP X pins σ Q u s:=⟨v,H,I,r,h⟩
 rcases l with⟨hk,hm⟩|⟨hk,c,hc,pq⟩
 ·exact wpAny_Name (wpAny_loadName_local I.ok.kind hk hn hm fin) hd
 ·rcases hk with hk|hk
  ·exact wpAny_Name (wpAny_loadName_cell I.ok.kind hk hc pq fin) hd
  ·exact wpAny_Name (wpAny_loadName_free I.ok.kind hk hc pq fin rQ) hd
theorem ah{i j pos}:PE X (.Constant (.int i) j pos) (tC (.int i)):=fun _ _ _ H _ I h=>wpAny_Constant_int ⟨.int i,H,I.tok _,⟨_,rfl⟩,h⟩
theorem e4{b j pos}:PE X (.Constant (.bool b) j pos) (tC (.bl b)):=fun _ _ _ H _ I h=>Constant_bool ⟨.bl b,H,I,rfl,h⟩
theorem qN{j pos}:PE X (.Constant .none j pos) (tC .d0):=fun _ _ _ H _ I h=>Constant_none ⟨.d0,H,I,rfl,h⟩
theorem aC{x j pos}:PE X (.Constant (.str x) j pos) (tC (.str x)):=fun _ _ _ H _ I h=>Calls.Constant_str ⟨.str x,H,I.tok _,⟨_,rfl⟩,h⟩
def Gl(X:Cx)(x:Str):Prop:=X.env.kindOf x=some .globalImplicit
theorem p8{E:Value->Shared->Prop}{pins:List (Addr×Obj)}{s:Shared}{σ:St}{H:Hp}{x:Str}{u:Value}{pos:Pos}{Q:Value->Shared->Prop}(I:Inv X pins σ H s)(hg:Gl X x)(hm:X.mg x=some u)(h:Q u s)
  (hd:(x==("__debug__":Str))=false:=by decide):wpAny (model X.prog X.w) X.A (eval (.Name x pos) X.env) Q E s:=
 Calls.Name_function_global I.ok.kind hg (Calls.loadGlobal_global (by rw[I.ok.glob];exact I.mod.glob.keeps I.bk) hm h) hd
theorem iB{E:Value->Shared->Prop}{pins:List (Addr×Obj)}{s:Shared}{σ:St}{H:Hp}{x:Str}{u:Value}{pos:Pos}{Q:Value->Shared->Prop}(I:Inv X pins σ H s)(hg:Gl X x)(hm:X.mg x=none)(hv:bootBuiltins x=some u)(h:Q u s)
  (hn:x≠"__name__":=by decide)(hd:(x==("__debug__":Str))=false:=by decide):wpAny (model X.prog X.w) X.A (eval (.Name x pos) X.env) Q E s:=by
 obtain⟨mb,h1,h2⟩:=I.mod.blt
 exact Calls.Name_function_global I.ok.kind hg (Calls.loadGlobal_builtin (by rw[I.ok.glob];exact I.mod.glob.keeps I.bk) hm (by rw[I.ok.blt];exact h1.keeps I.bk) ((h2 x hn).trans hv) h) hd
theorem mW{x:Str}{v:V}{u:Value}{pos:Pos}(hg:Gl X x)(hm:X.mg x=some u)(r:RelV v u)(hd:(x==("__debug__":Str))=false:=by decide):PE X (.Name x pos) (tC v):=
 fun _ _ _ H _ I h=>p8 I hg hm ⟨v,H,I,r,h⟩ hd
theorem jr{x:Str}{v:V}{u:Value}{pos:Pos}(hg:Gl X x)(hm:X.mg x=none)(hv:bootBuiltins x=some u)(r:RelV v u)(hn:x≠"__name__":=by decide)(hd:(x==("__debug__":Str))=false:=by decide):PE X (.Name x pos) (tC v):=
 fun _ _ _ H _ I h=>iB I hg hm hv ⟨v,H,I,r,h⟩ hn hd
variable {a b:Expr}{ta tb:TE}{pos:Pos}
def PC(X:Cx)(op:CmpOp)(a b:Expr)(t:TE):Prop:=
 ∀(pins:List (Addr×Obj)) (s:Shared) (σ:St) (H:Hp) (Q:VK),Inv X pins σ H s->t σ H Q->
  wpAny (model X.prog X.w) X.A (eval a X.env) (fun v s₁=>wpAny (model X.prog X.w) X.A (eval b X.env) (fun u s₂=>wpAny (model X.prog X.w) X.A (compareOp op v u) (EP X pins σ Q) X.xe s₂) X.xe s₁) X.xe s
theorem Cc(b:Expr){op:CmpOp}(h:op≠ .In)(h2:op≠ .NotIn):behindInMarks op b=false:=by
 have e1:(op==CmpOp.In)=false:=by cases op<;>first|rfl|exact absurd rfl h
 have e2:(op==CmpOp.NotIn)=false:=by cases op<;>first|rfl|exact absurd rfl h2
 cases b<;>simp[behindInMarks,e1,e2]
inductive Z4(x:V)(H1:Hp)(Q:Bool->Hp->Prop):Prop where
 |mk(c:_)(c1:x= .bl c)(c2:Q c H1)
def tB(t:TE):TT:=fun σ H Q=>t σ H fun x H1=>Z4 x H1 Q
theorem Hm{op:CmpOp}{t:TE}(h:PC X op a b t)(h1:behindInMarks op b=false:=by first|exact Cc _ (by decide) (by decide)|rfl):PT X (.Compare a [op] [b] pos) (tB t):=by
 intro pins s σ H Q I hw
 refine wpAny_isTrue_Compare1 (dB (h pins s σ H _ I hw) fun v s1 h1=>dB h1 fun u s2 h2=>dB h2 fun c s3 ⟨x,H1,I1,r1,q1⟩=>?_) h1
 obtain⟨d,rfl,q⟩:=q1
 cases r1
 exact wpAny_truthy_bool ⟨H1,I1,q⟩
theorem dH{e:Expr}{t:TE}(h:PE X e t)(he:∀whole,isTrue e X.env whole=(do let v <-whole;standAt e.pos;holding [v] (truthy v)):=by intro _;rfl):PT X e (tB t):=by
 intro pins s σ H Q I hw
 refine isTrue_plain (dB (h pins s σ H _ I hw) fun v s1 ⟨x,H1,I1,r1,q1⟩=>?_) (he _)
 obtain⟨d,rfl,q⟩:=q1
 cases r1
 exact wpAny_truthy_bool ⟨H1,I1,q⟩
variable {tA Nl:TT}{rest:List Expr}
def OA(t u:TT):TT:=fun σ H Q=>t σ H fun c H1=>if c=true then u σ H1 Q else Q false H1
def V6(t u:TT):TT:=fun σ H Q=>t σ H fun c H1=>if c=true then Q true H1 else u σ H1 Q
def Ot(t:TT):TT:=fun σ H Q=>t σ H fun c H1=>Q (!c) H1
theorem dt(ha:PT X a tA):PW X (.BoolOp .And [a] pos) tA:=by
 intro wh pins s σ H Q I h
 refine isTrue_and (dB (ha pins s σ H Q I h) fun c s1 e=>?_)
 cases c with
 |true=>exact isTrue_and_nil e
 |false=>exact e
theorem ir(ha:PT X a tA):PW X (.BoolOp .Or [a] pos) tA:=by
 intro wh pins s σ H Q I h
 refine isTrue_or (dB (ha pins s σ H Q I h) fun c s1 e=>?_)
 cases c with
 |false=>exact isTrue_or_nil e
 |true=>exact e
theorem ei(ha:PT X a tA)(hb:PW X (.BoolOp .And (b::rest) pos) Nl):PW X (.BoolOp .And (a::b::rest) pos) (OA tA Nl):=by
 intro wh pins s σ H Q I h
 refine isTrue_and (dB (ha pins s σ H _ I h) fun c s1 ⟨H1,I1,q1⟩=>?_)
 cases c with
 |true=>exact hb wh pins s1 σ H1 Q I1 q1
 |false=>exact⟨H1,I1,q1⟩
theorem hU(ha:PT X a tA)(hb:PW X (.BoolOp .Or (b::rest) pos) Nl):PW X (.BoolOp .Or (a::b::rest) pos) (V6 tA Nl):=by
 intro wh pins s σ H Q I h
 refine isTrue_or (dB (ha pins s σ H _ I h) fun c s1 ⟨H1,I1,q1⟩=>?_)
 cases c with
 |true=>exact⟨H1,I1,q1⟩
 |false=>exact hb wh pins s1 σ H1 Q I1 q1
theorem fK(ha:PT X a tA):PT X (.UnaryOp .Not a pos) (Ot tA):=by
 intro pins s σ H Q I h
 exact isTrue_not (ha pins s σ H (fun c H1=>Q (!c) H1) I h)
inductive Jp(tb:TE)(σ:L2.St)(x:V)(H1:Hp)(Q:VK):Prop where
 |mk(c:_)(c1:x= .bl c)(c2:if c=true then tb σ H1 Q else Q (.bl false) H1)
def Kl(ta tb:TE):TE:=fun σ H Q=>ta σ H fun x H1=>Jp tb σ x H1 Q
inductive MH(tb:TE)(σ:L2.St)(x:V)(H1:Hp)(Q:VK):Prop where
 |mk(c:_)(c1:x= .bl c)(c2:if c=true then Q (.bl true) H1 else tb σ H1 Q)
def Oq(ta tb:TE):TE:=fun σ H Q=>ta σ H fun x H1=>MH tb σ x H1 Q
inductive Jj(x:V)(H1:Hp)(Q:VK):Prop where
 |mk(c:_)(c1:x= .bl c)(c2:Q (.bl (!c)) H1)
def Kc(ta:TE):TE:=fun σ H Q=>ta σ H fun x H1=>Jj x H1 Q
theorem oP{op}{t:TE}(h:PE X a t):PE X (.BoolOp op [a] pos) t:=fun pins s σ H Q I hw=>BoolOp_one (h pins s σ H Q I hw)
theorem oQ(ha:PE X a ta)(hb:PE X (.BoolOp .And (b::rest) pos) tb):PE X (.BoolOp .And (a::b::rest) pos) (Kl ta tb):=by
 intro pins s σ H Q I h
 refine BoolOp_and (dB (ha pins s σ H _ I h) fun v s1 ⟨x,H1,I1,r1,q1⟩=>?_)
 obtain⟨c,rfl,q1⟩:=q1
 cases r1
 refine wpAny_truthy_bool ?_
 cases c with
 |true=>exact hb pins s1 σ H1 Q I1 q1
 |false=>exact⟨.bl false,H1,I1,rfl,q1⟩
theorem KC(ha:PE X a ta)(hb:PE X (.BoolOp .Or (b::rest) pos) tb):PE X (.BoolOp .Or (a::b::rest) pos) (Oq ta tb):=by
 intro pins s σ H Q I h
 refine BoolOp_or (dB (ha pins s σ H _ I h) fun v s1 ⟨x,H1,I1,r1,q1⟩=>?_)
 obtain⟨c,rfl,q1⟩:=q1
 cases r1
 refine wpAny_truthy_bool ?_
 cases c with
 |false=>exact hb pins s1 σ H1 Q I1 q1
 |true=>exact⟨.bl true,H1,I1,rfl,q1⟩
theorem Hr(ha:PE X a ta):PE X (.UnaryOp .Not a pos) (Kc ta):=by
 intro pins s σ H Q I h
 refine UnaryOp_ (dB (ha pins s σ H _ I h) fun v s1 ⟨x,H1,I1,r1,q1⟩=>?_)
 obtain⟨c,rfl,q1⟩:=q1
 cases r1
 exact not_of (wpAny_truthy_bool ⟨.bl (!c),H1,I1,rfl,q1⟩)
end
end L2
namespace L2
open PySem PySem.Spec PyProof.Rows
def bp(K:W.Frag)(H:Hp)(a:Addr)(xs:List V):Prop:=
 Rd H a (.lst xs) ∨
  ∃(o:Obj) (aN:Array Value) (n:Nat),K.lookup a=some o/\o.cls= .type "list"/\o.dict=none/\o.data= .seq aN n/\aN.size<=sizeLine/\Vals xs aN.toList
def aS(K:W.Frag)(H:Hp)(a:Addr)(xs:List V):Prop:=
 Rd H a (.tup xs) ∨
  ∃(o:Obj) (aN:Array Value) (n:Nat),K.lookup a=some o/\o.cls= .type "tuple"/\o.data= .seq aN n/\aN.size<=sizeLine/\Vals xs aN.toList
def SA:Value->Option V
 | .none=>some .d0
 | .bool b=>some (.bl b)
 | .int i _=>some (.int i)
 | .str x _=>some (.str x)
 | .bytes b _=>some (.zk b)
 | .float b _=>some (.IT b)
 | .ref a=>some (.ref a)
 | .type n=>some (.ty n)
 |_=>none
theorem RelV.abs{x:V}{u:Value}(r:RelV x u):SA u=some x:=by
 cases x with
 |d0=>cases r;rfl
 |bl _=>cases r;rfl
 |int _=>obtain⟨t,rfl⟩:=r;rfl
 |str _=>obtain⟨t,rfl⟩:=r;rfl
 |zk _=>obtain⟨t,rfl⟩:=r;rfl
 |IT _=>obtain⟨t,rfl⟩:=r;rfl
 |ref _=>cases r;rfl
 |ty _=>cases r;rfl
theorem RelV.inj{x y:V}{u:Value}(r:RelV x u)(q:RelV y u):x=y:=Option.some.inj (r.abs.symm.trans q.abs)
theorem Vals.inj:∀{xs ys:List V}{us:List Value},Vals xs us->Vals ys us->xs=ys
 |_,_,_,.nil,.nil=>rfl
 |_,_,_,.cons r t,.cons r' t'=>by rw[r.inj r',Vals.inj t t']
section
variable {X:Cx}{pins:List (Addr×Obj)}{σ:St}{H:Hp}{s:Shared}{a:Addr}{xs ys:List V}
theorem bp.of{K:W.Frag}(h:H a=some (.lst xs)):bp K H a xs:= .inl (.inl h)
theorem aS.of{K:W.Frag}(h:H a=some (.tup xs)):aS K H a xs:= .inl (.inl h)
theorem Inv.list(I:Inv X pins σ H s)(h:bp X.K H a xs):∃aN:List Value,Vals xs aN/\PlainL s.heap a aN.toArray/\xs.length<=sizeLine:=by
 rcases h with h|⟨o,aN,n,hk,hc,hd,hs,hz,r⟩
 ·obtain⟨z,aN,n,r,e⟩:=h.ok I.cx
  exact⟨aN,r,⟨_,n,e,rfl,rfl,rfl⟩,z⟩
 ·refine⟨aN.toList,r,⟨o,n,I.nu a o hk,hc,hd,by simpa using hs⟩,?_⟩
  have e:=r.length
  simp only[Array.length_toList] at e
  omega
theorem Inv.tuple(I:Inv X pins σ H s)(h:aS X.K H a xs):∃aN:List Value,Vals xs aN/\IsTup s.heap a aN.toArray/\xs.length<=sizeLine:=by
 rcases h with h|⟨o,aN,n,hk,hc,hs,hz,r⟩
 ·obtain⟨z,aN,r,p⟩:=h.ok I.cx
  exact⟨aN,r,p,z⟩
 ·refine⟨aN.toList,r,⟨o,I.nu a o hk,hc,n,by simpa using hs⟩,?_⟩
  have e:=r.length
  simp only[Array.length_toList] at e
  omega
theorem Inv.kr(I:Inv X pins σ H s)(h:bp X.K H a xs)(h':bp X.K H a ys):xs=ys:=by
 obtain⟨aN,r,⟨o,n,e,_,_,d⟩,_⟩:=I.list h
 obtain⟨its',r',⟨o',n',e',_,_,d'⟩,_⟩:=I.list h'
 rw[e] at e';cases e'
 rw[d] at d'
 injection d' with d1 _
 have:aN=its':=by simpa using congrArg Array.toList d1
 subst this
 exact r.inj r'
theorem Inv.zE(I:Inv X pins σ H s)(h:aS X.K H a xs)(h':aS X.K H a ys):xs=ys:=by
 obtain⟨aN,r,⟨o,e,_,n,d⟩,_⟩:=I.tuple h
 obtain⟨its',r',⟨o',e',_,n',d'⟩,_⟩:=I.tuple h'
 rw[e] at e';cases e'
 rw[d] at d'
 injection d' with d1 _
 have:aN=its':=by simpa using congrArg Array.toList d1
 subst this
 exact r.inj r'
end
abbrev Cx.px(X:Cx)(E:Value->Shared->Prop):Cx:={X with xe:=E}
abbrev Cx.DG(X:Cx):Cx:=X.px fun _ _=>False
theorem Cx.Ok.px{X:Cx}(ok:X.Ok)(E:Value->Shared->Prop):(X.px E).Ok:=
 ⟨ok.mod,ok.kind,ok.glob,ok.blt,ok.above,ok.inj,ok.has,ok.J0,ok.hd,ok.frames,ok.Nm,ok.U0,ok.bs,ok.Bh,ok.ED,ok.E8,ok.lH,ok.DM⟩
theorem Cx.Ok.iq{X:Cx}{E:Value->Shared->Prop}(ok:(X.px E).Ok):X.Ok:=
 ⟨ok.mod,ok.kind,ok.glob,ok.blt,ok.above,ok.inj,ok.has,ok.J0,ok.hd,ok.frames,ok.Nm,ok.U0,ok.bs,ok.Bh,ok.ED,ok.E8,ok.lH,ok.DM⟩
section
variable {X:Cx}{pins:List (Addr×Obj)}{σ:St}{H:Hp}{s:Shared}{E:Value->Shared->Prop}
theorem Inv.px(I:Inv X pins σ H s)(E:Value->Shared->Prop):Inv (X.px E) pins σ H s:=⟨I.ok.px E,I.os,I.bare,I.base,I.loc,I.cell,I.free,I.jP,I.pin,I.cx,I.len⟩
theorem Inv.iq(I:Inv (X.px E) pins σ H s):Inv X pins σ H s:=⟨I.ok.iq,I.os,I.bare,I.base,I.loc,I.cell,I.free,I.jP,I.pin,I.cx,I.len⟩
theorem SP.iq{D:Ends}{f:Flow}{s':Shared}(h:SP (X.px E) pins D f s'):SP X pins D f s':=by
 cases f with
 |next=>obtain⟨σ',H',I,q⟩:=h;exact⟨σ',H',I.iq,q⟩
 |brk=>obtain⟨σ',H',I,q⟩:=h;exact⟨σ',H',I.iq,q⟩
 |cont=>obtain⟨σ',H',I,q⟩:=h;exact⟨σ',H',I.iq,q⟩
 |ret u=>obtain⟨v,σ',H',I,r,q⟩:=h;exact⟨v,σ',H',I.iq,r,q⟩
theorem PE.DG{e:Expr}{t:TE}(h:PE X.DG e t):PE X e t:=fun pins s σ H Q I hw=>
 wpAny_mono (h pins s σ H Q (I.px _) hw) (fun _ _ ⟨v,H',I',r,q⟩=>⟨v,H',I'.iq,r,q⟩) fun _ _ z=>False.elim z
theorem PT.DG{e:Expr}{t:TT}(h:PT X.DG e t):PT X e t:=fun pins s σ H Q I hw=>
 wpAny_mono (h pins s σ H Q (I.px _) hw) (fun _ _ ⟨H',I',q⟩=>⟨H',I'.iq,q⟩) fun _ _ z=>False.elim z
theorem nZ.DG{st:List Stmt}{t:TS}(h:nZ X.DG st t):nZ X st t:=fun pins s σ H D I hw=>
 wpAny_mono (h pins s σ H D (I.px _) hw) (fun _ _ q=>q.iq) fun _ _ z=>False.elim z
end
section
variable {X:Cx}{st:Stmt}{rest:List Stmt}{t u:TS}{e:Expr}{te:TE}{pos:Pos}
def Kd:TS:=fun D σ H=>D.nx σ H
def aL(t u:TS):TS:=fun D σ H=>t {D with nx:=u D} σ H
theorem aZ:nZ X [] Kd:=fun _ _ σ H _ I h=>wpAny_execs_nil ⟨σ,H,I,h⟩
theorem ag(h1:PS X st t)(h2:nZ X rest u):nZ X (st::rest) (aL t u):=by
 intro pins s σ H D I h
 refine wpAny_execs_cons (dB (h1 pins s σ H {D with nx:=u D} I h) fun f s1 q=>?_)
 cases f with
 |next=>
  obtain⟨σ',H',I',q⟩:=q
  exact h2 pins s1 σ' H' D I' q
 |ret v=>exact q
 |brk=>exact q
 |cont=>exact q
theorem ai(h1:PS X st t):nZ X [st] t:=by
 intro pins s σ H D I h
 refine wpAny_execs_cons (dB (h1 pins s σ H D I h) fun f s1 q=>?_)
 cases f with
 |next=>exact wpAny_execs_nil q
 |ret v=>exact q
 |brk=>exact q
 |cont=>exact q
theorem Inv.quiet{pins:List (Addr×Obj)}{σ:St}{H:Hp}{s:Shared}(I:Inv X pins σ H s):interactive X.env=false:=by simp[interactive,I.ok.kind]
def Kg(te:TE):TS:=fun D σ H=>te σ H fun _ H1=>D.nx σ H1
theorem a0(he:PE X e te)(hs:swapsWith e none pos.line X.env=pure false:=by rfl):PS X (.Expr e pos) (Kg te):=by
 intro pins s σ H D I h
 exact wpAny_Expr_any (dB (he pins s σ H _ I h) fun v s1 ⟨x,H1,I1,r1,q1⟩=>⟨σ,H1,I1,q1⟩) I.quiet hs
def Oo(te:TE):TS:=fun D σ H=>te σ H D.rt
theorem aU(he:PE X e te):PS X (.Return (some e) pos) (Oo te):=by
 intro pins s σ H D I h
 exact wpAny_Return_some (dB (he pins s σ H _ I h) fun v s1 ⟨x,H1,I1,r1,q1⟩=>⟨x,σ,H1,I1,r1,q1⟩)
def bS(c:TT)(t u:TS):TS:=fun D σ H=>c σ H fun b H1=>if b=true then t D σ H1 else u D σ H1
theorem bj{c:Expr}{a b:List Stmt}{tc:TT}(hc:PT X c tc)(ha:nZ X a t)(hb:nZ X b u):PS X (.If c a b pos) (bS tc t u):=by
 intro pins s σ H D I h
 refine wpAny_If (dB (hc pins s σ H _ I h) fun d s1 ⟨H1,I1,q1⟩=>?_)
 cases d with
 |true=>exact ha pins s1 σ H1 D I1 q1
 |false=>exact hb pins s1 σ H1 D I1 q1
end
abbrev TG:=V->St->Hp->(St->Hp->Prop)->Prop
abbrev Jn:=List V->St->Hp->(St->Hp->Prop)->Prop
def PG(X:Cx)(target:Expr)(t:TG):Prop:=
 ∀(pins:List (Addr×Obj)) (s:Shared) (σ:St) (H:Hp) (v:V) (u:Value) (Q:St->Hp->Prop),Inv X pins σ H s->RelV v u->t v σ H Q->
  wpAny (model X.prog X.w) X.A (assign target X.env u) (fun _ s'=>∃σ' H',Inv X pins σ' H' s'/\Q σ' H') X.xe s
def uW(X:Cx)(ts:List Expr)(t:Jn):Prop:=
 ∀(pins:List (Addr×Obj)) (s:Shared) (σ:St) (H:Hp) (vs:List V) (us:List Value) (Q:St->Hp->Prop),Inv X pins σ H s->Vals vs us->t vs σ H Q->
  wpAny (model X.prog X.w) X.A (assignInOrder ((assignEach ts X.env).map (·.2)) us) (fun _ s'=>∃σ' H',Inv X pins σ' H' s'/\Q σ' H') X.xe s
abbrev MI:=V->V->Hp->VK->Prop
def Vn(X:Cx)(op:Operator)(t:MI):Prop:=
 ∀(pins:List (Addr×Obj)) (s:Shared) (σ:St) (H:Hp) (x y:V) (v u:Value) (Q:VK),Inv X pins σ H s->RelV x v->RelV y u->t x y H Q->
  wpAny (model X.prog X.w) X.A (inplaceOp op v u) (EP X pins σ Q) X.xe s
section
variable {X:Cx}{pos:Pos}
def GD(i:Nat):TG:=fun v σ H Q=>Q (σ.set i (some v)) H
theorem cU{i:Nat}{x:Str}(hN:X.N.Nodup)(hi:X.N[i]? =some x)(hx:Loc X.env.scope x)(hf:X.fn x=true ∨ X.env.scope.names.lookup x=some .local:=by first|exact .inl rfl|exact .inr rfl|assumption):PG X (.Name x pos) (GD i):=by
 intro pins s σ H v u Q I r h
 exact wpAny_assign_Name (kd I hN hi hx r (fun s' I'=>⟨_,H,I',h⟩) hf)
def Rb:Jn:=fun vs σ H Q=>vs=[]/\Q σ H
def Ma(t:TG)(u:Jn):Jn:=fun vs σ H Q=>∃v r,vs=v::r/\t v σ H fun σ' H'=>u r σ' H' Q
theorem kP:uW X [] Rb:=by
 intro pins s σ H vs us Q I r h
 obtain⟨e,h⟩:=h
 subst e
 cases r
 exact assignInOrder_nil ⟨σ,H,I,h⟩
theorem dF{e:Expr}{es:List Expr}{t:TG}{u:Jn}(h1:PG X e t)(h2:uW X es u)
  (hs:(assignEach (e::es) X.env).map (·.2)=assign e X.env::(assignEach es X.env).map (·.2):=by rfl):uW X (e::es) (Ma t u):=by
 intro pins s σ H vs us Q I r h
 obtain⟨v,vr,e1,h⟩:=h
 subst e1
 cases r with
 |cons r rr=>
  rw[hs]
  refine assignInOrder_cons (dB (h1 pins s σ H _ _ _ I r h) fun _ s1 ⟨σ1,H1,I1,q1⟩=>?_)
  exact h2 pins s1 σ1 H1 _ _ Q I1 rr q1
def Ra(K:W.Frag)(n:Nat)(t:Jn):TG:=fun v σ H Q=>∃a xs,v= .ref a/\aS K H a xs/\xs.length=n/\t xs σ H Q
theorem oO{es:List Expr}{k:Nat}{t:Jn}{n:Nat}(hc:X.calm=true)(h:uW X es t)
  (hn:(assignEach es X.env).length=n:=by rfl)(rn:(assignEach es X.env).findIdx? (·.1)=none:=by rfl):PG X (.Tuple es k pos) (Ra X.K n t):=by
 intro pins s σ H v u Q I r hw
 obtain⟨a,xs,e1,hq,hl,hw⟩:=hw
 subst e1
 cases r
 obtain⟨aN,rv,ht,hz⟩:=I.tuple hq
 refine assign_Tuple_tuple (I.ok.hd hc) ht (by simp[hn,<-hl,rv.length]) rn fun h' hx=>?_
 have I1:Inv X pins σ H {s with heap:=h'}:=I.kept (t':=s.toks) fun b o e=>hx b o (Nat.ne_of_lt (Heap.lt_size e)) e
 exact h pins _ σ H xs _ Q I1 (by simpa using rv) hw
def Kj(te:TE)(g:TG):TS:=fun D σ H=>te σ H fun x H1=>g x σ H1 D.nx
theorem BL{tg e:Expr}{te:TE}{g:TG}(he:PE X e te)(hg:PG X tg g)(hs:swapsWithSole [tg] e pos.line X.env=pure false:=by rfl)(hw:swappedStores [tg] e X.env=pure none:=by rfl)
  (h1:(assignEach [tg] X.env).map (·.2)=[assign tg X.env]:=by rfl):PS X (.Assign [tg] e pos) (Kj te g):=by
 intro pins s σ H D I h
 refine wpAny_Assign_stores (dB (he pins s σ H _ I h) fun v s1 ⟨x,H1,I1,r1,q1⟩=>?_) hs hw
 rw[h1]
 exact dB (hg pins s1 σ H1 x v _ I1 r1 q1) fun _ s2 q=>q
theorem aE{i:Nat}{x:Str}{e:Expr}{te:TE}{pos':Pos}(hN:X.N.Nodup)(hi:X.N[i]? =some x)(hx:Loc X.env.scope x)(he:PE X e te)(hs:swapsWith e (some (.Name x pos')) pos.line X.env=pure false:=by rfl)(hf:X.fn x=true ∨ X.env.scope.names.lookup x=some .local:=by first|exact .inl rfl|exact .inr rfl|assumption):
  PS X (.Assign [.Name x pos'] e pos) (Kj te (GD i)):=by
 intro pins s σ H D I h
 refine wpAny_Assign_Name (dB (he pins s σ H _ I h) fun v s1 ⟨y,H1,I1,r1,q1⟩=>?_) hs
 exact kd I1 hN hi hx r1 (fun s2 I2=>⟨_,H1,I2,q1⟩) hf
inductive MM(i:Nat)(te:TE)(ti:MI)(D:Ends)(σ:L2.St)(H:Hp):Prop where
 |mk(x:_)(c1:σ[i]? =some (some x))(c2:te σ H fun y H1=>ti x y H1 fun z H2=>D.nx (σ.set i (some z)) H2)
def Oz(i:Nat)(te:TE)(ti:MI):TS:=fun D σ H=>MM i te ti D σ H
theorem Ho{i:Nat}{x:Str}{e:Expr}{te:TE}{op:Operator}{ti:MI}{pos':Pos}(hN:X.N.Nodup)(hi:X.N[i]? =some x)(hx:Loc X.env.scope x)(he:PE X e te)(ho:Vn X op ti)(hf:X.fn x=true ∨ X.env.scope.names.lookup x=some .local:=by first|exact .inl rfl|exact .inr rfl|assumption):
  PS X (.AugAssign (.Name x pos') op e pos) (Oz i te ti):=by
 intro pins s σ H D I h
 obtain⟨v,e1,h⟩:=h
 obtain⟨m,hn,hl⟩:=I.loc
 have V0:J1 X.env.scope x:=by rcases hx with k|k;exact .inl k;exact .inr (.inl k)
 obtain⟨u,r,l⟩:=hl i x v hi e1 V0
 refine wpAny_AugAssign_Name ?_
 have go:wpAny (model X.prog X.w) X.A (eval e X.env) (fun w s₂=>wpAny (model X.prog X.w) X.A (inplaceOp op u w) (fun r s₃=>wpAny (model X.prog X.w) X.A (storeName X.env x r) (fun _=>SP X pins D .next) X.xe s₃) X.xe s₂) X.xe s:=by
  refine dB (he pins s σ H _ I h) fun w s1 ⟨y,H1,I1,r1,q1⟩=>?_
  refine dB (ho pins s1 σ H1 v y u w _ I1 r r1 q1) fun z s2 ⟨zv,H2,I2,r2,q2⟩=>?_
  exact kd I2 hN hi hx r2 (fun s3 I3=>⟨_,H2,I3,q2⟩) hf
 rcases l with⟨hk,hm⟩|⟨hk,c,hc,pq⟩
 ·exact wpAny_loadName_local I.ok.kind hk hn hm go
 ·rcases hk with hk|hk
  ·exact wpAny_loadName_cell I.ok.kind hk hc pq go
  ·rcases hx with k|k
   ·have:X.env.scope.names.lookup x=some .free:=hk
    rw[k] at this;cases this
   ·have:X.env.scope.names.lookup x=some .free:=hk
    rw[k] at this;cases this
def XH(f:Int->Int->Int):MI:=fun x y H Q=>∃i j,x= .int i/\y= .int j/\Q (.int (f i j)) H
theorem Ii:Vn X .Add (XH fun i j=>i+j):=by
 intro pins s σ H x y v u Q I r1 r2 h
 obtain⟨i,j,e1,e2,q⟩:=h
 subst e1;subst e2
 obtain⟨t,rfl⟩:=r1
 obtain⟨t',rfl⟩:=r2
 exact iadd_int ⟨.int _,H,I.tok _,⟨_,rfl⟩,q⟩
end
section
variable {X:Cx}{pos:Pos}
inductive GoI(tb:TS)(D:Ends)(W:Nat->St->Hp->Prop)(m:Nat)(σ:St)(H:Hp):Prop where
 |mk(N:St->Hp->Prop)(c1:∀σ' H',N σ' H'->∃m',m' < m/\W m' σ' H')(c2:tb {D with nx:=N,ct:=N,bk:=D.nx} σ H)
inductive Fi(c:TT)(tb:TS)(D:Ends)(σ:L2.St)(H:Hp):Prop where
 |mk(W:Nat->St->Hp->Prop)(c1:(∃m,W m σ H))(c2:∀m σ H,W m σ H->
 c σ H fun b H1=>if b=true then GoI tb D W m σ H1 else D.nx σ H1)
def gc(c:TT)(tb:TS):TS:=fun D σ H=>Fi c tb D σ H
theorem dY{c:Expr}{body:List Stmt}{tc:TT}{tb:TS}(hp:PassesOwn (model X.prog X.w) X.A X.env X.xe)(hc:PT X c tc)(hb:nZ X body tb):PS X (.While c body [] pos) (gc tc tb):=by
 intro pins s σ H D I h
 obtain⟨W,⟨m0,w0⟩,turn⟩:=h
 refine wpAny_While (codeAny_whileLoop (fun n s'=>∃σ' H',Inv X pins σ' H' s'/\W n σ' H') ?_ m0 ⟨σ,H,I,w0⟩)
 rintro n s1 ⟨σ1,H1,I1,w1⟩
 refine wpAny_passesOwn hp (dB (hc pins s1 σ1 H1 _ I1 (turn n σ1 H1 w1)) fun b s2 ⟨H2,I2,q2⟩=>?_)
 cases b with
 |true=>
  obtain⟨N,hN,q2⟩:=q2
  rw[if_pos rfl]
  refine wpAny_passesOwn hp (dB (hb pins s2 σ1 H2 _ I2 q2) fun f s3 q3=>?_)
  cases f with
  |next=>
   obtain⟨σ3,H3,I3,n3⟩:=q3
   obtain⟨m',hm,w3⟩:=hN σ3 H3 n3
   exact⟨m',hm,σ3,H3,I3,w3⟩
  |cont=>
   obtain⟨σ3,H3,I3,n3⟩:=q3
   obtain⟨m',hm,w3⟩:=hN σ3 H3 n3
   exact⟨m',hm,σ3,H3,I3,w3⟩
  |brk=>exact q3
  |ret v=>exact q3
 |false=>
  rw[if_neg Bool.false_ne_true]
  exact wpAny_execs_nil ⟨σ1,H2,I2,q2⟩
end
structure It where
 go:Nat->Hp->Prop
 JH:Nat->Hp->V->Hp->Prop
 stop:Nat->Hp->Prop
def wz(X:Cx)(pins:List (Addr×Obj))(H:Hp)(b:Addr):Prop:=
 H b=none/\b≠X.env.locals/\b∉X.fs/\(b∈X.ex ∨ X.s₀.heap.objs.size<=b)/\(∀x c,X.env.cells.lookup x=some c->c≠b)/\∀p∈X.pn++pins,p.1≠b
theorem Inv.CN{X:Cx}{pins:List (Addr×Obj)}{σ:St}{H H':Hp}{s:Shared}{b:Addr}(I:Inv X pins σ H s)(hb:s.heap.objs.size<=b)(hn:H' b=none):wz X pins H' b:=by
 refine⟨hn,Nat.ne_of_gt (Nat.lt_of_lt_of_le I.lt hb),I.O6 hb,.inr (Nat.le_trans I.sz hb),fun x c e z=>?_,fun p hp z=>?_⟩
 ·obtain⟨v,q⟩:=I.cell x c e
  exact absurd (Nat.lt_of_lt_of_le q.lt (by rw[z];exact hb)) (Nat.lt_irrefl _)
 ·exact absurd (Nat.lt_of_lt_of_le (Heap.lt_size (I.pin p hp).1) (by rw[z];exact hb)) (Nat.lt_irrefl _)
structure Turn(P:Program)(w:World)(K:W.Frag)(tg:Expr)(J:It)(fp:List Addr)(it:Addr)(tn:Nat->Heap->Prop):Prop where
 mem:it∈fp
 obj:∀i h,tn i h->∀b∈fp,∃o,h.get? b=some o/\∀v,o.data≠ .cell v
 keep:∀i h h',tn i h->(∀b∈fp,∀o,h.get? b=some o->h'.get? b=some o)->tn i h'
 item:∀(X:Cx),X.prog=P->X.w=w->X.K=K->X.calm=true->∀(i:Nat) (pins:List (Addr×Obj)) (s:Shared) (σ:St) (H:Hp) (E:Value->Shared->Prop),Inv X pins σ H s->(∀b∈fp,wz X pins H b)->tn i s.heap->J.go i H->
  wpAny (model P w) X.A (pyNext (.ref it)) (fun r s1=>∃u,r=some u/\
   wpAny (model P w) X.A (letOwnedTupleGo tg (.ref it) u) (fun _ s2=>∃x H',Inv X pins σ H' s2/\RelV x u/\J.JH i H x H'/\tn (i+1) s2.heap/\∀b∈fp,H' b=none) E s1) E s
 done:∀(X:Cx),X.prog=P->X.w=w->X.K=K->X.calm=true->∀(i:Nat) (pins:List (Addr×Obj)) (s:Shared) (σ:St) (H:Hp) (E:Value->Shared->Prop),Inv X pins σ H s->(∀b∈fp,wz X pins H b)->tn i s.heap->J.stop i H->
  wpAny (model P w) X.A (pyNext (.ref it)) (fun r s1=>r=none/\Inv X pins σ H s1) E s
 self:∀(A:Around) (i:Nat) (s:Shared) (Q:Value->Shared->Prop) (E:Value->Shared->Prop),tn i s.heap->Q (.ref it) s->wpAny (model P w) A (pyIter (.ref it)) Q E s
abbrev TI:=St->Hp->(It->Hp->Prop)->Prop
def Vo(X:Cx)(pins:List (Addr×Obj))(σ:St)(tg:Expr)(R:It->Hp->Prop)(Ud:Value)(s2:Shared):Prop:=
 ∃(it:Addr) (fp:List Addr) (tn:Nat->Heap->Prop) (J:It) (H':Hp),Ud= .ref it/\Inv X pins σ H' s2/\Turn X.prog X.w X.K tg J fp it tn/\tn 0 s2.heap/\(∀b∈fp,wz X pins H' b)/\R J H'
def PI(X:Cx)(tg iter:Expr)(wi:TI):Prop:=
 ∀(pins:List (Addr×Obj)) (s:Shared) (σ:St) (H:Hp) (R:It->Hp->Prop),Inv X pins σ H s->wi σ H R->
  wpAny (model X.prog X.w) X.A (eval iter X.env) (fun v s1=>wpAny (model X.prog X.w) X.A (pyIter v) (Vo X pins σ tg R) X.xe s1) X.xe s
theorem CJ{M:Model}{A:Around}{E:Value->Shared->Prop}{s:Shared}{tg:Expr}{it:Addr}{u:Value}{o:Obj}{n:String}{vs:Array Value}{Q:Unit->Shared->Prop}(ho:s.heap.get? it=some o)(hc:o.cls= .type n)(hd:o.data= .fields vs)
  (hn:["enumerate","zip","dict_itemiterator","dict_reverseitemiterator","odict_iterator","itertools.zip_longest","itertools.pairwise"].contains n=false)(hQ:Q () s):wpAny M A (letOwnedTupleGo tg (.ref it) u) Q E s:=by
 unfold letOwnedTupleGo
 cases tg<;>first
  |exact wpAny_pure hQ
  | (cases u<;>first
    |exact wpAny_pure hQ
    | (refine wpAny_bind (wpAny_load ho ?_)
       rw[hc,hd]
       show wpAny M A (if (["enumerate","zip","dict_itemiterator","dict_reverseitemiterator","odict_iterator","itertools.zip_longest","itertools.pairwise"].contains n&&vs[0]? ==some (rawInt _))=true then _ else _) Q E s
       rw[if_neg (by intro h;rw[hn,Bool.false_and] at h;cases h)]
       exact wpAny_pure hQ))
def M4(K:W.Frag)(a:Addr):It:=
 ⟨fun i H=>∃xs x,bp K H a xs/\xs[i]? =some x,fun i H x H'=>H'=H/\∀xs,bp K H a xs->xs[i]? =some x,fun i H=>∃xs,bp K H a xs/\xs.length<=i⟩
def J5(lo:Int)(n:Nat):It:=⟨fun i _=>i < n,fun i H x H'=>H'=H/\x= .int (lo+i),fun i _=>n<=i⟩
theorem zD{P:Program}{w:World}{K:W.Frag}{tg:Expr}(a it:Addr):Turn P w K tg (M4 K a) [it] it (fun i h=>h.IsListIter it a i) where
 mem:=by simp
 obj:=fun i h st b hb=>by
  have e:b=it:=by simpa using hb
  subst e
  obtain⟨o,e,c,d⟩:=st
  exact⟨o,e,fun v z=>by rw[d] at z;cases z⟩
 keep:=fun i h h' st k=>st.at fun o e=>k it (by simp) o e
 item:=by
  intro X hP hw hK hc i pins s σ H E I hf st hg
  subst hP hw hK
  obtain⟨xs,x,hq,hx⟩:=hg
  obtain⟨aN,rv,p,hz⟩:=I.list hq
  obtain⟨u,hu,ru⟩:=rv.get hx
  obtain⟨f0,f1,f2,f3,f4,f5⟩:=hf it (by simp)
  refine wpAny_pyNext_list_item st p.isList (x:=u) (by simpa using hu) fun h' D3 sb=>?_
  have I1:Inv X pins σ H {s with heap:=h'}:=I.turned (t':=s.toks) (fun b o hb e=>(sb.2 b hb).trans e) f0 f1 f3 f4 f5
  obtain⟨o,e,c,d⟩:=id D3
  exact⟨u,rfl,CJ (s:={s with heap:=h'}) e c d (by decide) ⟨x,H,I1,ru,⟨rfl,fun ys hy=>by rw[I.kr hy hq];exact hx⟩,D3,fun b hb=>(hf b hb).1⟩⟩
 done:=by
  intro X hP hw hK hc i pins s σ H E I hf st hg
  subst hP hw hK
  obtain⟨xs,hq,hx⟩:=hg
  obtain⟨aN,rv,p,hz⟩:=I.list hq
  obtain⟨f0,f1,f2,f3,f4,f5⟩:=hf it (by simp)
  have hl:=rv.length
  exact wpAny_pyNext_list_end (I.ok.hd hc) st p.isList (by simp;omega) fun h' eb=>⟨rfl,I.turned (t':=s.toks) (fun b o hb e=>eb b o hb e) f0 f1 f3 f4 f5⟩
 self:=fun _ _ _ _ _ st h=>wpAny_pyIter_listiter st h
theorem wN{P:Program}{w:World}{K:W.Frag}{tg:Expr}(it:Addr)(lo:Int)(n:Nat):Turn P w K tg (J5 lo n) [it] it (fun i h=>IsRangeIter h it (lo+(i:Nat)*1) ((n:Int) - (i:Nat)) 1) where
 mem:=by simp
 obj:=fun i h st b hb=>by
  have e:b=it:=by simpa using hb
  subst e
  exact⟨_,st,fun v z=>by
   have z':Data.fields _=Data.cell v:=z
   cases z'⟩
 keep:=fun i h h' st k=>k it (by simp) _ st
 item:=by
  intro X hP hw hK hc i pins s σ H E I hf st hg
  subst hP hw hK
  obtain⟨f0,f1,f2,f3,f4,f5⟩:=hf it (by simp)
  have W:=Walks.range (prog:=X.prog) (w:=X.w) (I.ok.hd hc) it lo 1 n
  refine W.item i s _ _ hg st fun v h' tk hv D3 kk=>?_
  obtain⟨t,rfl⟩:=hv
  have I1:Inv X pins σ H {s with heap:=h',toks:=tk}:=I.turned (fun b o hb e=>kk b o (by simpa using hb) e) f0 f1 f3 f4 f5
  refine⟨_,rfl,CJ (s:={s with heap:=h',toks:=tk}) (n:="range_iterator") D3 rfl rfl (by decide) ⟨.int (lo+i),H,I1,⟨t,?_⟩,⟨rfl,rfl⟩,D3,fun b hb=>(hf b hb).1⟩⟩
  rw[Int.mul_one]
 done:=by
  intro X hP hw hK hc i pins s σ H E I hf st hg
  subst hP hw hK
  obtain⟨f0,f1,f2,f3,f4,f5⟩:=hf it (by simp)
  exact wpAny_pyNext_range_end (I.ok.hd hc) st (by have:n<=i:=hg;omega) fun h' eb=>⟨rfl,I.turned (t':=s.toks) (fun b o hb e=>eb b o hb e) f0 f1 f3 f4 f5⟩
 self:=fun _ _ _ _ _ st h=>wpAny_pyIter_rangeiter st h
end L2
namespace L2
open PySem PySem.Spec PyProof.Rows
section
variable {X:Cx}{tg:Expr}
inductive JC(K:W.Frag)(R:It->Hp->Prop)(x:V)(H1:Hp):Prop where
 |mk(a:_)(c1:x= .ref a)(c2:(∃xs,bp K H1 a xs))(c3:R (M4 K a) H1)
def Lj(K:W.Frag)(tl:TE):TI:=fun σ H R=>tl σ H fun x H1=>JC K R x H1
theorem pY{l:Expr}{tl:TE}(hl:PE X l tl):PI X tg l (Lj X.K tl):=by
 intro pins s σ H R I h
 refine dB (hl pins s σ H _ I h) fun v s1 ⟨x,H1,I1,r1,q1⟩=>?_
 obtain⟨a,e,⟨xs,hq⟩,q⟩:=q1
 subst e
 cases r1
 obtain⟨aN,rv,p,hz⟩:=I1.list hq
 refine wpAny_pyIter_list p.isList ?_
 refine⟨s1.heap.objs.size,[s1.heap.objs.size],_,_,H1,rfl,I1.kept (t':=s1.toks) fun b o e=>Heap.get?_push_of_some _ e,zD a _,⟨_,Heap.get?_push_size _ rfl,rfl,rfl⟩,fun b hb=>?_,q⟩
 have e:b=s1.heap.objs.size:=by simpa using hb
 subst e
 exact I1.CN (Nat.le_refl _) (I1.cx.fresh (Nat.le_refl _))
theorem BI{pins:List (Addr×Obj)}{σ:St}{H:Hp}{s:Shared}{R:It->Hp->Prop}{E:Value->Shared->Prop}{lo hi:Int}{t u v:Tok}{tk:Nat}(I:Inv X pins σ H s)(h1: -(2 ^ 62)<=lo)(h2:lo < 2 ^ 62)(h3: -(2 ^ 62)<=hi)(h4:hi < 2 ^ 62)
  (q:R (J5 lo (hi - lo).toNat) H):wpAny (model X.prog X.w) X.A (pyIter (.ref s.heap.objs.size)) (Vo X pins σ tg R) E {s with heap:=s.heap.push {cls:= .type "range",data:= .fields #[.int lo t,.int hi u,.int 1 v]},toks:=tk}:=by
 refine wpAny_pyIter_range (IsRange.new ..) (small_one h1 h2 h3 h4) ?_
 have I1:Inv X pins σ H {s with heap:=s.heap.push {cls:= .type "range",data:= .fields #[.int lo t,.int hi u,.int 1 v]},toks:=tk}:=I.kept fun b o e=>Heap.get?_push_of_some _ e
 refine⟨(s.heap.push {cls:= .type "range",data:= .fields #[.int lo t,.int hi u,.int 1 v]}).objs.size,[(s.heap.push {cls:= .type "range",data:= .fields #[.int lo t,.int hi u,.int 1 v]}).objs.size],_,_,H,rfl,
  I1.kept (t':=tk) fun b o e=>Heap.get?_push_of_some _ e,wN _ lo (hi - lo).toNat,?_,fun b hb=>?_,q⟩
 ·have e1:lo+((0:Nat):Int)*1=lo:=by simp
  have e2:(((hi - lo).toNat:Nat):Int) - ((0:Nat):Int)=Builtin.Range.rangeSize lo hi 1:=by rw[rangeSize_one];split<;>omega
  show IsRangeIter _ _ (lo+((0:Nat):Int)*1) ((((hi - lo).toNat:Nat):Int) - ((0:Nat):Int)) 1
  rw[e1,e2]
  exact Heap.get?_push_size _ rfl
 ·have e:b=(s.heap.push {cls:= .type "range",data:= .fields #[.int lo t,.int hi u,.int 1 v]}).objs.size:=by simpa using hb
  subst e
  exact I1.CN (Nat.le_refl _) (I1.cx.fresh (Nat.le_refl _))
inductive JB(R:It->Hp->Prop)(vs:List V)(H1:Hp):Prop where
 |mk(j:Int)(c1:vs=[.int j])(c2: -(2 ^ 62)<=j)(c3:j < 2 ^ 62)(c4:R (J5 0 j.toNat) H1)
def Li(ta:TA):TI:=fun σ H R=>ta σ H fun vs H1=>JB R vs H1
theorem oN{a:Expr}{ta:TA}{p pos:Pos}(hg:Gl X "range")(hm:X.mg "range"=none)(ha:PA X [a] ta)(hs:starEach [a] X.env=[(false,eval a X.env)]:=by rfl):PI X tg (.Call (.Name "range" p) [a] [] pos) (Li ta):=by
 intro pins s σ H R I h
 refine Call_ (iB I hg hm boot_range (PyProof.Rows.callWith_type1 (dB (ha pos pins s σ H _ I h) fun us s1 ⟨vs,H1,I1,r1,q1⟩=>?_) hs rfl))
 obtain⟨j,e,q1,q2,q⟩:=q1
 subst e
 cases r1 with
 |cons r rr=>
  cases rr
  obtain⟨t,rfl⟩:=r
  exact call_range_1 (BI I1 (by omega) (by omega) q1 q2 (by simpa using q))
def qz(wi:TI)(g:TG)(tb:TS):TS:=fun D σ H=>wi σ H fun J H1=>∃W:Nat->Nat->St->Hp->Prop,(∃m,W 0 m σ H1)/\∀i m σ H,W i m σ H->
 (J.stop i H/\D.nx σ H) ∨ (J.go i H/\∃N:St->Hp->Prop,(∀σ' H',N σ' H'->∃m',m' < m/\W (i+1) m' σ' H')/\∀x H',J.JH i H x H'->g x σ H' fun σ2 H2=>tb {D with nx:=N,ct:=N,bk:=D.nx} σ2 H2)
def tY(fp:List Addr)(h:Heap):List (Addr×Obj):=fp.filterMap fun b=>(h.get? b).map fun o=>(b,o)
theorem qW{fp:List Addr}{h:Heap}{b:Addr}{o:Obj}(hb:b∈fp)(e:h.get? b=some o):(b,o)∈tY fp h:=List.mem_filterMap.mpr ⟨b,hb,by rw[e];rfl⟩
theorem zX{fp:List Addr}{h:Heap}{p:Addr×Obj}(hp:p∈tY fp h):p.1∈fp/\h.get? p.1=some p.2:=by
 obtain⟨b,hb,e⟩:=List.mem_filterMap.mp hp
 cases q:h.get? b with
 |none=>rw[q] at e;cases e
 |some o=>
  rw[q] at e
  have e':(b,o)=p:=Option.some.inj e
  subst e'
  exact⟨hb,q⟩
theorem Inv.pinned{pins:List (Addr×Obj)}{σ:St}{H:Hp}{s:Shared}{fp:List Addr}(I:Inv X pins σ H s)(hf:∀b∈fp,wz X pins H b)(ho:∀b∈fp,∃o,s.heap.get? b=some o/\∀v,o.data≠ .cell v):Inv X (pins++tY fp s.heap) σ H s:=
 I.yr fun p hp=>(List.mem_append.mp hp).elim (fun z=>I.pin p (List.mem_append_right _ z)) fun z=>by
  obtain⟨hb,e⟩:=zX z
  obtain⟨f0,f1,f2,_⟩:=hf p.1 hb
  obtain⟨o,e',d⟩:=ho p.1 hb
  rw[e] at e';cases e'
  exact⟨e,f0,f1,f2,d⟩
theorem Inv.qt{pins pl:List (Addr×Obj)}{σ:St}{H:Hp}{s:Shared}(I:Inv X (pins++pl) σ H s):Inv X pins σ H s:=I.yr fun p hp=>I.pin p (List.mem_append_right _ (List.mem_append_left _ hp))
theorem iu{iter:Expr}{body:List Stmt}{wi:TI}{g:TG}{tb:TS}{pos:Pos}(hp:PassesOwn (model X.prog X.w) X.A X.env X.xe)(hc:X.calm=true)(hi:PI X tg iter wi)(hg:PG X tg g)(hb:nZ X body tb)
  (hs:∀x,foldedSetIterable iter X.env x=pure x:=by intro _;rfl):PS X (.For tg iter body [] pos) (qz wi g tb):=by
 intro pins s σ H D I h
 refine wpAny_For (dB (hi pins s σ H _ I h) fun v s1 h1=>dB h1 fun Ud s2 h2=>?_) hs
 obtain⟨it,fp,tn,J,H2,e,I2,T,G9,f2,W,⟨m0,w0⟩,turn⟩:=h2
 subst e
 -- what stays true of the iterator's objects through the loop
 have G8:∀{H':Hp},(∀b∈fp,H' b=none)->∀b∈fp,wz X pins H' b:=fun hn b hb=>⟨hn b hb,(f2 b hb).2⟩
 refine codeAny_forLoop_any (fun n s'=>∃i σ' H',Inv X pins σ' H' s'/\tn i s'.heap/\(∀b∈fp,H' b=none)/\W i n σ' H') ?_ m0 ⟨0,σ,H2,I2,G9,fun b hb=>(f2 b hb).1,w0⟩
 rintro n s3 ⟨i,σ3,H3,I3,S5,UZ,w3⟩
 rcases turn i n σ3 H3 w3 with⟨stop,qn⟩|⟨go,N,hN,step⟩
 ·refine wpAny_passesOwn hp (dB (T.done X rfl rfl rfl hc i pins s3 σ3 H3 X.xe I3 (G8 UZ) S5 stop) fun r s4 ⟨hr,I4⟩=>?_)
  subst hr
  exact wpAny_execs_nil ⟨σ3,H3,I4,qn⟩
 ·refine wpAny_passesOwn hp (dB (T.item X rfl rfl rfl hc i pins s3 σ3 H3 X.xe I3 (G8 UZ) S5 go) fun r s4 ⟨u,hr,h4⟩=>?_)
  subst hr
  refine wpAny_passesOwn hp (dB h4 fun _ s5 ⟨x,H5,I5,r5,y5,JL,YY⟩=>?_)
  have I5':=I5.pinned (G8 YY) (T.obj _ _ JL)
  refine wpAny_passesOwn hp (dB (hg _ s5 σ3 H5 x u _ I5' r5 (step x H5 y5)) fun _ s6 ⟨σ6,H6,I6,q6⟩=>?_)
  refine wpAny_passesOwn hp (dB (hb _ s6 σ6 H6 _ I6 q6) fun f s7 q7=>?_)
  have again:∀{σ7:St}{H7:Hp},Inv X (pins++tY fp s5.heap) σ7 H7 s7->N σ7 H7->∃m,m < n/\∃i σ' H',Inv X pins σ' H' s7/\tn i s7.heap/\(∀b∈fp,H' b=none)/\W i m σ' H':=fun {σ7 H7} I7 n7=>by
   obtain⟨m',hm,w7⟩:=hN σ7 H7 n7
   refine⟨m',hm,i+1,σ7,H7,I7.qt,T.keep _ _ _ JL fun b hb o e=>(I7.pin (b,o) (List.mem_append_right _ (List.mem_append_right _ (qW hb e)))).1,fun b hb=>?_,w7⟩
   obtain⟨o,e,d⟩:=T.obj _ _ JL b hb
   exact(I7.pin (b,o) (List.mem_append_right _ (List.mem_append_right _ (qW hb e)))).2.1
  cases f with
  |next=>obtain⟨σ7,H7,I7,n7⟩:=q7;exact again I7 n7
  |cont=>obtain⟨σ7,H7,I7,n7⟩:=q7;exact again I7 n7
  |brk=>obtain⟨σ7,H7,I7,q7⟩:=q7;exact⟨σ7,H7,I7.qt,q7⟩
  |ret v=>obtain⟨x7,σ7,H7,I7,r7,q7⟩:=q7;exact⟨x7,σ7,H7,I7.qt,r7,q7⟩
end
theorem nI{K:W.Frag}{a:Addr}{xs:List V}{g:TG}{tb:TS}{D:Ends}{σ:St}{H:Hp}(Pv:Nat->St->Hp->Prop)(h0:Pv 0 σ H)(hl:∀i σ H,i<=xs.length->Pv i σ H->bp K H a xs)
  (hs:∀i x σ H,xs[i]? =some x->Pv i σ H->g x σ H fun σ2 H2=>tb {D with nx:=Pv (i+1),ct:=Pv (i+1),bk:=D.nx} σ2 H2)(hd:∀σ H,Pv xs.length σ H->D.nx σ H):
  ∃W:Nat->Nat->St->Hp->Prop,(∃m,W 0 m σ H)/\∀i m σ H,W i m σ H->
   ((M4 K a).stop i H/\D.nx σ H) ∨ ((M4 K a).go i H/\∃N:St->Hp->Prop,(∀σ' H',N σ' H'->∃m',m' < m/\W (i+1) m' σ' H')/\∀x H',(M4 K a).JH i H x H'->g x σ H' fun σ2 H2=>tb {D with nx:=N,ct:=N,bk:=D.nx} σ2 H2):=by
 refine⟨fun i m σ H=>m=xs.length - i/\i<=xs.length/\Pv i σ H,⟨xs.length,by simp,Nat.zero_le _,h0⟩,?_⟩
 rintro i m σ H ⟨rfl,hi,p⟩
 have q:=hl i σ H hi p
 by_cases eB:i < xs.length
 ·refine .inr ⟨⟨xs,xs[i],q,by simp[eB]⟩,Pv (i+1),fun σ' H' p'=>⟨xs.length - (i+1),by omega,rfl,eB,p'⟩,fun x H' y=>?_⟩
  obtain⟨e,y⟩:=y
  subst e
  exact hs i x σ _ (y xs q) p
 ·have e:i=xs.length:=by omega
  subst e
  exact .inl ⟨⟨xs,q,Nat.le_refl _⟩,hd σ H p⟩
theorem oX{lo:Int}{n:Nat}{g:TG}{tb:TS}{D:Ends}{σ:St}{H:Hp}(Pv:Nat->St->Hp->Prop)(h0:Pv 0 σ H)
  (hs:∀i σ H,i < n->Pv i σ H->g (.int (lo+i)) σ H fun σ2 H2=>tb {D with nx:=Pv (i+1),ct:=Pv (i+1),bk:=D.nx} σ2 H2)(hd:∀σ H,Pv n σ H->D.nx σ H):
  ∃W:Nat->Nat->St->Hp->Prop,(∃m,W 0 m σ H)/\∀i m σ H,W i m σ H->
   ((J5 lo n).stop i H/\D.nx σ H) ∨ ((J5 lo n).go i H/\∃N:St->Hp->Prop,(∀σ' H',N σ' H'->∃m',m' < m/\W (i+1) m' σ' H')/\∀x H',(J5 lo n).JH i H x H'->g x σ H' fun σ2 H2=>tb {D with nx:=N,ct:=N,bk:=D.nx} σ2 H2):=by
 refine⟨fun i m σ H=>m=n - i/\i<=n/\Pv i σ H,⟨n,by simp,Nat.zero_le _,h0⟩,?_⟩
 rintro i m σ H ⟨rfl,hi,p⟩
 by_cases eB:i < n
 ·refine .inr ⟨eB,Pv (i+1),fun σ' H' p'=>⟨n - (i+1),by omega,rfl,eB,p'⟩,fun x H' y=>?_⟩
  obtain⟨e,y⟩:=y
  subst e y
  exact hs i σ _ eB p
 ·have e:i=n:=by omega
  subst e
  exact .inl ⟨Nat.le_refl _,hd σ H p⟩
end L2
namespace L2
open PySem PySem.Spec PyProof.Rows
abbrev R2:=V->V->Hp->VK->Prop
def gy(X:Cx)(f:Value->Value->Sem Value)(r:R2):Prop:=
 ∀(pins:List (Addr×Obj)) (s:Shared) (σ:St) (H:Hp) (x y:V) (v u:Value) (Q:VK),Inv X pins σ H s->RelV x v->RelV y u->r x y H Q->
  wpAny (model X.prog X.w) X.A (f v u) (EP X pins σ Q) X.xe s
def wc(X:Cx)(f:Value->Sem Value)(r:V->Hp->VK->Prop):Prop:=
 ∀(pins:List (Addr×Obj)) (s:Shared) (σ:St) (H:Hp) (x:V) (v:Value) (Q:VK),Inv X pins σ H s->RelV x v->r x H Q->
  wpAny (model X.prog X.w) X.A (f v) (EP X pins σ Q) X.xe s
def cE(X:Cx)(f:Value)(r:List V->Hp->VK->Prop):Prop:=
 ∀(pins:List (Addr×Obj)) (s:Shared) (σ:St) (H:Hp) (xs:List V) (us:List Value) (Q:VK),Inv X pins σ H s->Vals xs us->r xs H Q->
  wpAny (model X.prog X.w) X.A (call f us) (EP X pins σ Q) X.xe s
def mw(X:Cx)(r:V->Hp->(Bool->Hp->Prop)->Prop):Prop:=
 ∀(pins:List (Addr×Obj)) (s:Shared) (σ:St) (H:Hp) (x:V) (v:Value) (Q:Bool->Hp->Prop),Inv X pins σ H s->RelV x v->r x H Q->
  wpAny (model X.prog X.w) X.A (truthy v) (TP X pins σ Q) X.xe s
def JK(r:R2)(ta tb:TE):TE:=fun σ H Q=>ta σ H fun x H1=>tb σ H1 fun y H2=>r x y H2 Q
def V3(r:V->Hp->VK->Prop)(ta:TE):TE:=fun σ H Q=>ta σ H fun x H1=>r x H1 Q
inductive Z8(C:Int->Int->Prop)(g:Int->Int->V)(x:V)(y:V)(H:Hp)(Q:VK):Prop where
 |mk(i:_)(j:_)(c1:x= .int i)(c2:y= .int j)(c3:C i j)(c4:Q (g i j) H)
def rI(C:Int->Int->Prop)(g:Int->Int->V):R2:=fun x y H Q=>Z8 C g x y H Q
inductive SM(g:Int->Int->V)(x:V)(y:V)(H:Hp)(Q:VK):Prop where
 |mk(i:_)(j:_)(c1:x= .int i)(c2:y= .int j)(c3:Q (g i j) H)
def Hl(g:Int->Int->V):R2:=fun x y H Q=>SM g x y H Q
inductive Z7(g:Int->V)(x:V)(H:Hp)(Q:VK):Prop where
 |mk(i:_)(c1:x= .int i)(c2:Q (g i) H)
def rU(g:Int->V):V->Hp->VK->Prop:=fun x H Q=>Z7 g x H Q
section
variable {X:Cx}{a b c:Expr}{ta tb tc:TE}{pos:Pos}
theorem Jd(ha:PE X a ta)(hb:PE X b tb){pins:List (Addr×Obj)}{s:Shared}{σ:St}{H:Hp}{R:V->V->Hp->Prop}(I:Inv X pins σ H s)
  (h:ta σ H fun x H1=>tb σ H1 fun y H2=>R x y H2){Q:Value->Shared->Prop}{f:Value->Value->Sem Value}
  (hf:∀v u s2 x y H2,Inv X pins σ H2 s2->RelV x v->RelV y u->R x y H2->wpAny (model X.prog X.w) X.A (f v u) Q X.xe s2):
  wpAny (model X.prog X.w) X.A (eval a X.env) (fun v s₁=>wpAny (model X.prog X.w) X.A (eval b X.env) (fun u s₂=>wpAny (model X.prog X.w) X.A (f v u) Q X.xe s₂) X.xe s₁) X.xe s:=by
 refine dB (ha pins s σ H _ I h) fun v s1 ⟨x,H1,I1,r1,q1⟩=>?_
 refine dB (hb pins s1 σ H1 _ I1 q1) fun u s2 ⟨y,H2,I2,r2,q2⟩=>?_
 exact hf v u s2 x y H2 I2 r1 r2 q2
theorem bU{op:Operator}{r:R2}(ho:gy X (binaryOp op) r)(ha:PE X a ta)(hb:PE X b tb):PE X (.BinOp a op b pos) (JK r ta tb):=by
 intro pins s σ H Q I h
 exact wpAny_BinOp (Jd ha hb I h fun v u s2 x y H2 I2 rx ry q=>ho pins s2 σ H2 x y v u Q I2 rx ry q)
theorem yt{op:UnaryOp}{r:V->Hp->VK->Prop}(ho:wc X (unaryOp op) r)(ha:PE X a ta):PE X (.UnaryOp op a pos) (V3 r ta):=by
 intro pins s σ H Q I h
 exact UnaryOp_ (dB (ha pins s σ H _ I h) fun v s1 ⟨x,H1,I1,r1,q1⟩=>ho pins s1 σ H1 x v Q I1 r1 q1)
theorem Nu{f:Value->Value->Sem Value}{C:Int->Int->Prop}{g:Int->Int->Int}
  (rule:∀(i j:Int) (t u:Tok) (s:Shared) (Q:Value->Shared->Prop) (E:Value->Shared->Prop),C i j->Q (.int (g i j) s.toks) {s with toks:=s.toks+1}->wpAny (model X.prog X.w) X.A (f (.int i t) (.int j u)) Q E s):
  gy X f (rI C fun i j=> .int (g i j)):=by
 intro pins s σ H x y v u Q I rx ry h
 obtain⟨i,j,rfl,rfl,hc,q⟩:=h
 obtain⟨t,rfl⟩:=rx
 obtain⟨t',rfl⟩:=ry
 exact rule i j t t' s _ _ hc ⟨.int (g i j),H,I.tok _,⟨_,rfl⟩,q⟩
theorem KG{f:Value->Value->Sem Value}{g:Int->Int->Int}
  (rule:∀(i j:Int) (t u:Tok) (s:Shared) (Q:Value->Shared->Prop) (E:Value->Shared->Prop),Q (.int (g i j) s.toks) {s with toks:=s.toks+1}->wpAny (model X.prog X.w) X.A (f (.int i t) (.int j u)) Q E s):
  gy X f (Hl fun i j=> .int (g i j)):=by
 intro pins s σ H x y v u Q I rx ry h
 obtain⟨i,j,rfl,rfl,q⟩:=h
 obtain⟨t,rfl⟩:=rx
 obtain⟨t',rfl⟩:=ry
 exact rule i j t t' s _ _ ⟨.int (g i j),H,I.tok _,⟨_,rfl⟩,q⟩
theorem Hw{f:Value->Value->Sem Value}{g:Int->Int->Bool}
  (rule:∀(i j:Int) (t u:Tok) (s:Shared) (Q:Value->Shared->Prop) (E:Value->Shared->Prop),Q (.bool (g i j)) s->wpAny (model X.prog X.w) X.A (f (.int i t) (.int j u)) Q E s):
  gy X f (Hl fun i j=> .bl (g i j)):=by
 intro pins s σ H x y v u Q I rx ry h
 obtain⟨i,j,rfl,rfl,q⟩:=h
 obtain⟨t,rfl⟩:=rx
 obtain⟨t',rfl⟩:=ry
 exact rule i j t t' s _ _ ⟨.bl (g i j),H,I,rfl,q⟩
def SS(i j:Int):Prop:=0 < j/\j < 1073741824
def SR(i j:Int):Prop:=0<=j/\j<=1000000/\i.natAbs < 2 ^ 64
def JG(i j:Int):Prop:=(-(2 ^ 64) < i/\i < 2 ^ 64) ∨ (-(2 ^ 64) < j/\j < 2 ^ 64)
theorem JG.ok{i j:Int}(h:JG i j):IntMulOk i j:=by
 rcases h with⟨h1,h2⟩|⟨h1,h2⟩
 ·exact .of_left (intBits_le_64 h1 h2)
 ·exact .of_right (intBits_le_64 h1 h2)
theorem gI:gy X (binaryOp .Add) (Hl fun i j=> .int (i+j)):=KG fun _ _ _ _ _ _ _ q=>add_int q
theorem mi:gy X (binaryOp .Sub) (Hl fun i j=> .int (i - j)):=KG fun _ _ _ _ _ _ _ q=>sub_int q
theorem B3:gy X (binaryOp .Mult) (rI JG fun i j=> .int (i*j)):=Nu fun _ _ _ _ _ _ _ hc q=>mul_int q hc.ok
theorem kQ:gy X (binaryOp .FloorDiv) (rI SS fun i j=> .int (i / j)):=Nu fun i j _ _ _ _ _ hc q=>by
 have h1:(0:Int) < j:=hc.1
 have h2:j < 1073741824:=hc.2
 exact floordiv_int (by omega) (by rw[Int.fdiv_eq_ediv_of_nonneg i (by omega)];exact q) (.inl (PyProof.noPylong_small (by omega)))
theorem gH:gy X (binaryOp .Mod) (rI (fun _ j=>0 < j) fun i j=> .int (i % j)):=Nu fun i j _ _ _ _ _ hc q=>by
 have h1:(0:Int) < j:=hc
 exact mod_int' (by omega) (by rw[Int.fmod_eq_emod_of_nonneg i (by omega)];exact q)
theorem BZ:gy X (binaryOp .Pow) (rI SR fun i j=> .int (i ^ j.toNat)):=Nu fun _ _ _ _ _ _ _ hc q=>pow_int_small hc.1 hc.2.1 hc.2.2 q
theorem V1{f:Value->Sem Value}{g:Int->Int}
  (rule:∀(i:Int) (t:Tok) (s:Shared) (Q:Value->Shared->Prop) (E:Value->Shared->Prop),Q (.int (g i) s.toks) {s with toks:=s.toks+1}->wpAny (model X.prog X.w) X.A (f (.int i t)) Q E s):
  wc X f (rU fun i=> .int (g i)):=by
 intro pins s σ H x v Q I rx h
 obtain⟨i,rfl,q⟩:=h
 obtain⟨t,rfl⟩:=rx
 exact rule i t s _ _ ⟨.int (g i),H,I.tok _,⟨_,rfl⟩,q⟩
theorem tD:wc X (unaryOp .USub) (rU fun i=> .int (-i)):=V1 fun _ _ _ _ _ q=>neg_int q
end
def Kr:V->V->Bool
 | .d0,.d0=>true| .d0,.int _=>true| .int _,.d0=>true| .d0,.bl _=>true| .bl _,.d0=>true| .d0,.str _=>true| .str _,.d0=>true
 | .int _,.int _=>true| .bl _,.bl _=>true| .str _,.str _=>true| .zk _,.zk _=>true
 | .int _,.str _=>true| .str _,.int _=>true| .bl _,.str _=>true| .str _,.bl _=>true
 |_,_=>false
inductive SO(x:V)(y:V)(H:Hp)(Q:VK):Prop where
 |mk(c1:Kr x y=true)(c2:Q (.bl (decide (x=y))) H)
def Wq:R2:=fun x y H Q=>SO x y H Q
inductive SK(x:V)(y:V)(H:Hp)(Q:VK):Prop where
 |mk(c1:Kr x y=true)(c2:Q (.bl (!decide (x=y))) H)
def Wo:R2:=fun x y H Q=>SK x y H Q
theorem zb{i j:Int}:decide (V.int i=V.int j)=(i==j):=by
 rw[Bool.eq_iff_iff]
 simp
theorem CZ{i j:Bool}:decide (V.bl i=V.bl j)=(i==j):=by
 rw[Bool.eq_iff_iff]
 simp
theorem za{i j:Str}:decide (V.str i=V.str j)=(i==j):=by
 rw[Bool.eq_iff_iff]
 simp
theorem zc{i j:Array UInt8}:decide (V.zk i=V.zk j)=(i.toList==j.toList):=by
 rw[Bool.eq_iff_iff]
 cases i
 cases j
 simp
section
variable {X:Cx}{a b c:Expr}{ta tb tc:TE}{pos:Pos}
theorem bV{pins:List (Addr×Obj)}{σ:St}{H:Hp}{s:Shared}{Q:VK}{k k':Bool}(I:Inv X pins σ H s)(q:Q (.bl k) H)(e:k=k'):EP X pins σ Q (.bool k') s:=by
 subst e
 exact⟨.bl k,H,I,rfl,q⟩
theorem bC:gy X (compareOp .Eq) Wq:=by
 intro pins s σ H x y v u Q I rx ry h
 obtain⟨hs,q⟩:=h
 cases x with
 |d0=>
  cases rx
  cases y with
  |d0=>cases ry;exact PySem.EqNone.eq_none_none (bV I q (by simp))
  |bl j=>cases ry;exact PySem.EqNone.eq_none_bool (bV I q (by simp))
  |int j=>obtain⟨t',rfl⟩:=ry;exact PySem.EqNone.eq_none_int (bV I q (by simp))
  |str j=>obtain⟨t',rfl⟩:=ry;exact PySem.EqNone.eq_none_str (bV I q (by simp))
  |_=>exact absurd (show false=true from hs) Bool.false_ne_true
 |bl i=>
  cases rx
  cases y with
  |d0=>cases ry;exact PySem.EqNone.eq_bool_none (bV I q (by simp))
  |bl j=>cases ry;exact eq_bool (bV I q CZ)
  |str j=>obtain⟨t',rfl⟩:=ry;exact PySem.EqMixed.eq_bool_str (bV I q (by simp))
  |_=>exact absurd (show false=true from hs) Bool.false_ne_true
 |int i=>
  obtain⟨t,rfl⟩:=rx
  cases y with
  |d0=>cases ry;exact PySem.EqNone.eq_int_none (bV I q (by simp))
  |int j=>obtain⟨t',rfl⟩:=ry;exact eq_int (bV I q zb)
  |str j=>obtain⟨t',rfl⟩:=ry;exact PySem.EqMixed.eq_int_str (bV I q (by simp))
  |_=>exact absurd (show false=true from hs) Bool.false_ne_true
 |str i=>
  obtain⟨t,rfl⟩:=rx
  cases y with
  |d0=>cases ry;exact PySem.EqNone.eq_str_none (bV I q (by simp))
  |bl j=>cases ry;exact PySem.EqMixed.eq_str_bool (bV I q (by simp))
  |int j=>obtain⟨t',rfl⟩:=ry;exact PySem.EqMixed.eq_str_int (bV I q (by simp))
  |str j=>obtain⟨t',rfl⟩:=ry;exact eq_str (bV I q za)
  |_=>exact absurd (show false=true from hs) Bool.false_ne_true
 |zk i=>
  obtain⟨t,rfl⟩:=rx
  cases y with
  |zk j=>obtain⟨t',rfl⟩:=ry;exact PySem.W.eq_bytes (bV I q zc)
  |_=>exact absurd (show false=true from hs) Bool.false_ne_true
 |_=>cases y<;>exact absurd (show false=true from hs) Bool.false_ne_true
theorem lL:gy X (compareOp .NotEq) Wo:=by
 intro pins s σ H x y v u Q I rx ry h
 obtain⟨hs,q⟩:=h
 cases x with
 |d0=>
  cases rx
  cases y with
  |d0=>cases ry;exact PySem.EqNone.ne_none_none (bV I q (by simp))
  |bl j=>cases ry;exact PySem.EqNone.ne_none_bool (bV I q (by simp))
  |int j=>obtain⟨t',rfl⟩:=ry;exact PySem.EqNone.ne_none_int (bV I q (by simp))
  |str j=>obtain⟨t',rfl⟩:=ry;exact PySem.EqNone.ne_none_str (bV I q (by simp))
  |_=>exact absurd (show false=true from hs) Bool.false_ne_true
 |bl i=>
  cases rx
  cases y with
  |d0=>cases ry;exact PySem.EqNone.ne_bool_none (bV I q (by simp))
  |bl j=>cases ry;exact ne_bool (bV I q (congrArg not CZ))
  |str j=>obtain⟨t',rfl⟩:=ry;exact PySem.EqMixed.ne_bool_str (bV I q (by simp))
  |_=>exact absurd (show false=true from hs) Bool.false_ne_true
 |int i=>
  obtain⟨t,rfl⟩:=rx
  cases y with
  |d0=>cases ry;exact PySem.EqNone.ne_int_none (bV I q (by simp))
  |int j=>obtain⟨t',rfl⟩:=ry;exact ne_int (bV I q (congrArg not zb))
  |str j=>obtain⟨t',rfl⟩:=ry;exact PySem.EqMixed.ne_int_str (bV I q (by simp))
  |_=>exact absurd (show false=true from hs) Bool.false_ne_true
 |str i=>
  obtain⟨t,rfl⟩:=rx
  cases y with
  |d0=>cases ry;exact PySem.EqNone.ne_str_none (bV I q (by simp))
  |bl j=>cases ry;exact PySem.EqMixed.ne_str_bool (bV I q (by simp))
  |int j=>obtain⟨t',rfl⟩:=ry;exact PySem.EqMixed.ne_str_int (bV I q (by simp))
  |str j=>obtain⟨t',rfl⟩:=ry;exact ne_str (bV I q (congrArg not za))
  |_=>exact absurd (show false=true from hs) Bool.false_ne_true
 |zk i=>
  obtain⟨t,rfl⟩:=rx
  cases y with
  |zk j=>obtain⟨t',rfl⟩:=ry;exact PySem.W.ne_bytes (bV I q (congrArg not zc))
  |_=>exact absurd (show false=true from hs) Bool.false_ne_true
 |_=>cases y<;>exact absurd (show false=true from hs) Bool.false_ne_true
theorem yw:gy X (compareOp .Lt) (Hl fun i j=> .bl (decide (i < j))):=Hw fun _ _ _ _ _ _ _ q=>lt_int q
theorem mY:gy X (compareOp .Gt) (Hl fun i j=> .bl (decide (j < i))):=Hw fun _ _ _ _ _ _ _ q=>gt_int q
theorem B4:gy X (compareOp .GtE) (Hl fun i j=> .bl (decide (j<=i))):=Hw fun _ _ _ _ _ _ _ q=>ge_int q
theorem Hu:gy X (compareOp .Is) (fun x y H Q=>y= .d0/\Q (.bl (decide (x= .d0))) H):=by
 intro pins s σ H x y v u Q I rx ry h
 obtain⟨rfl,q⟩:=h
 cases ry
 refine is_none_gen (bV I q ?_)
 cases x<;>first
  | (cases rx;rfl)
  | (obtain⟨t,rfl⟩:=rx;rfl)
theorem Ep:gy X (compareOp .IsNot) (fun x y H Q=>y= .d0/\Q (.bl (!decide (x= .d0))) H):=by
 intro pins s σ H x y v u Q I rx ry h
 obtain⟨rfl,q⟩:=h
 cases ry
 refine isnot_none_gen (bV I q ?_)
 cases x<;>first
  | (cases rx;rfl)
  | (obtain⟨t,rfl⟩:=rx;rfl)
theorem gy.or{f:Value->Value->Sem Value}{r r':R2}(h:gy X f r)(h':gy X f r'):gy X f (fun x y H Q=>r x y H Q ∨ r' x y H Q):=by
 intro pins s σ H x y v u Q I rx ry q
 rcases q with q|q
 ·exact h pins s σ H x y v u Q I rx ry q
 ·exact h' pins s σ H x y v u Q I rx ry q
theorem aA(b:Expr){op:CmpOp}(h:op≠ .In:=by decide)(h2:op≠ .NotIn:=by decide):behindInMarks op b=false:=by
 have e1:(op==CmpOp.In)=false:=by cases op<;>first|rfl|exact absurd rfl h
 have e2:(op==CmpOp.NotIn)=false:=by cases op<;>first|rfl|exact absurd rfl h2
 cases b<;>simp[behindInMarks,e1,e2]
theorem dP{op:CmpOp}{r:R2}(ho:gy X (compareOp op) r)(ha:PE X a ta)(hb:PE X b tb)(hm:behindInMarks op b=false):PE X (.Compare a [op] [b] pos) (JK r ta tb):=by
 intro pins s σ H Q I h
 exact wpAny_Compare1 (Jd ha hb I h fun v u s2 x y H2 I2 rx ry q=>ho pins s2 σ H2 x y v u Q I2 rx ry q) hm
inductive Jh(x:V)(H':Hp)(Q:Bool->Hp->Prop):Prop where
 |mk(k:_)(c1:x= .bl k)(c2:Q k H')
def Ka(t:TE):TT:=fun σ H Q=>t σ H fun x H'=>Jh x H' Q
theorem ax{op:CmpOp}{r:R2}(ho:gy X (compareOp op) r)(ha:PE X a ta)(hb:PE X b tb)(hm:behindInMarks op b=false):PT X (.Compare a [op] [b] pos) (Ka (JK r ta tb)):=by
 intro pins s σ H Q I h
 refine wpAny_isTrue_Compare1 (dB (ha pins s σ H _ I h) fun v s1 ⟨x,H1,I1,r1,q1⟩=>dB (hb pins s1 σ H1 _ I1 q1) fun u s2 ⟨y,H2,I2,r2,q2⟩=>
  dB (ho pins s2 σ H2 x y v u _ I2 r1 r2 q2) fun c s3 ⟨z,H3,I3,r3,k,e,q3⟩=>?_) hm
 subst e
 cases r3
 exact wpAny_truthy_bool ⟨H3,I3,q3⟩
def MF(K:W.Frag)(x:V)(H:Hp)(k:Bool):Prop:=
 match x with
 | .d0=>k=false
 | .bl b=>k=b
 | .int i=>k=(i != 0)
 | .str y=>y.length<=sizeLine/\k=((y.length:Int) != 0)
 | .zk y=>y.size<=sizeLine/\k=((y.size:Int) != 0)
 | .ref p=>(∃xs,bp K H p xs/\k= !xs.isEmpty) ∨ (∃xs,aS K H p xs/\k= !xs.isEmpty) ∨ ∃ba,H p=some (.dK ba)/\k= !ba.isEmpty
 |_=>False
theorem xy{κ:Type}{ba:List (κ×V)}{vs:List (κ×Value)}(r:KV ba vs):(!vs.isEmpty)= !ba.isEmpty:=by
 cases r<;>rfl
theorem rj{xs:List V}{aN:List Value}(r:Vals xs aN):(!aN.toArray.isEmpty)= !xs.isEmpty:=by
 cases r<;>simp
theorem q8:(sizeLine:Nat) < 2 ^ 63:=by rw[sizeLine_eq];decide
theorem GY:mw X (fun x H Q=>∃k,MF X.K x H k/\Q k H):=by
 intro pins s σ H x v Q I rx h
 obtain⟨k,e,q⟩:=h
 have hl:=q8
 have hs:sizeLine=16777216:=sizeLine_eq
 cases x with
 |d0=>
  cases rx
  have e':k=false:=e
  subst e'
  exact truthy_none ⟨H,I,q⟩
 |bl b=>
  cases rx
  have e':k=b:=e
  subst e'
  exact wpAny_truthy_bool ⟨H,I,q⟩
 |int i=>
  obtain⟨t,rfl⟩:=rx
  have e':k=(i != 0):=e
  subst e'
  exact PySem.P.truthy_int ⟨H,I,q⟩
 |str y=>
  obtain⟨t,rfl⟩:=rx
  obtain⟨hy,e'⟩:y.length<=sizeLine/\k=((y.length:Int) != 0):=e
  subst e'
  exact PySem.P.truthy_str (by omega) ⟨H,I.tok _,q⟩
 |zk y=>
  obtain⟨t,rfl⟩:=rx
  obtain⟨hy,e'⟩:y.size<=sizeLine/\k=((y.size:Int) != 0):=e
  subst e'
  exact PySem.W.truthy_bytes (by omega) ⟨H,I.tok _,q⟩
 |ref p=>
  cases rx
  have e':(∃xs,bp X.K H p xs/\k= !xs.isEmpty) ∨ (∃xs,aS X.K H p xs/\k= !xs.isEmpty) ∨ ∃ba,H p=some (.dK ba)/\k= !ba.isEmpty:=e
  rcases e' with⟨xs,hx,e'⟩|⟨xs,hx,e'⟩|⟨ba,hx,e'⟩
  ·subst e'
   obtain⟨aN,r,pl,hz⟩:=I.list hx
   have hlen:=r.length
   exact wpAny_truthy_list pl.isList (by simp only[List.size_toArray];omega) ⟨H,I.tok _,by rw[rj r];exact q⟩
  ·subst e'
   obtain⟨aN,r,pl,hz⟩:=I.tuple hx
   have hlen:=r.length
   exact truthy_tuple pl (by simp only[List.size_toArray];omega) ⟨H,I.tok _,by rw[rj r];exact q⟩
  ·subst e'
   obtain⟨hz,hS,vs,r,m⟩:ba.length<=sizeLine/\(p==sysModules)=false/\∃vs,KV ba vs/\s.heap.DictOf (dQ X.prog X.w) p vs:=I.cx p _ hx
   have hlen:ba.length=vs.length:=Paired.length r
   exact wpAny_truthy_dict hS m (by omega) ⟨H,I.tok _,by rw[xy r];exact q⟩
 |_=>exact(show False from e).elim
theorem kn(ha:PE X a ta)(he:∀whole,isTrue a X.env whole=(do let v <-whole;standAt a.pos;holding [v] (truthy v))):
  PT X a (fun σ H Q=>ta σ H fun x H'=>∃k,MF X.K x H' k/\Q k H'):=by
 intro pins s σ H Q I h
 exact isTrue_plain (dB (ha pins s σ H _ I h) fun v s1 ⟨x,H1,I1,r1,q1⟩=>GY pins s1 σ H1 x v Q I1 r1 q1) (he _)
theorem xk:gy X (binaryOp .Add) (fun x y H Q=>∃i j,x= .str i/\y= .str j/\i.length+j.length<=sizeLine/\Q (.str (i++j)) H):=by
 intro pins s σ H x y v u Q I rx ry h
 obtain⟨i,j,rfl,rfl,hz,q⟩:=h
 obtain⟨t,rfl⟩:=rx
 obtain⟨t',rfl⟩:=ry
 exact add_str (fun t' tk=>⟨.str (i++j),H,I.tok _,⟨_,rfl⟩,q⟩) hz
theorem vals1{x:V}{us:List Value}(r:Vals [x] us):∃u,us=[u]/\RelV x u:=by
 cases r with
 |cons r1 r2=>cases r2;exact⟨_,rfl,r1⟩
theorem vals2{x y:V}{us:List Value}(r:Vals [x,y] us):∃u w',us=[u,w']/\RelV x u/\RelV y w':=by
 cases r with
 |cons r1 r2=>
  cases r2 with
  |cons r3 r4=>cases r4;exact⟨_,_,rfl,r1,r3⟩
theorem rH:cE X (.builtin "abs") (fun xs H Q=>∃i,xs=[.int i]/\Q (.int (if i < 0 then -i else i)) H):=by
 intro pins s σ H xs us Q I r h
 obtain⟨i,rfl,q⟩:=h
 obtain⟨u,rfl,t,rfl⟩:=vals1 r
 exact call_abs_int fun u tk=>⟨.int (if i < 0 then -i else i),H,I.tok _,⟨_,rfl⟩,q⟩
theorem AO(hc:X.calm=true):cE X (.builtin "min") (fun xs H Q=>∃i j,xs=[.int i,.int j]/\Q (.int (if j < i then j else i)) H):=by
 intro pins s σ H xs us Q I r h
 obtain⟨i,j,rfl,q⟩:=h
 obtain⟨u,w',rfl,⟨t,rfl⟩,⟨t',rfl⟩⟩:=vals2 r
 refine min_two_ints (I.ok.hd hc) fun h' tk k=>⟨_,H,I.kept k,?_,q⟩
 by_cases hj:j < i
 ·rw[if_pos hj,if_pos hj];exact⟨_,rfl⟩
 ·rw[if_neg hj,if_neg hj];exact⟨_,rfl⟩
theorem sT:cE X (.type "int") (fun xs H Q=>(∃i,xs=[.int i]/\Q (.int i) H) ∨ ∃k,xs=[.bl k]/\Q (.int (if k then 1 else 0)) H):=by
 intro pins s σ H xs us Q I r h
 rcases h with⟨i,rfl,q⟩|⟨k,rfl,q⟩
 ·obtain⟨u,rfl,t,rfl⟩:=vals1 r
  exact call_int_int ⟨.int i,H,I,⟨_,rfl⟩,q⟩
 ·obtain⟨u,rfl,r1⟩:=vals1 r
  cases r1
  exact call_int_bool ⟨.int (if k then 1 else 0),H,I.tok _,⟨_,rfl⟩,q⟩
end
end L2
namespace L2
open PySem PySem.Spec PyProof.Rows
structure ya(h:Heap)(x dx C:Addr)(mA:Str->Option Value):Prop where
 obj:h.get? x=some (PySem.W.instObj C dx)
 ns:h.Ns1 dx mA
 ne:dx≠x
theorem Ag{h:Heap}{dx:Addr}{mA:Str->Option Value}(n:h.Ns1 dx mA):∃od,h.get? dx=some od/\∀name,PySem.W.lookIn name od=some (mA name):=by
 obtain⟨o,es,ep,ho,hd,hk,_,hm⟩:=n
 refine⟨o,ho,fun name=>?_⟩
 have e:=hm name
 unfold nsFind findBy at e
 rw[<-Array.find?_toList] at e
 unfold PySem.W.lookIn
 rw[hd]
 dsimp only
 split
 ·rename_i y q
  rw[q] at e
  exact congrArg some e
 ·rename_i q
  rw[q] at e
  have a:es.toList.any (·.refKey)=false:=by
   rw[List.any_eq_false]
   intro y hy
   obtain⟨z,t,QD⟩:=hk y (Array.mem_toList_iff.mp hy)
   simp[DictEntry.refKey,QD]
  have a':¬es.toList.any (·.refKey)=true:=by rw[a];exact Bool.false_ne_true
  rw[if_neg a']
  exact congrArg some e
theorem ya.look{h:Heap}{x dx C:Addr}{mA:Str->Option Value}(I:ya h x dx C mA):∃od,PySem.W.InstAt h x (PySem.W.instObj C dx) C (some od)/\∀name,PySem.W.lookIn name od=some (mA name):=
 let ⟨od,ho,hl⟩:=Ag I.ns
 ⟨od,⟨I.obj,rfl,rfl,ho⟩,hl⟩
section
variable {prog:Program}{w:World}{A:Around}{E:Value->Shared->Prop}{s:Shared}{K:W.Frag}{x dx C f:Addr}{mA:Str->Option Value}{name:Str}{v:Value}
theorem get_map{expr:Bool}{Q:Value->Shared->Prop}(X:K.In s.heap)(I:ya s.heap x dx C mA)(hg:PySem.W.plainGet K C name=true)(hh:PySem.W.hasDictIn K C=true)
  (ha:PySem.W.findIn K (.ref C) name=some none)(hv:mA name=some v)(gf:PySem.W.handedIn v=true)(h:Q v {s with toks:=s.toks+1}):
  wpAny (model prog w) A (getAttr (.ref x) name expr) Q E s:=by
 obtain⟨od,J,hl⟩:=I.look
 exact PySem.W.get_value X J (PySem.W.plainGet_of hg).1 (PySem.W.findObj_own hh ha rfl (by rw[hl,hv])) gf h
theorem CK{pl:Sem Bool}{Q:Value×List Value->Shared->Prop}(X:K.In s.heap)(I:ya s.heap x dx C mA)(hg:PySem.W.plainGet K C name=true)
  (hf:PySem.W.findIn K (.ref C) name=some (some (.ref f)))(ht:PySem.W.isFn K (.ref f)=true)(hv:mA name=none)(h:Q (.ref f,[.ref x]) s):
  wpAny (model prog w) A (getMethod (.ref x) name pl) Q E s:=by
 obtain⟨od,J,hl⟩:=I.look
 exact PySem.W.method_fn X J (PySem.W.plainGet_of hg).1 (PySem.W.plainGet_of hg).2 hf (beq_iff_eq.mp ht) (by show(PySem.W.lookIn name od).map (·.isSome)=some false;rw[hl,hv];rfl) h
theorem D8{ns:List Str}{Q:Unit->Shared->Prop}(X:K.In s.heap)(I:ya s.heap x dx C mA)
  (hs:PySem.W.findIn K (.ref C) "__setattr__"=some (some (.builtin "object.__setattr__")))(hp:PySem.W.plainOver K C=true)(ht:PySem.W.takerIn K C name=some none)(hh:PySem.W.hasDictIn K C=true)
  (hw:PySem.Within mA ns)(hsz:ns.length<=sizeLine)
  (h:∀h',ya h' x dx C (fun y=>if y=name then some v else mA y)->Heap.SameBut dx s.heap h'->Q () {s with heap:=h',toks:=s.toks+2}):
  wpAny (model prog w) A (setAttr (.ref x) name v) Q E s:=by
 obtain⟨od,J,hl⟩:=I.look
 refine PySem.W.set_plain X J hs (PySem.W.osa_open (s:={s with toks:=s.toks+1}) (r:=none) X J hp ht fun b=>?_)
 obtain⟨cd,hc,LZ⟩:=PySem.W.any_some hh
 have hx:s.heap.get? x=some ⟨.ref C,some dx,.plain,#[]⟩:=I.obj
 refine wpAny_bind (wpAny_pure (wpAny_bind (wpAny_bind (wpAny_loadPart hx (wpAny_bind (PySem.W.Looks.here (s:={s with toks:=s.toks+1}) (PySem.W.looks_clsIn X hc) ?_))))))
 rw[LZ]
 refine wpAny_pure (a:=some dx) (wpAny_bind (wpAny_pure (wpAny_bind ?_)))
 refine wpAny_nsSet1 (s:={s with toks:=s.toks+1}) I.ns fun h' Uy Qb=>?_
 obtain⟨oD,esD,epD,Qs,Yv,YA⟩:=Uy.count (PySem.Within.cons name v hw)
 refine wpAny_bind (wpAny_lookBehind Qs (by rw[Yv];exact pastItsLine_dict (Nat.le_trans YA (by rw[List.length_cons];omega))) ?_)
 exact wpAny_pure (h _ ⟨(Qb.2 _ (Ne.symm I.ne)).trans I.obj,Uy,I.ne⟩ Qb)
theorem Cg{R:Result->Shared->Prop}{vs:List Value}{kw:List (Str×Value)}(X:K.In s.heap)(hm:PySem.W.makesIn K C=true)
  (hi:PySem.W.findIn K (.ref C) "__init__"=some (some (.ref f)))(hf:PySem.W.typeIn K (.ref f)=some (.type "function"))
  (h:codeAny (model prog w) (A.under (.builtin "type.__call__" ⟨.ref C::vs,kw⟩)) (.call (.ref f) ⟨.ref (s.heap.objs.size+1)::vs,kw⟩) (PySem.W.InitBack (s.heap.objs.size+1) R)
   {s with heap:=(s.heap.push PySem.W.emptyDict).push (PySem.W.instObj C s.heap.objs.size)}):
  codeAny (model prog w) A (.call (.ref C) ⟨vs,kw⟩) R s:=by
 obtain⟨hh,g,d,t,os⟩:=s
 exact PySem.W.make_core (PySem.W.makes_of X hm) (PySem.W.looks_findIn X hi) (fun self=>PySem.W.bind_fn X self hf) (.inl rfl) h
end
def e9(f:Str)(v:V):List (Str×V)->List (Str×V)
 |[]=>[(f,v)]
 | (g,x)::r=>if g=f then (g,v)::r else (g,x)::e9 f v r
theorem bw(f g:Str)(v:V):∀fs:List (Str×V),(e9 f v fs).lookup g=if g=f then some v else fs.lookup g
 |[]=>by
  show List.lookup g [(f,v)]=_
  by_cases h:g=f
  ·have hb:(g==f)=true:=beq_iff_eq.mpr h
   simp only[List.lookup,hb,if_pos h]
  ·have hb:(g==f)=false:=beq_eq_false_iff_ne.mpr h
   simp only[List.lookup,hb,if_neg h]
 | (k,x)::r=>by
  have ih:=bw f g v r
  rw[show e9 f v ((k,x)::r)=(if k=f then (k,v)::r else (k,x)::e9 f v r) from rfl]
  by_cases hk:k=f
  ·rw[if_pos hk]
   by_cases h:g=k
   ·have hb:(g==k)=true:=beq_iff_eq.mpr h
    simp only[List.lookup,hb,if_pos (h.trans hk)]
   ·have hb:(g==k)=false:=beq_eq_false_iff_ne.mpr h
    simp only[List.lookup,hb,if_neg (fun e:g=f=>h (e.trans hk.symm))]
  ·rw[if_neg hk]
   by_cases h:g=k
   ·have hb:(g==k)=true:=beq_iff_eq.mpr h
    simp only[List.lookup,hb,if_neg (fun e:g=f=>hk (h.symm.trans e))]
   ·have hb:(g==k)=false:=beq_eq_false_iff_ne.mpr h
    simp only[List.lookup,hb]
    exact ih
theorem oT(f:Str)(v:V):∀fs:List (Str×V),f∈(e9 f v fs).map (·.1)/\∀g,g∈fs.map (·.1)->g∈(e9 f v fs).map (·.1)
 |[]=>⟨by simp[e9],fun g h=>by simp at h⟩
 | (k,x)::r=>by
  obtain⟨i1,i2⟩:=oT f v r
  rw[show e9 f v ((k,x)::r)=(if k=f then (k,v)::r else (k,x)::e9 f v r) from rfl]
  by_cases hk:k=f
  ·rw[if_pos hk]
   subst hk
   exact⟨by simp,fun g h=>by simpa using h⟩
  ·rw[if_neg hk]
   refine⟨?_,fun g h=>?_⟩
   ·rw[List.map_cons]
    exact List.mem_cons_of_mem _ i1
   ·rw[List.map_cons] at h ⊢
    rcases List.mem_cons.mp h with e|e
    ·exact List.mem_cons.mpr (.inl e)
    ·exact List.mem_cons_of_mem _ (i2 g e)
theorem hZ(f:Str)(v:V):∀fs:List (Str×V),(e9 f v fs).length<=fs.length+1
 |[]=>by simp[e9]
 | (k,x)::r=>by
  have ih:=hZ f v r
  rw[show e9 f v ((k,x)::r)=(if k=f then (k,v)::r else (k,x)::e9 f v r) from rfl]
  by_cases hk:k=f
  ·rw[if_pos hk,List.length_cons,List.length_cons];omega
  ·rw[if_neg hk,List.length_cons,List.length_cons];omega
theorem jV.some_of{v:V}{o:Option Value}(r:jV (some v) o):∃u,o=some u/\RelV v u:=by
 cases o with
 |none=>exact(show False from r).elim
 |some u=>exact⟨u,rfl,r⟩
theorem jV.none_of{o:Option Value}(r:jV none o):o=none:=by
 cases o with
 |none=>rfl
 |some u=>exact(show False from r).elim
theorem AG{v:V}{u:Value}(r:RelV v u):PySem.W.handedIn u=true:=by
 cases v with
 |d0=>cases(show u=Value.none from r);rfl
 |bl b=>cases(show u=Value.bool b from r);rfl
 |int i=>obtain⟨t,e⟩:=(show ∃t,u=Value.int i t from r);cases e;rfl
 |str x=>obtain⟨t,e⟩:=(show ∃t,u=Value.str x t from r);cases e;rfl
 |zk b=>obtain⟨t,e⟩:=(show ∃t,u=Value.bytes b t from r);cases e;rfl
 |IT b=>obtain⟨t,e⟩:=(show ∃t,u=Value.float b t from r);cases e;rfl
 |ref a=>cases(show u=Value.ref a from r);rfl
 |ty n=>cases(show u=Value.type n from r);rfl
section
variable {P:Program}{w:World}{H H':Hp}{h h':Heap}{a C dx:Addr}{fs Mc:List (Str×V)}
theorem qe(cx:mz P w H h)(e:H a=some (.ins C dx fs)):∃mA,ya h a dx C mA/\(∀f,jV (fs.lookup f) (mA f))/\PySem.Within mA (fs.map (·.1))/\fs.length<=1000/\H dx=some (.own a):=by
 obtain⟨d,z,ne,ob,mA,n,r,q⟩:=(show cK P w H h a (.ins C dx fs) from cx a _ e)
 exact⟨mA,⟨ob,n,ne⟩,r,q,z,d⟩
end
structure wA(K:W.Frag)(C:Addr):Prop where
 pg:PySem.W.plainGet K C Str.empty=true
 hd:PySem.W.hasDictIn K C=true
 po:PySem.W.plainOver K C=true
 sa:PySem.W.findIn K (.ref C) "__setattr__"=some (some (.builtin "object.__setattr__"))
theorem wA.get{K:W.Frag}{C:Addr}(c:wA K C)(f:Str):PySem.W.plainGet K C f=true:=c.pg
def iF(K:W.Frag)(C:Addr)(f:Str):Prop:=PySem.W.findIn K (.ref C) f=some none
theorem iF.J9{K:W.Frag}{C:Addr}{f:Str}(n:iF K C f):PySem.W.takerIn K C f=some none:=by
 unfold PySem.W.takerIn
 rw[show PySem.W.findIn K (.ref C) f=some none from n]
 rfl
structure Meth(K:W.Frag)(C:Addr)(m:Str)(f:Addr):Prop where
 at_:PySem.W.findIn K (.ref C) m=some (some (.ref f))
 fn:PySem.W.isFn K (.ref f)=true
 kp:PySem.W.keepIn K (.ref f)=true
section
variable {X:Cx}{pins:List (Addr×Obj)}{σ:St}{H:Hp}{s:Shared}{a C dx:Addr}{fs:List (Str×V)}{f:Str}{v:V}{A:Around}{E:Value->Shared->Prop}
theorem xH{b:Bool}{Q:Value->Shared->Prop}(I:Inv X pins σ H s)(e:H a=some (.ins C dx fs))(c:wA X.K C)(n:iF X.K C f)(l:fs.lookup f=some v)
  (h:∀u s',Inv X pins σ H s'->RelV v u->Q u s'):wpAny (model X.prog X.w) A (getAttr (.ref a) f b) Q E s:=by
 obtain⟨mA,O,r,_,_,_⟩:=qe I.cx e
 obtain⟨u,hu,ru⟩:=jV.some_of (v:=v) (o:=mA f) (by rw[<-l];exact r f)
 exact get_map I.nu O (c.get f) c.hd n hu (AG ru) (h u _ (I.tok _) ru)
theorem mq{m:Str}{g:Addr}{pl:Sem Bool}{Q:Value×List Value->Shared->Prop}(I:Inv X pins σ H s)(e:H a=some (.ins C dx fs))(c:wA X.K C)(k:Meth X.K C m g)(l:fs.lookup m=none)
  (h:Q (.ref g,[.ref a]) s):wpAny (model X.prog X.w) A (getMethod (.ref a) m pl) Q E s:=by
 obtain⟨mA,O,r,_,_,_⟩:=qe I.cx e
 have hn:mA m=none:=jV.none_of (by rw[<-l];exact r m)
 exact CK I.nu O (c.get m) k.at_ k.fn hn h
theorem w5{y:V}{u:Value}{Q:Unit->Shared->Prop}(I:Inv X pins σ H s)(e:H a=some (.ins C dx fs))(c:wA X.K C)(n:iF X.K C f)(hl:fs.length < 1000)(ry:RelV y u)
  (h:∀s',Inv X pins σ (upd H a (.ins C dx (e9 f y fs))) s'->Q () s'):wpAny (model X.prog X.w) A (setAttr (.ref a) f u) Q E s:=by
 obtain⟨mA,O,r,wi,_,ho⟩:=qe I.cx e
 have hz:(fs.map (·.1)).length<=sizeLine:=by rw[List.length_map,sizeLine_eq];omega
 refine D8 I.nu O c.sa c.po n.J9 c.hd wi hz fun h' O' sb=>h _ ?_
 have hd:∃o,h'.get? dx=some o:=let ⟨o,_,_,e',_⟩:=O'.ns;⟨o,e'⟩
 refine I.write (x:=a) (e:=dx) (by rw[e];exact True.intro) (.inr ho) (fun b q hb z=>(sb.2 b hb).trans z) hd ?_
 refine⟨by rw[aF O.ne];exact ho,?_,O.ne,O'.obj,_,O'.ns,fun g=>?_,fun g hg=>?_⟩
 ·have:=hZ f y fs;omega
 ·show jV ((e9 f y fs).lookup g) (if g=f then some u else mA g)
  rw[bw]
  by_cases q:g=f
  ·rw[if_pos q,if_pos q];exact ry
  ·rw[if_neg q,if_neg q];exact r g
 ·by_cases q:g=f
  ·rw[q];exact(oT f y fs).1
  ·refine(oT f y fs).2 g (wi g fun z=>hg ?_)
   show(if g=f then some u else mA g)=none
   rw[if_neg q];exact z
theorem Inv.made(I:Inv X pins σ H s):Inv X pins σ (upd (upd H s.heap.objs.size (.own (s.heap.objs.size+1))) (s.heap.objs.size+1) (.ins C s.heap.objs.size []))
  {s with heap:=(s.heap.push PySem.W.emptyDict).push (PySem.W.instObj C s.heap.objs.size)}:=by
 have e1:(s.heap.push PySem.W.emptyDict).get? s.heap.objs.size=some PySem.W.emptyDict:=Heap.get?_push_size s.heap rfl
 have e2:((s.heap.push PySem.W.emptyDict).push (PySem.W.instObj C s.heap.objs.size)).get? (s.heap.objs.size+1)=some (PySem.W.instObj C s.heap.objs.size):=by
  have:=Heap.get?_push_size (s.heap.push PySem.W.emptyDict) (o:=PySem.W.instObj C s.heap.objs.size) rfl
  rwa[Heap.size_push] at this
 have e3:(s.heap.push PySem.W.emptyDict).Ns s.heap.objs.size (fun _=>none):=⟨PySem.W.emptyDict,#[],_,e1,rfl,(fun e he=>absurd he (by simp)),fun _=>rfl⟩
 have I1:=I.laid (a:=s.heap.objs.size) (o:= .own (s.heap.objs.size+1)) (h':=s.heap.push PySem.W.emptyDict) (t':=s.toks) (fun b u q=>Heap.get?_push_of_some _ q) (Nat.le_refl _) ⟨_,e1⟩
 refine I1.laid (a:=s.heap.objs.size+1) (o:= .ins C s.heap.objs.size []) (t':=s.toks) (fun b u q=>Heap.get?_push_of_some _ q) (Nat.le_of_eq (Heap.size_push _ _)) ?_
 have ne:s.heap.objs.size≠s.heap.objs.size+1:=Nat.ne_of_lt (Nat.lt_succ_self _)
 refine⟨by rw[aF ne,aH],Nat.zero_le _,ne,e2,fun _=>none,(Heap.Ns1.of_empty e3).at fun o q=>Heap.get?_push_of_some _ q,fun _=>True.intro,fun y hy=>absurd rfl hy⟩
theorem Fe{prog:Program}{w:World}{env:Env}{e:Expr}{f:Str}{pos:Pos}{s:Shared}{Q:Value->Shared->Prop}(hb:attributeBase e f env (eval e env)=eval e env)
  (h:wpAny (model prog w) A (eval e env) (fun o s₁=>wpAny (model prog w) A (getAttr o f true) Q E s₁) E s):wpAny (model prog w) A (eval (.Attribute e f pos) env) Q E s:=
 Attribute_any_ h (by rw[arm_eval_Attribute,hb])
end
inductive MK(K:W.Frag)(f:Str)(x:V)(H1:Hp)(Q:VK):Prop where
 |mk(a:_)(C:_)(dx:_)(fs:_)(v:_)(c1:x= .ref a)(c2:H1 a=some (.ins C dx fs))(c3:wA K C)(c4:iF K C f)(c5:fs.lookup f=some v)(c6:Q v H1)
def Ow(K:W.Frag)(ta:TE)(f:Str):TE:=fun σ H Q=>ta σ H fun x H1=>MK K f x H1 Q
inductive MO(K:W.Frag)(f:Str)(D:Ends)(σ:L2.St)(y:V)(x:V)(H2:Hp):Prop where
 |mk(a:_)(C:_)(dx:_)(fs:_)(c1:x= .ref a)(c2:H2 a=some (.ins C dx fs))(c3:wA K C)(c4:iF K C f)(c5:fs.length < 1000)(c6:D.nx σ (upd H2 a (.ins C dx (e9 f y fs))))
def OM(K:W.Frag)(ta tv:TE)(f:Str):TS:=fun D σ H=>tv σ H fun y H1=>ta σ H1 fun x H2=>MO K f D σ y x H2
section
variable {X:Cx}{o e value:Expr}{f:Str}{pos pos' GZ:Pos}{ta tv:TE}
theorem bQ(he:PE X e ta)(hb:attributeBase e f X.env (eval e X.env)=eval e X.env):PE X (.Attribute e f pos) (Ow X.K ta f):=by
 intro pins s σ H Q I h
 refine Fe hb (dB (he pins s σ H _ I h) fun u s1 ⟨x,H1,I1,rx,a,C,dx,fs,v,ex,ea,c,n,l,q⟩=>?_)
 subst ex
 obtain rfl:u=Value.ref a:=rx
 exact xH I1 ea c n l fun u' s2 I2 ru=>⟨v,H1,I2,ru,q⟩
theorem iw(ha:PE X o ta)(hv:PE X value tv)(hs:swapsWith value (some (.Attribute o f pos')) pos.line X.env=pure false):PS X (.Assign [.Attribute o f pos'] value pos) (OM X.K ta tv f):=by
 intro pins s σ H D I h
 refine plainObj_wpAny_Assign_Attribute (dB (hv pins s σ H _ I h) fun u s1 ⟨y,H1,I1,ry,q⟩=>dB (ha pins s1 σ H1 _ I1 q) fun ov s2 ⟨x,H2,I2,rx,a,C,dx,fs,ex,ea,c,n,l,q2⟩=>?_) hs
 subst ex
 obtain rfl:ov=Value.ref a:=rx
 exact w5 I2 ea c n l ry fun s3 I3=>⟨σ,_,I3,q2⟩
theorem Ga{pl:Sem Bool}{m:Str}{apos:Pos}{args:List Expr}{pins:List (Addr×Obj)}{s:Shared}{σ:St}{H:Hp}{Q:Value->Shared->Prop}{te:TE}(he:PE X e te)(I:Inv X pins σ H s)
  (h:te σ H fun x H1=>∃a C dx fs g,x= .ref a/\H1 a=some (.ins C dx fs)/\wA X.K C/\Meth X.K C m g/\fs.lookup m=none/\
   ∀s1,Inv X pins σ H1 s1->wpAny (model X.prog X.w) X.A (callWith pos (.ref g) [.ref a] (backTo pos (starEach args X.env)) (backToKw pos (keywordEach [] X.env))) Q X.xe s1)
  (ht:eval (.Call (.Attribute e m apos) args [] pos) X.env=(do
   let ov <-eval e X.env
   standAt apos.atName
   let (f,first) <-holding [ov] (getMethod ov m pl)
   callWith pos f first (backTo pos (starEach args X.env)) (backToKw pos (keywordEach [] X.env)))):
  wpAny (model X.prog X.w) X.A (eval (.Call (.Attribute e m apos) args [] pos) X.env) Q X.xe s:=by
 refine PySem.W.methodCall_KW (pl:=pl) (dB (he pins s σ H _ I h) fun u s1 ⟨x,H1,I1,rx,a,C,dx,fs,g,ex,ea,c,k,l,q⟩=>?_) ht
 subst ex
 obtain rfl:u=Value.ref a:=rx
 exact mq I1 ea c k l (q s1 I1)
end
section
variable {X:Cx}{pins:List (Addr×Obj)}{σ:St}{H:Hp}{s:Shared}{A:Around}{E:Value->Shared->Prop}{Q:Value->Shared->Prop}{c:Value}{b:Bool}
inductive oY(K:W.Frag)(H:Hp):V->Value->Prop where
 |d0:oY K H .d0 (.type "NoneType")
 |bl (x:Bool):oY K H (.bl x) (.type "bool")
 |int (i:Int):oY K H (.int i) (.type "int")
 |str (x:Str):oY K H (.str x) (.type "str")
 |IT (x:UInt64):oY K H (.IT x) (.type "float")
 |lst {a:Addr}{xs:List V} (e:H a=some (.lst xs)):oY K H (.ref a) (.type "list")
 |xI {a:Addr}{o:Obj}{xs:List V} (e:H a=some (.xI o (.lst xs))):oY K H (.ref a) (.type "list")
 |tup {a:Addr}{xs:List V} (e:H a=some (.tup xs)):oY K H (.ref a) (.type "tuple")
 |dK {a:Addr}{ba:List (Key×V)} (e:H a=some (.dK ba)):oY K H (.ref a) (.type "dict")
 |dT {a:Addr}{ba:List (List Key×V)} (e:H a=some (.dT ba)):oY K H (.ref a) (.type "dict")
 |ins {a C dx:Addr}{fs:List (Str×V)} (e:H a=some (.ins C dx fs)) (cl:wA K C) (ha:PySem.W.findIn K (.ref C) "__class__"=some (some (.builtin "object.__class__")))
   (hn:PySem.W.specialIn K (.builtin "object.__class__") "__get__"=some (some (.builtin "getset_descriptor.__get__"))) (Uo:PySem.W.takesIn K (.builtin "object.__class__")=some true)
   (hm:PySem.W.mroIn K C (.type "object")=some true):oY K H (.ref a) (.ref C)
theorem Aq{x:V}{u t:Value}(I:Inv X pins σ H s)(rx:RelV x u)(ty:oY X.K H x t)(e:PySem.W.kitOne X.K t c=some b)(h:∀tk,Q (.bool b) {s with toks:=tk}):
  wpAny (model X.prog X.w) A (call (.builtin "isinstance") [u,c]) Q E s:=by
 cases ty with
 |d0=>cases(show u=Value.none from rx);exact PySem.W.kia_one PySem.W.kitx_none I.nu True.intro e (fun z=>nomatch z) h
 |bl y=>cases(show u=Value.bool y from rx);exact PySem.W.kia_one PySem.W.kitx_bool I.nu True.intro e (fun z=>nomatch z) h
 |int i=>obtain⟨t,q⟩:=(show ∃t,u=Value.int i t from rx);cases q;exact PySem.W.kia_one PySem.W.kitx_int I.nu True.intro e (fun z=>nomatch z) h
 |str y=>obtain⟨t,q⟩:=(show ∃t,u=Value.str y t from rx);cases q;exact PySem.W.kia_one PySem.W.kitx_str I.nu True.intro e (fun z=>nomatch z) h
 |IT y=>obtain⟨t,q⟩:=(show ∃t,u=Value.float y t from rx);cases q;exact PySem.W.kia_one PySem.W.kitx_float I.nu True.intro e (fun z=>nomatch z) h
 |@lst a xs ea=>
  cases(show u=Value.ref a from rx)
  obtain⟨_,_,n,_,h1⟩:=(show cK X.prog X.w H s.heap a (.lst xs) from I.cx a _ ea)
  exact PySem.W.kia_one PySem.W.kitx_list I.nu ⟨_,h1,rfl⟩ e (fun z=>nomatch z) h
 |@xI a ob xs ea=>
  cases(show u=Value.ref a from rx)
  obtain⟨_,_,_,n,_,h1⟩:=(show cK X.prog X.w H s.heap a (.xI ob (.lst xs)) from I.cx a _ ea)
  exact PySem.W.kia_one PySem.W.kitx_list I.nu ⟨_,h1,rfl⟩ e (fun z=>nomatch z) h
 |@tup a xs ea=>
  cases(show u=Value.ref a from rx)
  obtain⟨_,_,_,p⟩:=(show cK X.prog X.w H s.heap a (.tup xs) from I.cx a _ ea)
  obtain⟨o,h1,h2,_⟩:=p
  exact PySem.W.kia_one PySem.W.kitx_tuple I.nu ⟨o,h1,h2⟩ e (fun z=>nomatch z) h
 |@dK a ba ea=>
  cases(show u=Value.ref a from rx)
  obtain⟨_,_,vs,_,p⟩:=(show cK X.prog X.w H s.heap a (.dK ba) from I.cx a _ ea)
  obtain⟨o,es,ep,h1,h2,_⟩:=p
  exact PySem.W.kia_one PySem.W.kitx_dict I.nu ⟨o,h1,h2.1⟩ e (fun z=>nomatch z) h
 |@dT a ba ea=>
  cases(show u=Value.ref a from rx)
  obtain⟨_,_,xs,_,o,es,ep,h1,h2,_⟩:=(show cK X.prog X.w H s.heap a (.dT ba) from I.cx a _ ea)
  exact PySem.W.kia_one PySem.W.kitx_dict I.nu ⟨o,h1,h2.1⟩ e (fun z=>nomatch z) h
 |@ins a C dx fs ea cl ha hn Uo hm=>
  cases(show u=Value.ref a from rx)
  obtain⟨mA,O,_⟩:=qe I.cx ea
  obtain⟨od,J,_⟩:=O.look
  exact PySem.W.kia_one (PySem.W.kitx_own (cl.get _) cl.hd ha hn Uo hm) I.nu J e (fun z=>nomatch z) h
end
end L2
namespace L2
open PySem PySem.Spec PyProof.Rows
structure dr(k:Nat)(A:Around):Prop where
 hd:A.handled=none
 dp:A.depth+3*k+5 < recursionLimit
 un:A.units+16*k+200 < cLine
theorem dr.mono{j k:Nat}{A:Around}(r:dr k A)(h:j<=k):dr j A:=⟨r.hd,by have:=r.dp;omega,by have:=r.un;omega⟩
theorem dr.deeper{k:Nat}{A:Around}(r:dr (k+1) A)(env:Env):dr k (A.deeper env):=
 ⟨r.hd,by have:=r.dp;show A.depth+1+3*k+5 < _;omega,by have:=r.un;show A.units+3+16*k+200 < _;omega⟩
theorem dr.in1{k:Nat}{A:Around}(r:dr (k+1) A):dr k A.in1:=
 ⟨r.hd,by have:=r.dp;show A.depth+3*k+5 < _;omega,by have:=r.un;show A.units+1+16*k+200 < _;omega⟩
theorem xr{A:Around}{C:Addr}{us:List Value}{kw:List (Str×Value)}:(A.under (.builtin "type.__call__" ⟨.ref C::us,kw⟩)).depth=A.depth+1:=by
 first|rfl|simp[Around.under,Code.weight,Code.isCreation,Code.isGuard,Code.isCaller,Code.frames,Code.isFrame,guardIds]
theorem xq{A:Around}{C:Addr}{us:List Value}{kw:List (Str×Value)}:(A.under (.builtin "type.__call__" ⟨.ref C::us,kw⟩)).units=A.units+1:=by
 first|rfl|simp[Around.under,Code.cUnits,Code.frames,Code.isFrame]
theorem dr.make{k:Nat}{A:Around}(r:dr (k+1) A)(C:Addr)(us:List Value)(kw:List (Str×Value)):dr k (A.under (.builtin "type.__call__" ⟨.ref C::us,kw⟩)):=
 ⟨r.hd,by have:=r.dp;rw[xr];omega,by have:=r.un;rw[xq];omega⟩
theorem dr.depth{k:Nat}{A:Around}(r:dr k A):A.depth < recursionLimit:=by have:=r.dp;omega
theorem dr.units{k:Nat}{A:Around}(r:dr k A):A.units+64 < cLine:=by have:=r.un;omega
theorem dr.qu{k:Nat}{A:Around}(r:dr k A):A.units < cLine:=by have:=r.un;omega
def ot:TA:=fun _ H Q=>Q [] H
def gC(ta:TE)(tr:TA):TA:=fun σ H Q=>ta σ H fun x H1=>tr σ H1 fun xs H2=>Q (x::xs) H2
section
variable {X:Cx}{e:Expr}{es:List Expr}{te:TE}{t:TA}{pos:Pos}
theorem aj:PA X [] ot:=fun _ _ _ _ H Q I h=>Calls.spliced_nil ⟨[],H,I,.nil,h⟩
theorem En(ha:PE X e te)(hr:PA X es t)(hs:starEach (e::es) X.env=(false,eval e X.env)::starEach es X.env:=by rfl):PA X (e::es) (gC te t):=by
 intro pos pins s σ H Q I h
 rw[hs]
 show wpAny _ _ (spliced ((false,eval e X.env)::backTo pos (starEach es X.env))) _ _ s
 refine Calls.spliced_cons (dB (ha pins s σ H _ I h) fun u s1 ⟨x,H1,I1,r1,q1⟩=>?_)
 exact dB (hr pos pins s1 σ H1 _ I1 q1) fun us s2 ⟨xs,H2,I2,r2,q2⟩=>⟨x::xs,H2,I2,.cons r1 r2,q2⟩
end
abbrev Sp:=List V->Hp->VK->XK->Prop
abbrev mB:=List Env->Hp->Shared->XK->Value->Shared->Prop
structure pO(P:Program)(w:World)(K:W.Frag)(mg:Str->Option Value)(base:Heap)(A:Around)(outer:List Env)(s:Shared)(H:Hp):Prop where
 frames:A.frames=some outer
 mod:Mod K mg base
 bs:∀b o,base.get? b=some o->s.heap.get? b=some o/\H b=none
 Bh:base.objs.size<=s.heap.objs.size
 lH:s.heap.FunFrames base outer
 DM:∀b∈vP outer,H b=none
 cx:mz P w H s.heap
 bare:AllBare s.gens
def CE(outer:List Env)(P:Program)(w:World)(H:Hp)(s:Shared)(Q:VK)(u:Value)(s':Shared):Prop:=
 ∃v H',s'.os=s.os/\AllBare s'.gens/\Un (vP outer) [] H H' s.heap s'.heap/\mz P w H' s'.heap/\RelV v u/\Q v H'
def CR(CX:mB)(outer:List Env)(P:Program)(w:World)(H:Hp)(s:Shared)(Q:VK)(E:XK)(r:Result)(s':Shared):Prop:=
 match r with
 | .ok (.ret u)=>CE outer P w H s Q u s'
 | .ok _=>False
 | .error e=>CX outer H s E e s'
structure cg(P:Program)(w:World)(K:W.Frag)(mg:Str->Option Value)(base:Heap)(CX:mB)(k:Nat)(f:Addr)(fd:FuncData)(ps:List Str)(sp:Sp):Prop where
 len:∀vs H Q E,sp vs H Q E->vs.length=ps.length
 run:∀(A:Around) (outer:List Env) (s:Shared) (H:Hp) (args:Args) (us:List Value) (vs:List V) (Q:VK) (E:XK),dr k A->pO P w K mg base A outer s H->BindsTo s fd args (ps.zip us)->Vals vs us->sp vs H Q E->
  codeAny (model P w) A (.call (.ref f) args) (CR CX outer P w H s Q E) s
theorem cg.mono{P:Program}{w:World}{K:W.Frag}{mg:Str->Option Value}{base:Heap}{CX:mB}{j k:Nat}{f:Addr}{fd:FuncData}{ps:List Str}{sp:Sp}(F:cg P w K mg base CX j f fd ps sp)(h:j<=k):
  cg P w K mg base CX k f fd ps sp:=⟨F.len,fun A outer s H args us vs Q E hr=>F.run A outer s H args us vs Q E (hr.mono h)⟩
theorem cg.imp{P:Program}{w:World}{K:W.Frag}{mg:Str->Option Value}{base:Heap}{CX:mB}{k:Nat}{f:Addr}{fd:FuncData}{ps:List Str}{sp S8:Sp}(F:cg P w K mg base CX k f fd ps sp)
  (h:∀vs H Q E,S8 vs H Q E->sp vs H Q E):cg P w K mg base CX k f fd ps S8:=
 ⟨fun vs H Q E q=>F.len vs H Q E (h _ _ _ _ q),fun A outer s H args us vs Q E hr he hb hv hs=>F.run A outer s H args us vs Q E hr he hb hv (h _ _ _ _ hs)⟩
theorem pO.make{P:Program}{w:World}{K:W.Frag}{mg:Str->Option Value}{base:Heap}{A:Around}{outer:List Env}{s:Shared}{H:Hp}(e:pO P w K mg base A outer s H)(C:Addr)(us:List Value)(kw:List (Str×Value)):
  pO P w K mg base (A.under (.builtin "type.__call__" ⟨.ref C::us,kw⟩)) outer s H:=⟨by first|exact e.frames| (simpa [Around.under,Code.envs,Code.isFrame,pushEnvs] using e.frames),e.mod,e.bs,e.Bh,e.lH,e.DM,e.cx,e.bare⟩
theorem pO.in1{P:Program}{w:World}{K:W.Frag}{mg:Str->Option Value}{base:Heap}{A:Around}{outer:List Env}{s:Shared}{H:Hp}(e:pO P w K mg base A outer s H):
  pO P w K mg base A.in1 outer s H:=⟨e.frames,e.mod,e.bs,e.Bh,e.lH,e.DM,e.cx,e.bare⟩
section
variable {X:Cx}{pins:List (Addr×Obj)}{σ:St}{H:Hp}{s s':Shared}
theorem Inv.Me(I:Inv X pins σ H s):pO X.prog X.w X.K X.mg X.base X.A X.stack s H:=
 ⟨I.ok.frames,I.ok.mod,I.bs,Nat.le_trans I.ok.Bh I.sz,I.stack,I.tI,I.cx,I.bare⟩
theorem Inv.after{Q:VK}{u:Value}(I:Inv X pins σ H s)(h:CE X.stack X.prog X.w H s Q u s'):EP X pins σ Q u s':=by
 obtain⟨v,H',os,bare,un,cx,r,q⟩:=h
 obtain⟨hh,g,d,t,Wx⟩:=s'
 obtain rfl:Wx=s.os:=os
 exact⟨v,H',I.call (h':=hh) (g':=g) (d':=d) (t':=t) (ch:=[]) un cx bare (fun b z=>absurd z (by simp)),r,q⟩
end
def FL(sp:Sp)(dvs:List V)(E:XK)(t:TA):TE:=fun σ H Q=>t σ H fun vs H1=>sp (vs++dvs) H1 Q E
inductive Jk(C:Addr)(m:Str)(sp:Sp)(dvs:List V)(E:XK)(t:TA)(σ:L2.St)(x:V)(H1:Hp)(Q:VK):Prop where
 |mk(a:_)(dx:_)(fs:_)(c1:x= .ref a)(c2:H1 a=some (.ins C dx fs))(c3:fs.lookup m=none)(c4:t σ H1 fun vs H2=>sp (x::(vs++dvs)) H2 Q E)
def yh(C:Addr)(m:Str)(sp:Sp)(dvs:List V)(E:XK)(ta:TE)(t:TA):TE:=fun σ H Q=>ta σ H fun x H1=>Jk C m sp dvs E t σ x H1 Q
def FK(C:Addr)(sp:Sp)(dvs:List V)(E:XK)(t:TA):TE:=fun σ H Q=>t σ H fun vs H1=>∀x dx,H1 x=none->H1 dx=none->dx≠x->
 sp (.ref x::(vs++dvs)) (upd (upd H1 dx (.own x)) x (.ins C dx [])) (fun v H2=>v= .d0/\Q (.ref x) H2) E
def Binds(K:W.Frag)(fd:FuncData)(ps:List Str)(ds:List Value):Prop:=
 ∀(s:Shared) (us:List Value),K.In s.heap->(us++ds).length=ps.length->BindsTo s fd ⟨us,[]⟩ (ps.zip (us++ds))
theorem Binds.all{K:W.Frag}{fd:FuncData}{ps:List Str}(h:∀us:List Value,us.length=ps.length->bindArgs fd ⟨us,[]⟩=pure (ps.zip us)):Binds K fd ps []:=fun s us _ hl=>by
 rw[List.append_nil] at hl ⊢
 exact .of_eq (h us hl)
def Passes(CX:mB)(X:Cx)(E:XK):Prop:=∀(pins:List (Addr×Obj)) (σ:St) (H:Hp) (s:Shared) (e:Value) (s':Shared),Inv X pins σ H s->CX X.stack H s E e s'->X.xe e s'
section
variable {X:Cx}{CX:mB}{k:Nat}{f C:Addr}{fd:FuncData}{ps:List Str}{sp:Sp}{dvs:List V}{ds:List Value}{E:XK}{x m:Str}{p pos apos:Pos}{e o:Expr}{es:List Expr}{ta:TE}{t:TA}
theorem tW{pins:List (Addr×Obj)}{σ:St}{H:Hp}{s:Shared}{Q:VK}{us:List Value}{vs:List V}(F:cg X.prog X.w X.K X.mg X.base CX k f fd ps sp)(hr:dr k X.A)(hb:Binds X.K fd ps ds)(hd:Vals dvs ds)(hx:Passes CX X E)
  (I:Inv X pins σ H s)(r:Vals vs us)(h:sp (vs++dvs) H Q E):wpAny (model X.prog X.w) X.A (call (.ref f) us) (EP X pins σ Q) X.xe s:=by
 have r2:Vals (vs++dvs) (us++ds):=r.append hd
 have hl:(us++ds).length=ps.length:=by rw[<-r2.length];exact F.len _ _ _ _ h
 refine wpAny_call (codeAny_mono (F.run X.A X.stack s H ⟨us,[]⟩ (us++ds) (vs++dvs) Q E hr I.Me (hb s us I.nu hl) r2 h) fun r s' hq=>?_)
 cases r with
 |error e=>exact hx pins σ H s e s' I hq
 |ok fl=>
  cases fl with
  |ret u=>exact I.after hq
  |next=>exact False.elim hq
  |brk=>exact False.elim hq
  |cont=>exact False.elim hq
theorem Em(F:cg X.prog X.w X.K X.mg X.base CX k f fd ps sp)(hr:dr k X.A)(hg:Gl X x)(hm:X.mg x=some (.ref f))(hk:PySem.W.keepIn X.K (.ref f)=true)(hb:Binds X.K fd ps ds)(hd:Vals dvs ds)(hx:Passes CX X E)
  (ha:PA X (e::es) t)(vL:(x==("__debug__":Str))=false:=by decide)(he:starEach (e::es) X.env=(false,eval e X.env)::starEach es X.env:=by rfl)(mm:(backTo pos (starEach es X.env)).any (·.1)=false:=by rfl):
  PE X (.Call (.Name x p) (e::es) [] pos) (FL sp dvs E t):=by
 intro pins s σ H Q I h
 refine wpAny_Call_Name_kw (p8 I hg hm ?_ vL)
 refine PySem.W.callWith_K (h₀:=X.base) I.ok.mod.HW hk (dB (ha pos pins s σ H _ I h) fun us s1 ⟨vs,H1,I1,r,q⟩=>⟨I1.nu,?_⟩) he mm
 exact tW F hr hb hd hx I1 r q
theorem Eh{pl:Sem Bool}(he:PE X o ta)(c:wA X.K C)(hm:Meth X.K C m f)(F:cg X.prog X.w X.K X.mg X.base CX k f fd ps sp)(hr:dr k X.A)(hb:Binds X.K fd ps ds)(hd:Vals dvs ds)(hx:Passes CX X E)(ha:PA X (e::es) t)
  (rn:starEach (e::es) X.env=(false,eval e X.env)::starEach es X.env:=by rfl)(mm:(backTo pos (starEach es X.env)).any (·.1)=false:=by rfl)
  (ht:eval (.Call (.Attribute o m apos) (e::es) [] pos) X.env=(do
   let ov <-eval o X.env
   standAt apos.atName
   let (f,first) <-holding [ov] (getMethod ov m pl)
   callWith pos f first (backTo pos (starEach (e::es) X.env)) (backToKw pos (keywordEach [] X.env))):=by rfl):
  PE X (.Call (.Attribute o m apos) (e::es) [] pos) (yh C m sp dvs E ta t):=by
 intro pins s σ H Q I h
 refine PySem.W.methodCall_KW (pl:=pl) (dB (he pins s σ H _ I h) fun u s1 ⟨x,H1,I1,rx,a,dx,fs,ex,ea,l,q⟩=>?_) ht
 subst ex
 obtain rfl:u=Value.ref a:=rx
 refine mq I1 ea c hm l ?_
 refine PySem.W.callWith_K (first:=[.ref a]) (h₀:=X.base) I.ok.mod.HW hm.kp (dB (ha pos pins s1 σ H1 _ I1 q) fun us s2 ⟨vs,H2,I2,r,q2⟩=>⟨I2.nu,?_⟩) rn mm
 exact tW (us:= .ref a::us) (vs:= .ref a::vs) F hr hb hd hx I2 (.cons rfl r) q2
theorem BS{pl:Sem Bool}(he:PE X o ta)(c:wA X.K C)(hm:Meth X.K C m f)(F:cg X.prog X.w X.K X.mg X.base CX k f fd ps sp)(hr:dr k X.A)(hb:Binds X.K fd ps ds)(hd:Vals dvs ds)(hx:Passes CX X E)
  (ht:eval (.Call (.Attribute o m apos) [] [] pos) X.env=(do
   let ov <-eval o X.env
   standAt apos.atName
   let (f,first) <-holding [ov] (getMethod ov m pl)
   callWith pos f first (backTo pos (starEach [] X.env)) (backToKw pos (keywordEach [] X.env))):=by rfl):
  PE X (.Call (.Attribute o m apos) [] [] pos) (yh C m sp dvs E ta ot):=by
 intro pins s σ H Q I h
 refine PySem.W.methodCall_KW (pl:=pl) (dB (he pins s σ H _ I h) fun u s1 ⟨x,H1,I1,rx,a,dx,fs,ex,ea,l,q⟩=>?_) ht
 subst ex
 obtain rfl:u=Value.ref a:=rx
 refine mq I1 ea c hm l ?_
 exact PySem.W.callWith_K0 (first:=[.ref a]) I1.nu hm.kp (tW (us:=[.ref a]) (vs:=[.ref a]) F hr hb hd hx I1 (.cons rfl .nil) q)
structure Mk(K:W.Frag)(C f:Addr):Prop where
 makes:PySem.W.makesIn K C=true
 init:PySem.W.findIn K (.ref C) "__init__"=some (some (.ref f))
 fn:PySem.W.isFn K (.ref f)=true
 kp:PySem.W.keepIn K (.ref C)=true
theorem Bz{pins:List (Addr×Obj)}{σ:St}{H:Hp}{s:Shared}{Q:VK}{us:List Value}{vs:List V}(M:Mk X.K C f)(F:cg X.prog X.w X.K X.mg X.base CX k f fd ps sp)(hr:dr (k+1) X.A)(hb:Binds X.K fd ps ds)(hd:Vals dvs ds)
  (hx:Passes CX X E)(I:Inv X pins σ H s)(r:Vals vs us)
  (h:∀x dx,H x=none->H dx=none->dx≠x->sp (.ref x::(vs++dvs)) (upd (upd H dx (.own x)) x (.ins C dx [])) (fun v H2=>v= .d0/\Q (.ref x) H2) E):
  wpAny (model X.prog X.w) X.A (call (.ref C) us) (EP X pins σ Q) X.xe s:=by
 have hq:=h (s.heap.objs.size+1) s.heap.objs.size (I.cx.fresh (Nat.le_succ _)) (I.cx.fresh (Nat.le_refl _)) (Nat.ne_of_lt (Nat.lt_succ_self _))
 have I2:=Inv.made (C:=C) I
 have r2:Vals (V.ref (s.heap.objs.size+1)::(vs++dvs)) (Value.ref (s.heap.objs.size+1)::(us++ds)):= .cons rfl (r.append hd)
 have hl:(Value.ref (s.heap.objs.size+1)::us++ds).length=ps.length:=by
  have e:=r2.length
  rw[F.len _ _ _ _ hq] at e
  exact e.symm
 refine wpAny_call (Cg (f:=f) I.nu M.makes M.init (beq_iff_eq.mp M.fn) (codeAny_mono (F.run _ X.stack _ _ ⟨Value.ref (s.heap.objs.size+1)::us,[]⟩ (Value.ref (s.heap.objs.size+1)::(us++ds)) _ _ E (hr.make C us [])
  (I2.Me.make C us []) (hb _ (Value.ref (s.heap.objs.size+1)::us) I2.nu hl) r2 hq) fun r s' LB=>?_))
 cases r with
 |error e=>exact hx pins σ _ _ e s' I2 LB
 |ok fl=>
  cases fl with
  |ret u=>
   obtain⟨v,H',I3,rv,ev,q3⟩:=I2.after LB
   subst ev
   exact⟨rv,⟨V.ref (s.heap.objs.size+1),H',I3,rfl,q3⟩⟩
  |next=>exact False.elim LB
  |brk=>exact False.elim LB
  |cont=>exact False.elim LB
theorem Ei(M:Mk X.K C f)(F:cg X.prog X.w X.K X.mg X.base CX k f fd ps sp)(hr:dr (k+1) X.A)(hg:Gl X x)(hm:X.mg x=some (.ref C))(hb:Binds X.K fd ps ds)(hd:Vals dvs ds)(hx:Passes CX X E)
  (ha:PA X (e::es) t)(vL:(x==("__debug__":Str))=false:=by decide)(he:starEach (e::es) X.env=(false,eval e X.env)::starEach es X.env:=by rfl)(mm:(backTo pos (starEach es X.env)).any (·.1)=false:=by rfl):
  PE X (.Call (.Name x p) (e::es) [] pos) (FK C sp dvs E t):=by
 intro pins s σ H Q I h
 refine wpAny_Call_Name_kw (p8 I hg hm ?_ vL)
 refine PySem.W.callWith_K (h₀:=X.base) I.ok.mod.HW M.kp (dB (ha pos pins s σ H _ I h) fun us s1 ⟨vs,H1,I1,r,q⟩=>⟨I1.nu,?_⟩) he mm
 exact Bz M F hr hb hd hx I1 r q
end
section
variable {X:Cx}{CX:mB}{k:Nat}{f C:Addr}{fd:FuncData}{ps ks:List Str}{sp:Sp}{E:XK}{x m:Str}{p pos apos XE:Pos}{e o:Expr}{es:List Expr}{kws:List Keyword}{te ta:TE}{t tk:TA}{nm:Option Str}
variable {g:List Value->List Value->List Value}{gV:List V->List V->List V}
end
structure a8(N P:List Str)(sc:Scope):Prop where
 kind:sc.kind= .function
 co:sc.isCoroutine=false
 gen:sc.isGenerator=false
 nd:N.Nodup
 pre:N.take P.length=P
 par:∀x∈P,sc.names.lookup x=some .local ∨ sc.names.lookup x=some .cell
 HC:∀y∈sc.names,y.2≠ .free
theorem sU{kindOf:Str->Option NameKind}{x:Str}:∀{binds:List (Str×Value)}{m:Str->Option Value},(∀v,(x,v)∉binds)->bindL kindOf binds m x=m x
 |[],_,_=>rfl
 | (n,v)::r,m,h=>by
  unfold bindL
  rw[sU fun w hw=>h w (List.mem_cons_of_mem _ hw)]
  split
  ·have:x≠n:=by rintro rfl;exact h v List.mem_cons_self
   simp[this]
  ·rfl
theorem sW{kindOf:Str->Option NameKind}{x:Str}:∀{binds:List (Str×Value)}{m:Str->Option Value},(∀v,(x,v)∉binds)->bindC kindOf binds m x=m x
 |[],_,_=>rfl
 | (n,v)::r,m,h=>by
  unfold bindC
  rw[sW fun w hw=>h w (List.mem_cons_of_mem _ hw)]
  split
  ·rfl
  ·have:x≠n:=by rintro rfl;exact h v List.mem_cons_self
   simp[this]
theorem sV{kindOf:Str->Option NameKind}{x:Str}{v:Value}:∀{P:List Str}{vs:List Value}{i:Nat}{m:Str->Option Value},P.Nodup->P[i]? =some x->vs[i]? =some v->kindOf x=some .local->
  bindL kindOf (P.zip vs) m x=some v
 |[],_,_,_,_,h,_,_=>by simp at h
 |_::_,[],_,_,_,_,h,_=>by simp at h
 |p::P,w::vs,0,m,nd,h1,h2,hk=>by
  simp at h1 h2;subst h1;subst h2
  show bindL kindOf ((p,w)::P.zip vs) m p=_
  unfold bindL
  rw[sU fun v hv=>(List.nodup_cons.mp nd).1 (List.of_mem_zip hv).1,if_pos hk]
  simp
 |p::P,w::vs,i+1,m,nd,h1,h2,hk=>by
  show bindL kindOf ((p,w)::P.zip vs) m x=_
  unfold bindL
  exact sV (i:=i) (List.nodup_cons.mp nd).2 (by simpa using h1) (by simpa using h2) hk
theorem sX{kindOf:Str->Option NameKind}{x:Str}{v:Value}:∀{P:List Str}{vs:List Value}{i:Nat}{m:Str->Option Value},P.Nodup->P[i]? =some x->vs[i]? =some v->kindOf x≠some .local->
  bindC kindOf (P.zip vs) m x=some v
 |[],_,_,_,_,h,_,_=>by simp at h
 |_::_,[],_,_,_,_,h,_=>by simp at h
 |p::P,w::vs,0,m,nd,h1,h2,hk=>by
  simp at h1 h2;subst h1;subst h2
  show bindC kindOf ((p,w)::P.zip vs) m p=_
  unfold bindC
  rw[sW fun v hv=>(List.nodup_cons.mp nd).1 (List.of_mem_zip hv).1,if_neg hk]
  simp
 |p::P,w::vs,i+1,m,nd,h1,h2,hk=>by
  show bindC kindOf ((p,w)::P.zip vs) m x=_
  unfold bindC
  exact sX (i:=i) (List.nodup_cons.mp nd).2 (by simpa using h1) (by simpa using h2) hk
def start(N:List Str)(vs:List V):St:=vs.map some++List.replicate (N.length - vs.length) none
def xP(CX:mB)(P:Program)(w:World)(K:W.Frag)(mg:Str->Option Value)(base:Heap)(N:List Str)(qual:Str)(scope:Scope)(f:Addr)(cd:Value)(A:Around)(outer:List Env)(s:Shared)(H:Hp)(E:XK):Cx where
 prog:=P
 w:=w
 K:=K
 mg:=mg
 base:=base
 A:=A.deeper (envOfC qual scope s.heap.objs.size f cd)
 N:=N
 s₀:=s
 H₀:=H
 env:=envOfC qual scope s.heap.objs.size f cd
 outer:=outer
 stack:=envOfC qual scope s.heap.objs.size f cd::outer
 ex:=[]
 calm:=true
 fn:=fun _=>true
 pn:=[]
 xe:=fun e s'=>wpAny (model P w) (A.deeper (envOfC qual scope s.heap.objs.size f cd)) (leaving (envOfC qual scope s.heap.objs.size f cd) e) (fun _ Hf=>CX outer H s E e Hf) (fun e' Hf=>CX outer H s E e' Hf) s'
theorem vZ{sc:Scope}{n:Nat}{x:Str}(h:sc.names.lookup x=some .cell):∃c,(cellsFrom n sc.names []).lookup x=some c:=by
 have q:=PySem.W.cellsFrom_some sc.names n [] (.inl h)
 exact Option.isSome_iff_exists.mp q
theorem Ar{CX:mB}{P:Program}{w:World}{K:W.Frag}{mg:Str->Option Value}{base:Heap}{N ps:List Str}{qual:Str}{scope:Scope}{f:Addr}{cd:Value}{A:Around}{outer:List Env}{s s1:Shared}{H:Hp}{E:XK}{us:List Value}{vs:List V}
  (S:a8 N ps scope)(hd:A.handled=none)(e0:pO P w K mg base A outer s H)(hl:vs.length=ps.length)(r:Vals vs us)
  (x:InCallC s s.heap.objs.size (bindL (envOfC qual scope s.heap.objs.size f cd).kindOf (ps.zip us) fun _=>none) (cellsFrom (s.heap.objs.size+1) scope.names []) (bindC (envOfC qual scope s.heap.objs.size f cd).kindOf (ps.zip us) fun _=>none) s1):
  Inv (xP CX P w K mg base N qual scope f cd A outer s H E) [] (start N vs) H s1:=by
 have mm:ps.length<=N.length:=by have:=congrArg List.length S.pre;rw[List.length_take] at this;omega
 obtain⟨h1,tk,rfl,hk⟩:=x.done
 have EE:∀b:Addr,b∉(xP CX P w K mg base N qual scope f cd A outer s H E).ex:=fun b z=>absurd (show b∈([]:List Addr) from z) (by simp)
 refine⟨⟨e0.mod,S.kind,rfl,rfl,Nat.le_refl _,fun y z c h1 h2=>?_,fun y hy=>?_,fun y c _ h=>?_,fun _=>hd,Around.frames_deeper e0.frames,.inr ⟨rfl,rfl⟩,fun b z=>absurd z (EE b),e0.bs,e0.Bh,fun b _ _=>EE b,fun b z=>absurd z (EE b),e0.lH,e0.DM⟩,
  rfl,e0.bare,Un.kept hk,⟨_,x.toInCall.ns,fun i y v h1 h2 h3=>?_⟩,fun y c h=>⟨_,x.cell y c h⟩,e0.cx.fresh (Nat.le_refl _),fun y c h=>?_,fun p hp=>absurd (show p∈([]:List (Addr×Obj)) from hp) (by simp),e0.cx.kept hk,?_⟩
 ·exact name_of_addr x.apart (PySem.mem_of_lookup h1) (PySem.mem_of_lookup h2)
 ·have hy:scope.names.lookup y=some .cell ∨ scope.names.lookup y=some .free:=hy
  rcases hy with hy|hy
  ·exact vZ hy
  ·exact absurd rfl (S.HC _ (PySem.mem_of_lookup hy))
 ·exact Nat.le_of_lt (x.above y c (PySem.mem_of_lookup h))
 ·have hi:i < vs.length:=by
   unfold start at h2
   by_cases hi:i < vs.length
   ·exact hi
   ·rw[List.getElem?_append_right (by simpa using hi)] at h2
    rw[List.getElem?_replicate] at h2
    split at h2<;>cases h2
  have ha:vs[i]? =some v:=by
   unfold start at h2
   rw[List.getElem?_append_left (by simpa using hi),List.getElem?_map] at h2
   cases e:vs[i]? with
   |none=>rw[e] at h2;cases h2
   |some a=>rw[e] at h2;cases h2;rfl
  obtain⟨u,hu,rv⟩:=r.get ha
  have hp:ps[i]? =some y:=by
   rw[<-S.pre,List.getElem?_take_of_lt (by omega)];exact h1
  have Ny:ps.Nodup:=by rw[<-S.pre];exact S.nd.sublist (List.take_sublist _ _)
  refine⟨u,rv,?_⟩
  rcases S.par y (List.mem_of_getElem? hp) with k|k
  ·exact .inl ⟨k,sV Ny hp hu k⟩
  ·obtain⟨c,e⟩:=vZ (n:=s.heap.objs.size+1) k
   refine .inr ⟨.inl k,c,e,?_⟩
   have q:=x.cell y c e
   rw[sX Ny hp hu (by show scope.names.lookup y≠_;rw[k];decide)] at q
   exact q
 ·exact e0.cx.fresh (Nat.le_of_lt (x.above y c (PySem.mem_of_lookup h)))
 ·unfold start
  show _=N.length
  rw[List.length_append,List.length_map,List.length_replicate]
  omega
theorem GH{CX:mB}{P:Program}{w:World}{K:W.Frag}{mg:Str->Option Value}{base:Heap}{k:Nat}{f:Addr}{name qual:Str}{params:Arguments}{body:List Stmt}{scope:Scope}{dV kV doc pm fx ct oc:Value}{an od:Option Addr}
  {BY:Array (Option Value)}{N ps:List Str}{sp:Sp}(lk:K.lookup f=some ⟨oc,od,.func (PySem.W.fnOf name qual params body scope dV kV doc pm an fx ct),BY⟩)(rQ:PySem.W.codeIn K fx qual=true)(S:a8 N ps scope)
  (len:∀vs H Q E,sp vs H Q E->vs.length=ps.length)
  (nD:∀(A:Around) (outer:List Env) (s:Shared) (H:Hp) (vs:List V) (Q:VK) (E:XK),dr k (A.deeper (envOfC qual scope s.heap.objs.size f fx))->sp vs H Q E->
   ∃t,nZ (xP CX P w K mg base N qual scope f fx A outer s H E) body t/\t {nx:=fun _ H'=>Q .d0 H',rt:=Q} (start N vs) H):
  cg P w K mg base CX (k+1) f (PySem.W.fnOf name qual params body scope dV kV doc pm an fx ct) ps sp:=by
 refine⟨len,fun A outer s H args us vs Q E hr e0 hb r gx=>?_⟩
 have hl:=len _ _ _ _ gx
 have KX:K.In s.heap:=e0.mod.HW.keeps fun b o e=>(e0.bs b o e).1
 have lim:s.heap.NoLimit:=e0.mod.nolimit.keeps fun b o e=>(e0.bs b o e).1
 have LP:∀y∈ps.zip us,scope.names.lookup y.1=some .local ∨ (scope.names.lookup y.1=some .cell/\((cellsFrom (s.heap.objs.size+1) scope.names []).lookup y.1).isSome=true):=fun⟨n,v⟩ hy=>by
  rcases S.par n (List.of_mem_zip hy).1 with q|q
  ·exact .inl q
  ·exact .inr ⟨q,PySem.W.cellsFrom_some _ _ _ (.inl q)⟩
 refine codeAny_call_function hr.depth (KX _ _ lk) rfl S.co S.gen rfl (PySem.W.codeRec_of KX rQ) (hb _ _ _ _ ?_)
 refine wpAny_newFunctionEnv_cells S.kind LP fun env he s1 x=>?_
 subst he
 refine⟨lim.keeps x.toInCall.keep,codeAny_func ?_⟩
 obtain⟨t,ht,hq⟩:=nD A outer s H vs Q E (hr.deeper _) gx
 have I:Inv (xP CX P w K mg base N qual scope f fx A outer s H E) [] (start N vs) H s1:=Ar S hr.hd e0 hl r x
 refine wpAny_mono (ht [] s1 (start N vs) H _ I hq) (fun fl s' hs=>?_) fun e s' hs=>hs
 have fin:∀{σ':St}{H':Hp}{v:V}{u:Value},Inv (xP CX P w K mg base N qual scope f fx A outer s H E) [] σ' H' s'->RelV v u->Q v H'->CE outer P w H s Q u s':=
  fun {σ' H' v u} J rv q=>⟨v,H',J.os,J.bare,J.base,J.cx,rv,q⟩
 cases fl with
 |ret u=>
  obtain⟨v,σ',H',J,rv,q⟩:=hs
  exact fin J rv q
 |next=>
  obtain⟨σ',H',J,q⟩:=hs
  exact fin (v:=V.d0) (u:=Value.none) J rfl q
 |brk=>
  obtain⟨_,_,_,q⟩:=hs
  exact False.elim q
 |cont=>
  obtain⟨_,_,_,q⟩:=hs
  exact False.elim q
end L2
namespace L2
open PySem PySem.Spec PyProof.Rows
section
variable {X:Cx}{x:Str}{p pos:Pos}{e:Expr}{es:List Expr}{t:TA}{id T:String}{r:List V->Hp->VK->Prop}
def Nk(r:List V->Hp->VK->Prop)(t:TA):TE:=fun σ H Q=>t σ H fun vs H1=>r vs H1 Q
theorem BX(hc:cE X (.builtin id) r)(hg:Gl X x)(hm:X.mg x=none)(hv:bootBuiltins x=some (.builtin id))(ha:PA X (e::es) t)(hn:x≠"__name__":=by decide)(vL:(x==("__debug__":Str))=false:=by decide)
  (he:starEach (e::es) X.env=(false,eval e X.env)::starEach es X.env:=by rfl)(mm:(backTo pos (starEach es X.env)).any (·.1)=false:=by rfl):PE X (.Call (.Name x p) (e::es) [] pos) (Nk r t):=by
 intro pins s σ H Q I h
 refine wpAny_Call_Name_kw (iB I hg hm hv ?_ hn vL)
 exact PyProof.Rows.callWith_builtin1 (dB (ha pos pins s σ H _ I h) fun us s1 ⟨vs,H1,I1,r1,q1⟩=>hc pins s1 σ H1 vs us Q I1 r1 q1) he mm
theorem zQ(hc:cE X (.type T) r)(hg:Gl X x)(hm:X.mg x=none)(hv:bootBuiltins x=some (.type T))(ha:PA X (e::es) t)(hn:x≠"__name__":=by decide)(vL:(x==("__debug__":Str))=false:=by decide)
  (he:starEach (e::es) X.env=(false,eval e X.env)::starEach es X.env:=by rfl)(mm:(backTo pos (starEach es X.env)).any (·.1)=false:=by rfl):PE X (.Call (.Name x p) (e::es) [] pos) (Nk r t):=by
 intro pins s σ H Q I h
 refine wpAny_Call_Name_kw (iB I hg hm hv ?_ hn vL)
 exact PyProof.Rows.callWith_type1 (dB (ha pos pins s σ H _ I h) fun us s1 ⟨vs,H1,I1,r1,q1⟩=>hc pins s1 σ H1 vs us Q I1 r1 q1) he mm
end
end L2
namespace HT
open PySem PyProof.Rows
section
open PySem.SeqAt
open PySem.AutoSeq1 (wpAny_loadPart')
open PySem.MeetsSeq PySem.MeetsSeq2 PySem.MeetsSeq3
end
section
variable {prog:Program}{w:World}{A:Around}{E:Value->Shared->Prop}{s:Shared}
def fD(n d:Nat):Option Int->Nat
 |none=>d
 |some v=>if v < 0 then (v+(n:Int)).toNat else min v.toNat n
theorem yn(n d k:Nat):fD n d (some (k:Int))=min k n:=by
 show(if (k:Int) < 0 then ((k:Int)+(n:Int)).toNat else min (k:Int).toNat n)=min k n
 rw[if_neg (by omega),Int.toNat_natCast]
theorem Hd(n d:Nat)(hd:d<=n)(o:Option Int):fD n d o<=n:=by
 cases o with
 |none=>exact hd
 |some v=>
  show(if v < 0 then (v+(n:Int)).toNat else min v.toNat n)<=n
  by_cases hv:v < 0
  ·rw[if_pos hv];omega
  ·rw[if_neg hv];exact Nat.min_le_right _ _
theorem zh(v:Int)(n d:Nat):(if v < 0 then max (v+(n:Int)) 0 else min v (n:Int))=((fD n d (some v):Nat):Int):=by
 show(if v < 0 then max (v+(n:Int)) 0 else min v (n:Int))=(((if v < 0 then (v+(n:Int)).toNat else min v.toNat n):Nat):Int)
 by_cases hv:v < 0
 ·simp only[if_pos hv];omega
 ·simp only[if_neg hv];omega
theorem xV(lo hi:Option Int)(n:Nat):Builtin.Slice.sliceAdjust lo hi 1 (n:Int)=(((fD n 0 lo:Nat):Int),((fD n n hi:Nat):Int)):=by
 have h1:¬((1:Int) < 0):=by omega
 unfold Builtin.Slice.sliceAdjust
 simp only[h1,if_false]
 refine Prod.ext ?_ ?_
 ·cases lo with
  |none=>rfl
  |some v=>exact zh v n 0
 ·cases hi with
  |none=>rfl
  |some v=>exact zh v n n
theorem xg(i j:Nat):Builtin.Slice.slicePlaces (i:Int) (j:Int) 1=j - i:=by
 unfold Builtin.Slice.slicePlaces
 have h1:(1:Int) > 0:=by omega
 simp only[h1,if_true,Int.ediv_one]
 split<;>omega
theorem qH{v:Value}{o:Option Int}{Q:Option Int->Shared->Prop}(p:IsPart v o)(h:Q o s):wpAny (model prog w) A (Builtin.Slice.slicePartIndex v) Q E s:=by
 cases p with
 |none=>exact slicePart_none h
 |int i t=>exact slicePart_int h
theorem oC{sl:Addr}{vl vu:Value}{lo hi:Option Int}{n:Nat}{Q:Int×Int×Nat->Shared->Prop}(hs:s.heap.IsSliceOf sl vl vu .none)(pl:IsPart vl lo)(pu:IsPart vu hi)
  (h:Q (((fD n 0 lo:Nat):Int),1,fD n n hi - fD n 0 lo) s):wpAny (model prog w) A (Builtin.Slice.sliceApplied (.ref sl) (pure (n:Int))) Q E s:=by
 obtain⟨os,LF,JW,NQ⟩:=id hs
 unfold Builtin.Slice.sliceApplied Builtin.Slice.sliceFields
 refine wpAny_bind (wpAny_bind (wpAny_field LF NQ (x:=vl) rfl (wpAny_bind (wpAny_field LF NQ (x:=vu) rfl (wpAny_bind (wpAny_field LF NQ (x:= .none) rfl (wpAny_pure ?_)))))))
 refine wpAny_bind (slicePart_none ?_)
 show wpAny _ _ (if ((1:Int)==0)=true then _ else _) _ _ s
 rw[if_neg (by decide)]
 refine wpAny_bind (qH pl (wpAny_bind (qH pu (wpAny_bind (wpAny_pure ?_)))))
 show wpAny _ _ (match Builtin.Slice.sliceAdjust lo hi 1 (n:Int) with| (lo,hi)=>pure (lo,(1:Int),Builtin.Slice.slicePlaces lo hi 1)) _ _ s
 rw[xV lo hi n]
 show wpAny _ _ (pure (((fD n 0 lo:Nat):Int),(1:Int),Builtin.Slice.slicePlaces ((fD n 0 lo:Nat):Int) ((fD n n hi:Nat):Int) 1)) _ _ s
 rw[xg]
 exact wpAny_pure h
theorem BP(xs:Array Value)(i k:Nat):((List.range k).filterMap fun(m:Nat)=>xs[((i:Int)+(m:Int)*1).toNat]?).toArray=((xs.toList.drop i).take k).toArray:=by
 have e:(fun(m:Nat)=>xs[((i:Int)+(m:Int)*1).toNat]?)=fun m=>xs[i+m]? :=by
  funext m
  have:((i:Int)+(m:Int)*1).toNat=i+m:=by omega
  rw[this]
 rw[e]
 have:=pick_run xs i k
 rw[List.filterMap_map] at this
 have e2:((fun x=>xs[x]?)∘fun x=>i+x)=fun m=>xs[i+m]? :=rfl
 rw[e2] at this
 rw[this]
theorem nF{t sl:Addr}{items:Array Value}{vl vu:Value}{lo hi:Option Int}{Q:Value->Shared->Prop}(ht:IsTup s.heap t items)(hs:s.heap.IsSliceOf sl vl vu .none)(pl:IsPart vl lo)(pu:IsPart vu hi)
  (hw:¬(fD items.size 0 lo=0/\fD items.size items.size hi=items.size))
  (h:Q (.ref s.heap.objs.size) {s with heap:=s.heap.push {cls:= .type "tuple",data:= .seq ((items.toList.drop (fD items.size 0 lo)).take (fD items.size items.size hi - fD items.size 0 lo)).toArray}})
  (hsz:items.size<=sizeLine):wpAny (model prog w) A (getItem (.ref t) (.ref sl)) Q E s:=by
 have yN:sizeOk (.seq ((items.toList.drop (fD items.size 0 lo)).take (fD items.size items.size hi - fD items.size 0 lo)).toArray):=by
  show((items.toList.drop (fD items.size 0 lo)).take (fD items.size items.size hi - fD items.size 0 lo)).toArray.size<=sizeLine
  rw[List.size_toArray,List.length_take,List.length_drop,Array.length_toList]
  omega
 have hj:fD items.size items.size hi<=items.size:=Hd _ _ (Nat.le_refl _) hi
 obtain⟨os,LF,JW,NQ⟩:=id hs
 have YE:s.TypeIs (.ref sl) "slice":=⟨os,LF,JW⟩
 unfold getItem
 try with_reducible refine wpAny_holding ?_
 first|refine wpAny_bind (wpAny_pure ?_)|skip
 refine wpAny_bind (wpAny_sequenceKey ht.typeIs (by decide) ?_)
 refine wpAny_bind (wpAny_callSpecial?_slot (name:=Str.ofString "__getitem__") ht.typeIs PyProof.Rows.slot_tuple_getitem
  (wpAny_call_entry PyProof.Rows.slot_tuple_getitem ht.typeIs entry_tuple_getitem ?_ (args_tuple_getitem _ _)))
 show wpAny _ _ (Builtin.Tuple.tupleItemsOf (.ref t) >>= _) _ _ s
 refine wpAny_bind (tupleItemsOf_ ht ?_)
 refine wpAny_bind (wpAny_typeOf YE ?_)
 rw[if_pos (by decide)]
 refine wpAny_bind (oC hs pl pu ?_)
 have uT:¬((((fD items.size 0 lo:Nat):Int)==0&&(1:Int)==1&&(fD items.size items.size hi - fD items.size 0 lo)==items.size)=true):=by
  intro q
  rw[Bool.and_eq_true,Bool.and_eq_true] at q
  have q1:((fD items.size 0 lo:Nat):Int)=0:=eq_of_beq q.1.1
  have q2:fD items.size items.size hi - fD items.size 0 lo=items.size:=eq_of_beq q.2
  exact hw ⟨by omega,by omega⟩
 show wpAny _ _ (if (((fD items.size 0 lo:Nat):Int)==0&&(1:Int)==1&&(fD items.size items.size hi - fD items.size 0 lo)==items.size)=true then _ else _) _ _ s
 rw[if_neg uT,BP]
 first
  |exact wpAny_bind (m:=Builtin.Tuple.tupleExact _) (wpAny_newObj_type (wpAny_pure ⟨_,rfl,wpAny_pure h⟩) yN)
  |exact wpAny_bind (m:=Builtin.Tuple.tupleExact _) (wpAny_newObj_type (wpAny_bind (wpAny_pure (wpAny_pure ⟨_,rfl,wpAny_pure h⟩))) yN)
  |exact wpAny_bind (wpAny_bind (m:=Builtin.Tuple.tupleExact _) (wpAny_newObj_type (wpAny_pure (wpAny_pure ⟨_,rfl,wpAny_pure h⟩)) yN))
  |exact wpAny_bind (wpAny_bind (m:=Builtin.Tuple.tupleExact _) (wpAny_newObj_type (wpAny_pure ⟨_,rfl,wpAny_pure h⟩) yN))
end
end HT
namespace L2
open PySem PySem.Spec PyProof.Rows
abbrev TO:=St->Hp->(Option Int->Hp->Prop)->Prop
def PO(X:Cx)(e:Option Expr)(t:TO):Prop:=
 ∀(pins:List (Addr×Obj)) (s:Shared) (σ:St) (H:Hp) (Q:Option Int->Hp->Prop),Inv X pins σ H s->t σ H Q->
  wpAny (model X.prog X.w) X.A (evalPart e X.env) (fun u s'=>∃o H',Inv X pins σ H' s'/\IsPart u o/\Q o H') X.xe s
def DV:TO:=fun _ H Q=>Q none H
inductive Ji(x:V)(H1:Hp)(Q:Option Int->Hp->Prop):Prop where
 |mk(i:_)(c1:x= .int i)(c2:Q (some i) H1)
def Kb(t:TE):TO:=fun σ H Q=>t σ H fun x H1=>Ji x H1 Q
theorem intsAre_of{ns:List Int}:∀{us:List Value},Vals (ns.map V.int) us->IntsAre us ns:=by
 induction ns with
 |nil=>intro us r;rw[List.map_nil] at r;cases r;exact .nil
 |cons n ns ih=>
  intro us r
  rw[List.map_cons] at r
  cases r with
  |cons r1 r2=>
   obtain⟨t,e⟩:=r1
   subst e
   exact .cons n t (ih r2)
section
variable {X:Cx}{e:Expr}{te:TE}{lo hi:Option Expr}{tl th:TO}{pos p2:Pos}
theorem yq:PO X none DV:=by
 intro pins s σ H Q I h
 rw[evalPart_none]
 exact wpAny_pure ⟨none,H,I,.none,h⟩
theorem pX(h:PE X e te):PO X (some e) (Kb te):=by
 intro pins s σ H Q I hw
 rw[evalPart_some]
 refine dB (h pins s σ H _ I hw) fun u s1 ⟨x,H1,I1,r1,q1⟩=>?_
 obtain⟨i,rfl,q⟩:=q1
 obtain⟨t,rfl⟩:=r1
 exact⟨some i,H1,I1,.int i t,q⟩
def rR(X:Cx)(r:V->Option Int->Option Int->Hp->VK->Prop):Prop:=
 ∀(pins:List (Addr×Obj)) (s:Shared) (σ:St) (H:Hp) (x:V) (v vl vu:Value) (lo hi:Option Int) (sl:Addr) (Q:VK),Inv X pins σ H s->RelV x v->s.heap.IsSliceOf sl vl vu .none->IsPart vl lo->IsPart vu hi->r x lo hi H Q->
  ∃T id,typeLookup (.type T) "__getitem__"=pure (some (.builtin id))/\s.TypeIs v T/\wpAny (model X.prog X.w) X.A (getItem v (.ref sl)) (EP X pins σ Q) X.xe s
theorem rR.or{r r':V->Option Int->Option Int->Hp->VK->Prop}(h:rR X r)(h':rR X r'):rR X (fun x lo hi H Q=>r x lo hi H Q ∨ r' x lo hi H Q):=by
 intro pins s σ H x v vl vu lo hi sl Q I rx hs pl pu q
 rcases q with q|q
 ·exact h pins s σ H x v vl vu lo hi sl Q I rx hs pl pu q
 ·exact h' pins s σ H x v vl vu lo hi sl Q I rx hs pl pu q
def V4(r:V->Option Int->Option Int->Hp->VK->Prop)(te:TE)(tl th:TO):TE:=fun σ H Q=>te σ H fun x H1=>tl σ H1 fun l H2=>th σ H2 fun u H3=>r x l u H3 Q
theorem qM{r:V->Option Int->Option Int->Hp->VK->Prop}(hr:rR X r)(he:PE X e te)(hl:PO X lo tl)(hu:PO X hi th):PE X (.Subscript e (.Slice lo hi none p2) pos) (V4 r te tl th):=by
 intro pins s σ H Q I h
 refine Subscript_ (dB (he pins s σ H _ I h) fun v s1 ⟨x,H1,I1,r1,q1⟩=>?_)
 refine wpAny_Slice (dB (hl pins s1 σ H1 _ I1 q1) fun vl s2 ⟨l,H2,I2,pl,q2⟩=>dB (hu pins s2 σ H2 _ I2 q2) fun vu s3 ⟨u,H3,I3,pu,q3⟩=>?_)
 rw[evalPart_none]
 refine wpAny_pure ?_
 have I4:Inv X pins σ H3 {s3 with heap:=s3.heap.push {cls:= .type "slice",data:= .fields #[vl,vu,.none]}}:=I3.kept (t':=s3.toks) fun b ob q=>Heap.get?_push_of_some _ q
 obtain⟨T,id,hT,ht,hg⟩:=hr pins {s3 with heap:=s3.heap.push {cls:= .type "slice",data:= .fields #[vl,vu,.none]}} σ H3 x v vl vu l u s3.heap.objs.size Q I4 r1 (Heap.IsSliceOf.new ..) pl pu q3
 show wpAny (model X.prog X.w) X.A (subscriptTail e (.Slice lo hi none p2) v (.ref s3.heap.objs.size)) (EP X pins σ Q) X.xe {s3 with heap:=s3.heap.push {cls:= .type "slice",data:= .fields #[vl,vu,.none]}}
 exact tail_any (ops:=[.ref s3.heap.objs.size,v]) ht hT hg (by with_unfolding_all rfl)
def mr(xs:List V)(lo hi:Option Int):List V:=(xs.drop (HT.fD xs.length 0 lo)).take (HT.fD xs.length xs.length hi - HT.fD xs.length 0 lo)
theorem pw(xs:List V)(lo hi:Option Int):(mr xs lo hi).length<=xs.length:=by
 unfold mr
 rw[List.length_take,List.length_drop]
 omega
inductive MQ(K:W.Frag)(x:V)(lo:Option Int)(hi:Option Int)(H:Hp)(Q:VK):Prop where
 |mk(a:_)(xs:_)(c1:x= .ref a)(c2:aS K H a xs)(c3:¬(HT.fD xs.length 0 lo=0/\HT.fD xs.length xs.length hi=xs.length))(c4:∀p,H p=none->Q (.ref p) (upd H p (.tup (mr xs lo hi))))
def OP(K:W.Frag):V->Option Int->Option Int->Hp->VK->Prop:=fun x lo hi H Q=>MQ K x lo hi H Q
theorem Bx:rR X (OP X.K):=by
 intro pins s σ H x v vl vu lo hi sl Q I rx hs pl pu h
 obtain⟨a,xs,rfl,hx,hw,q⟩:=h
 cases rx
 obtain⟨aN,r,ht,hz⟩:=I.tuple hx
 have hlen:aN.toArray.size=xs.length:=by rw[List.size_toArray];exact r.length.symm
 refine⟨"tuple",_,PyProof.Rows.slot_tuple_getitem.lookup,ht.typeIs,?_⟩
 refine HT.nF ht hs pl pu (by rw[hlen];exact hw) ?_ (by rw[hlen];exact hz)
 rw[hlen]
 refine⟨.ref s.heap.objs.size,_,I.laid (t':=s.toks) (o:= .tup (mr xs lo hi)) (fun b ob q=>Heap.get?_push_of_some _ q) (Nat.le_refl _) ?_,rfl,q _ (I.cx.fresh (Nat.le_refl _))⟩
 exact⟨Nat.le_trans (pw xs lo hi) hz,_,(r.drop (HT.fD xs.length 0 lo)).take (HT.fD xs.length xs.length hi - HT.fD xs.length 0 lo),IsTup.new _ _⟩
end
end L2
namespace L2
open PySem PySem.Spec PyProof.Rows
def EU(n:Nat)(i:Int):Option Nat:=if 0<=i then (if i < n then some i.toNat else none) else if -(n:Int)<=i then some (i+n).toNat else none
def uU{α:Type}(xs:List α)(i:Int):Option α:=(EU xs.length i).bind fun j=>xs[j]?
theorem ET{n:Nat}{i:Int}{j:Nat}(h:EU n i=some j):seqIndex? i n=some j/\j < n/\ -(n:Int)<=i/\i < n:=by
 unfold EU at h
 by_cases h0:0<=i
 ·rw[if_pos h0] at h
  by_cases h1:i < n
  ·rw[if_pos h1] at h
   have e:i.toNat=j:=Option.some.inj h
   exact⟨by rw[seqIndex_of h0 h1,e],by omega,by omega,h1⟩
  ·rw[if_neg h1] at h;cases h
 ·rw[if_neg h0] at h
  by_cases h1: -(n:Int)<=i
  ·rw[if_pos h1] at h
   have e:(i+n).toNat=j:=Option.some.inj h
   exact⟨by rw[seqIndex_neg (by omega) h1,e],by omega,h1,by omega⟩
  ·rw[if_neg h1] at h;cases h
theorem uG{α:Type}{xs:List α}{i:Int}{v:α}(h:uU xs i=some v):∃j,seqIndex? i xs.length=some j/\xs[j]? =some v/\j < xs.length/\ -(xs.length:Int)<=i/\i < xs.length:=by
 unfold uU at h
 cases e:EU xs.length i with
 |none=>rw[e] at h;cases h
 |some j=>
  rw[e] at h
  obtain⟨h1,h2,h3,h4⟩:=ET e
  exact⟨j,h1,h,h2,h3,h4⟩
theorem jE{α:Type}{xs:List α}{j:Nat}{v:α}(h:xs[j]? =some v):uU xs (j:Int)=some v:=by
 have hj:j < xs.length:=(List.getElem?_eq_some_iff.mp h).1
 have e:EU xs.length (j:Int)=some j:=by
  unfold EU
  rw[if_pos (by omega),if_pos (by omega)];simp
 unfold uU;rw[e];exact h
theorem nU{α:Type}(xs:List α)(v:α):uU (xs++[v]) (-1)=some v:=by
 have hl:(xs++[v]).length=xs.length+1:=by simp
 have e:EU (xs++[v]).length (-1)=some xs.length:=by
  unfold EU
  rw[hl,if_neg (by decide),if_pos (by omega)]
  congr 1
  omega
 unfold uU
 rw[e]
 show(xs++[v])[xs.length]? =some v
 simp
def Fu(b:Expr):Prop:=∀o i,subscripted b false o i=operate [o,i] (getItem o i)
def rS(X:Cx)(r:R2):Prop:=
 ∀(value slice:Expr) (pins:List (Addr×Obj)) (s:Shared) (σ:St) (H:Hp) (x y:V) (v u:Value) (Q:VK),Inv X pins σ H s->RelV x v->RelV y u->r x y H Q->
  subscripted slice false v u=operate [v,u] (getItem v u)->wpAny (model X.prog X.w) X.A (subscriptTail value slice v u) (EP X pins σ Q) X.xe s
def J3(X:Cx)(id:String)(r:V->List V->Hp->VK->Prop):Prop:=
 ∀(pins:List (Addr×Obj)) (s:Shared) (σ:St) (H:Hp) (x:V) (xs:List V) (v:Value) (us:List Value) (Q:VK),Inv X pins σ H s->RelV x v->Vals xs us->r x xs H Q->
  wpAny (model X.prog X.w) X.A (call (.builtin id) (v::us)) (EP X pins σ Q) X.xe s
section
variable {X:Cx}{a b:Expr}{ta tb:TE}{pos:Pos}
theorem rS.or{r r':R2}(h:rS X r)(h':rS X r'):rS X (fun x y H Q=>r x y H Q ∨ r' x y H Q):=by
 intro value slice pins s σ H x y v u Q I rx ry q hs
 rcases q with q|q
 ·exact h value slice pins s σ H x y v u Q I rx ry q hs
 ·exact h' value slice pins s σ H x y v u Q I rx ry q hs
theorem J3.or{id:String}{r r':V->List V->Hp->VK->Prop}(h:J3 X id r)(h':J3 X id r'):J3 X id (fun x xs H Q=>r x xs H Q ∨ r' x xs H Q):=by
 intro pins s σ H x xs v us Q I rx rs q
 rcases q with q|q
 ·exact h pins s σ H x xs v us Q I rx rs q
 ·exact h' pins s σ H x xs v us Q I rx rs q
theorem aD{r:R2}(hr:rS X r)(ha:PE X a ta)(hb:PE X b tb)(hs:Fu b):PE X (.Subscript a b pos) (JK r ta tb):=by
 intro pins s σ H Q I h
 exact Subscript_ (Jd ha hb I h fun v u s2 x y H2 I2 rx ry q=>hr a b pins s2 σ H2 x y v u Q I2 rx ry q (hs _ _))
inductive MV(K:W.Frag)(x:V)(y:V)(H:Hp)(Q:VK):Prop where
 |mk(p:_)(xs:_)(i:_)(v:_)(c1:x= .ref p)(c2:y= .int i)(c3:bp K H p xs)(c4:uU xs i=some v)(c5:Q v H)
def OT(K:W.Frag):R2:=fun x y H Q=>MV K x y H Q
inductive MT(K:W.Frag)(x:V)(y:V)(H:Hp)(Q:VK):Prop where
 |mk(p:_)(xs:_)(i:_)(v:_)(c1:x= .ref p)(c2:y= .int i)(c3:aS K H p xs)(c4:uU xs i=some v)(c5:Q v H)
def Kv(K:W.Frag):R2:=fun x y H Q=>MT K x y H Q
inductive MU(x:V)(y:V)(H:Hp)(Q:VK):Prop where
 |mk(z:_)(i:_)(c:_)(c1:x= .str z)(c2:y= .int i)(c3:z.length<=sizeLine)(c4:uU z.cps.toList i=some c)(c5:Q (.str ⟨#[c]⟩) H)
def OS:R2:=fun x y H Q=>MU x y H Q
theorem ee:rS X (OT X.K):=by
 intro value slice pins s σ H x y v u Q I rx ry h hs
 obtain⟨p,xs,i,z,rfl,rfl,hq,he,q⟩:=h
 cases rx
 obtain⟨t,rfl⟩:=ry
 obtain⟨aN,r,pl,hz⟩:=I.list hq
 obtain⟨j,h1,h2,h3,h4,h5⟩:=uG he
 obtain⟨w,ew,By⟩:=r.get h2
 have hl:=r.length
 have hn:=q8
 have fin:EP X pins σ Q w s:=⟨z,H,I,By,q⟩
 by_cases h0:0<=i
 ·have hj:i.toNat=j:=by
   rw[seqIndex_of h0 h5] at h1
   exact Option.some.inj h1
  exact item_listR pl.isList h0 (by omega) (by rw[hj];simpa using ew) fin hs
 ·have hj:(i+(aN.toArray.size:Int)).toNat=j:=by
   rw[seqIndex_neg (by omega) h4] at h1
   rw[List.size_toArray,<-hl]
   exact Option.some.inj h1
  exact subscriptTail_builtinR (x:=w) pl.isList.typeIs slot_list_getitem.lookup
   (wpAny_getItem_list_neg (Q:=fun r s'=>r=w/\EP X pins σ Q r s') pl.isList (by omega) (by rw[List.size_toArray]<;>omega) (by omega) (by rw[hj];simpa using ew) ⟨rfl,fin⟩) hs
theorem ay:rS X (Kv X.K):=by
 intro value slice pins s σ H x y v u Q I rx ry h hs
 obtain⟨p,xs,i,z,rfl,rfl,hq,he,q⟩:=h
 cases rx
 obtain⟨t,rfl⟩:=ry
 obtain⟨aN,r,pl,hz⟩:=I.tuple hq
 obtain⟨j,h1,h2,h3,h4,h5⟩:=uG he
 obtain⟨w,ew,By⟩:=r.get h2
 have hl:=r.length
 have hn:=q8
 have fin:EP X pins σ Q w s:=⟨z,H,I,By,q⟩
 exact subscriptTail_builtinR (x:=w) pl.typeIs slot_tuple_getitem.lookup
  (getItem_tuple (j:=j) (Q:=fun r s'=>r=w/\EP X pins σ Q r s') pl (by omega) (by omega) (by rw[List.size_toArray,<-hl];exact h1) (by simpa using ew) ⟨rfl,fin⟩) hs
theorem Ig:rS X OS:=by
 intro value slice pins s σ H x y v u Q I rx ry h hs
 obtain⟨z,i,c,rfl,rfl,hz,he,q⟩:=h
 obtain⟨t,rfl⟩:=rx
 obtain⟨t',rfl⟩:=ry
 obtain⟨j,h1,h2,h3,h4,h5⟩:=uG he
 have hl:z.cps.toList.length=z.length:=by simp[Str.length]
 rw[hl] at h1 h4 h5
 have hn:=q8
 exact tail_any (typeIs_str s z t) slot_str_getitem.lookup (getItem_str (c:=c) (by
  have e1:decide (i < -(2 ^ 63:Int))=false:=decide_eq_false (by omega)
  have e2:decide (i≥2 ^ 63)=false:=decide_eq_false (by omega)
  rw[e1,e2,Bool.or_false]) (by rw[h1];simpa using h2) ⟨.str ⟨#[c]⟩,H,I.tok _,⟨_,rfl⟩,q⟩) hs
theorem Inv.lst{pins:List (Addr×Obj)}{σ:St}{H:Hp}{s:Shared}{p:Addr}{xs:List V}(I:Inv X pins σ H s)(h:H p=some (.lst xs)):
  ∃(aN:List Value) (n:Nat),Vals xs aN/\s.heap.get? p=some {cls:= .type "list",data:= .seq aN.toArray n}/\xs.length<=sizeLine:=by
 obtain⟨z,aN,n,r,e⟩:=I.cx p _ h
 exact⟨aN,n,r,e,z⟩
theorem tS(lo hi:Option Int)(n:Nat):(sliceBounds lo hi none n).1=((HT.fD n 0 lo:Nat):Int)/\(sliceBounds lo hi none n).2.1=((HT.fD n n hi:Nat):Int)/\(sliceBounds lo hi none n).2.2=1:=by
 refine⟨?_,?_,rfl⟩
 ·cases lo with
  |none=>simp[sliceBounds,HT.fD]
  |some i=>
   simp only[sliceBounds,HT.fD,Option.getD_none,show(1:Int) > 0 by decide,if_true]
   by_cases h:i < 0
   ·simp only[h,if_true]<;>omega
   ·simp only[h,if_false]<;>omega
 ·cases hi with
  |none=>simp[sliceBounds,HT.fD]
  |some i=>
   simp only[sliceBounds,HT.fD,Option.getD_none,show(1:Int) > 0 by decide,if_true]
   by_cases h:i < 0
   ·simp only[h,if_true]<;>omega
   ·simp only[h,if_false]<;>omega
theorem rX(aN:List Value)(lo hi:Option Int):slicePick aN.toArray lo hi none=((aN.drop (HT.fD aN.length 0 lo)).take (HT.fD aN.length aN.length hi - HT.fD aN.length 0 lo)).toArray:=by
 obtain⟨h1,h2,h3⟩:=tS lo hi aN.toArray.size
 unfold slicePick
 rw[h1,h2,h3]
 simp only[sliceRange_one,pick_run,List.size_toArray]<;>rfl
inductive MR(K:W.Frag)(x:V)(lo:Option Int)(hi:Option Int)(H:Hp)(Q:VK):Prop where
 |mk(a:_)(xs:_)(c1:x= .ref a)(c2:bp K H a xs)(c3:∀p,H p=none->Q (.ref p) (upd H p (.lst (mr xs lo hi))))
def OQ(K:W.Frag):V->Option Int->Option Int->Hp->VK->Prop:=fun x lo hi H Q=>MR K x lo hi H Q
theorem D4:rR X (OQ X.K):=by
 intro pins s σ H x v vl vu lo hi sl Q I rx hs pl pu h
 obtain⟨a,xs,rfl,hx,q⟩:=h
 cases rx
 obtain⟨aN,r,ht,hz⟩:=I.list hx
 have hlen:=r.length
 refine⟨"list",_,slot_list_getitem.lookup,ht.isList.typeIs,?_⟩
 refine wpAny_getItem_list_slice ht.isList hs pl pu .none (by simp) ?_ (by rw[List.size_toArray]<;>omega)
 rw[rX,<-hlen]
 refine⟨.ref s.heap.objs.size,_,I.laid (t':=s.toks) (o:= .lst (mr xs lo hi)) (fun b ob q=>Heap.get?_push_of_some _ q) (Nat.le_refl _) ?_,rfl,q _ (I.cx.fresh (Nat.le_refl _))⟩
 exact⟨Nat.le_trans (pw xs lo hi) hz,_,0,(r.drop (HT.fD xs.length 0 lo)).take (HT.fD xs.length xs.length hi - HT.fD xs.length 0 lo),Heap.get?_push_size _ rfl⟩
theorem bf:cE X (.builtin "len") (fun xs H Q=>∃p ys,xs=[.ref p]/\(bp X.K H p ys ∨ aS X.K H p ys)/\Q (.int ys.length) H):=by
 intro pins s σ H xs us Q I r h
 obtain⟨p,ys,rfl,hq,q⟩:=h
 obtain⟨u,rfl,rx⟩:=vals1 r
 cases rx
 have hn:=q8
 rcases hq with hq|hq
 ·obtain⟨aN,r',pl,hz⟩:=I.list hq
  have hlen:=r'.length
  exact Calls.call_len_list pl.isList (by simp only[List.size_toArray]<;>omega) ⟨.int ys.length,H,I.tok _,⟨s.toks+1,by rw[List.size_toArray,hlen]⟩,q⟩
 ·obtain⟨aN,r',pl,hz⟩:=I.tuple hq
  have hlen:=r'.length
  exact len_tuple pl (by simp only[List.size_toArray]<;>omega) ⟨.int ys.length,H,I.tok _,⟨s.toks+1,by rw[List.size_toArray,hlen]⟩,q⟩
theorem cE.or{f:Value}{r r':List V->Hp->VK->Prop}(h:cE X f r)(h':cE X f r'):cE X f (fun xs H Q=>r xs H Q ∨ r' xs H Q):=by
 intro pins s σ H xs us Q I rs q
 rcases q with q|q
 ·exact h pins s σ H xs us Q I rs q
 ·exact h' pins s σ H xs us Q I rs q
theorem uE:cE X (.type "list") (fun xs H Q=>∃p ys,xs=[.ref p]/\(bp X.K H p ys ∨ aS X.K H p ys)/\∀l,H l=none->Q (.ref l) (upd H l (.lst ys))):=by
 intro pins s σ H xs us Q I r h
 obtain⟨p,ys,rfl,hq,q⟩:=h
 obtain⟨u,rfl,rx⟩:=vals1 r
 cases rx
 have fin:∀(aN:List Value),Vals ys aN->ys.length<=sizeLine->∀(h':Heap) (c':Nat),(∀b o',s.heap.get? b=some o'->h'.get? b=some o')->
   h'.get? s.heap.objs.size=some {cls:= .type "list",dict:=none,data:= .seq aN.toArray c',slots:=#[]}->EP X pins σ Q (.ref s.heap.objs.size) {s with heap:=h'}:=fun aN r' hz h' c' kp e=>
  ⟨.ref s.heap.objs.size,_,I.laid (t':=s.toks) kp (Nat.le_refl _) (show cK X.prog X.w _ h' _ (.lst ys) from⟨hz,aN,c',r',e⟩),rfl,q _ (I.cx.fresh (Nat.le_refl _))⟩
 rcases hq with hq|hq
 ·obtain⟨aN,r',pl,hz⟩:=I.list hq
  have hlen:=r'.length
  obtain⟨o,ho,hc,n,hd⟩:=pl.isList
  exact call_list_seq p (.inl rfl) ho hc hd (fun h' c' kp e=>fin aN r' hz h' c' kp e) (by simp only[List.size_toArray]<;>omega)
 ·obtain⟨aN,r',pl,hz⟩:=I.tuple hq
  have hlen:=r'.length
  obtain⟨o,ho,hc,n,hd⟩:=pl
  exact call_list_seq p (.inr rfl) ho hc hd (fun h' c' kp e=>fin aN r' hz h' c' kp e) (by simp only[List.size_toArray]<;>omega)
def Oe(K:W.Frag)(T:String)(x:V)(H:Hp):Prop:=match x with
 | .str _=>T="str"
 | .int _=>T="int"
 | .ref p=>(T="list"/\∃xs,bp K H p xs) ∨ (T="tuple"/\∃o,K.lookup p=some o/\o.cls= .type "tuple"/\o.dict=none) ∨
   (T="dict"/\((∃ba,H p=some (.dK ba)) ∨ ∃ba,H p=some (.dT ba))) ∨ (T="set"/\∃S n,H p=some (.set S n))
 |_=>False
theorem Bo{pins:List (Addr×Obj)}{σ:St}{H:Hp}{s:Shared}{T:String}{x:V}{v:Value}(I:Inv X pins σ H s)(r:RelV x v)(ty:Oe X.K T x H):
  s.TypeIs v T/\∀a,v= .ref a->∃ob,s.heap.get? a=some ob/\ob.dict=none:=by
 cases x with
 |str z=>
  obtain⟨t,rfl⟩:=r
  cases(show T="str" from ty)
  exact⟨typeIs_str s z t,fun _ e=>nomatch e⟩
 |int i=>
  obtain⟨t,rfl⟩:=r
  cases(show T="int" from ty)
  exact⟨typeIs_int s i t,fun _ e=>nomatch e⟩
 |ref p=>
  cases r
  rcases ty with⟨rfl,xs,hq⟩|⟨rfl,o,hk,hc,hd⟩|⟨rfl,hk⟩|⟨rfl,S,n,hk⟩
  ·obtain⟨aN,_,pl,_⟩:=I.list hq
   refine⟨pl.isList.typeIs,fun a e=>?_⟩
   cases e
   obtain⟨o,n,e,c,hd,_⟩:=pl
   exact⟨o,e,hd⟩
  ·refine⟨⟨o,I.nu p o hk,hc⟩,fun a e=>?_⟩
   cases e
   exact⟨o,I.nu _ o hk,hd⟩
  ·have z:∃o,s.heap.get? p=some o/\o.ExactDict:=by
    rcases hk with⟨ba,hk⟩|⟨ba,hk⟩
    ·obtain⟨_,_,_,_,o,_,_,e,ex,_⟩:=I.cx p _ hk
     exact⟨o,e,ex⟩
    ·obtain⟨_,_,_,_,o,_,_,e,ex,_⟩:=I.cx p _ hk
     exact⟨o,e,ex⟩
   obtain⟨o,e,ex⟩:=z
   refine⟨⟨o,e,ex.1⟩,fun a e2=>?_⟩
   cases e2
   exact⟨o,e,ex.2.1⟩
  ·obtain⟨o,_,_,_,e,ex,_⟩:=I.cx p _ hk
   refine⟨⟨o,e,ex.1⟩,fun a e2=>?_⟩
   cases e2
   exact⟨o,e,ex.2.1⟩
 |_=>exact False.elim ty
inductive ML(K:W.Frag)(T:String)(r:V->List V->Hp->VK->Prop)(x:V)(H1:Hp)(Q:VK):Prop where
 |mk(c1:Oe K T x H1)(c2:r x [] H1 Q)
def Ki(K:W.Frag)(T:String)(r:V->List V->Hp->VK->Prop)(to:TE):TE:=fun σ H Q=>to σ H fun x H1=>ML K T r x H1 Q
inductive SH(K:W.Frag)(T:String)(r:V->List V->Hp->VK->Prop)(t:TA)(σ:L2.St)(x:V)(H1:Hp)(Q:VK):Prop where
 |mk(c1:Oe K T x H1)(c2:t σ H1 fun xs H2=>r x xs H2 Q)
def Oy(K:W.Frag)(T:String)(r:V->List V->Hp->VK->Prop)(to:TE)(t:TA):TE:=fun σ H Q=>to σ H fun x H1=>SH K T r t σ x H1 Q
variable {o e:Expr}{es:List Expr}{to:TE}{t:TA}{name:Str}{apos fG:Pos}{T id:String}{r:V->List V->Hp->VK->Prop}
theorem Hs(pa:PlainAttrs T)(slot:Slot T name id)(P0:typeOf (.builtin id)=pure (.type "method_descriptor"))(hm:J3 X id r)(ho:PE X o to)
  (nE:attributeBase o name X.env (eval o X.env)=eval o X.env:=by rfl)(nC:(apos.endLine==fG.line)=true:=by rfl):PE X (.Call (.Attribute o name apos) [] [] fG) (Ki X.K T r to):=by
 intro pins s σ H Q I h
 refine wpAny_Call_method0_late nE nC (dB (ho pins s σ H _ I h) fun v s1 ⟨x,H1,I1,r1,ty,q1⟩=>?_)
 obtain⟨h1,h2⟩:=Bo I1 r1 ty
 exact⟨T,id,pa,slot,P0,h1,h2,Calls.callWith_builtin rfl (PySem.evalArgs_none (hm pins s1 σ H1 x [] v [] Q I1 r1 .nil q1))⟩
theorem FY(pa:PlainAttrs T)(slot:Slot T name id)(P0:typeOf (.builtin id)=pure (.type "method_descriptor"))(hm:J3 X id r)(ho:PE X o to)(ha:PA X (e::es) t)
  (nE:attributeBase o name X.env (eval o X.env)=eval o X.env:=by rfl)
  (QL:((backTo fG (starEach (e::es) X.env)).all (fun x=> !x.1)&&(backToKw fG (keywordEach [] X.env)).all (fun x=>x.1.isSome)
   &&decide ((e::es).length+([]:List Keyword).length+(if ([]:List Keyword).isEmpty then 0 else 1) < 30))=true:=by rfl)
  (nC:(apos.endLine==fG.line)=true:=by rfl)(hs:starEach (e::es) X.env=(false,eval e X.env)::starEach es X.env:=by rfl)(xB:(backTo fG (starEach es X.env)).any (·.1)=false:=by rfl):
  PE X (.Call (.Attribute o name apos) (e::es) [] fG) (Oy X.K T r to t):=by
 intro pins s σ H Q I h
 refine wpAny_Call_method_late nE QL nC rfl (dB (ho pins s σ H _ I h) fun v s1 ⟨x,H1,I1,r1,ty,q1⟩=>?_)
 obtain⟨h1,h2⟩:=Bo I1 r1 ty
 refine⟨T,id,pa,slot,P0,h1,h2,?_⟩
 have hA:=ha fG pins s1 σ H1 _ I1 q1
 rw[hs] at hA ⊢
 refine Calls.callWith_builtin (by show(false||(backTo fG (starEach es X.env)).any (·.1))=false;rw[xB]<;>rfl) (Calls.evalArgs_plain ?_)
 exact dB hA fun us s2 ⟨vs,H2,I2,r2,q2⟩=>hm pins s2 σ H2 x vs v us Q I2 r1 r2 q2
/- xs.append(e), list.index on a module's tuple .. are MtR facts of 06m -/
end
end L2
namespace L2
open PySem PySem.Spec PyProof.Rows
def Bi(X:Cx)(id:String)(r:V->List V->Hp->VK->Prop):Prop:=
 ∀(pins:List (Addr×Obj)) (s:Shared) (σ:St) (H:Hp) (x:V) (xs:List V) (v:Value) (us:List Value) (Q:VK),Inv X pins σ H s->RelV x v->Vals xs us->r x xs H Q->
  wpAny (model X.prog X.w) X.A (call (.builtin id) (v::us)) (EP X pins σ Q) X.xe s
theorem Vals.one:∀{x:V}{us:List Value},Vals [x] us->∃u,us=[u]/\RelV x u
 |_,_,.cons r .nil=>⟨_,rfl,r⟩
theorem Vals.two:∀{x y:V}{us:List Value},Vals [x,y] us->∃u v,us=[u,v]/\RelV x u/\RelV y v
 |_,_,_,.cons r (.cons q .nil)=>⟨_,_,rfl,r,q⟩
theorem Vals.zero:∀{us:List Value},Vals [] us->us=[]
 |_,.nil=>rfl
theorem Vals.dropLast{xs:List V}{us:List Value}(h:Vals xs us):Vals xs.dropLast us.dropLast:=by
 induction h with
 |nil=>exact .nil
 |cons r t ih=>
  cases t with
  |nil=>exact .nil
  |cons q t'=>exact .cons r ih
theorem Vals.eraseIdx:∀{xs:List V}{us:List Value} (i:Nat),Vals xs us->Vals (xs.eraseIdx i) (us.eraseIdx i)
 |_,_,_,.nil=> .nil
 |_,_,0,.cons _ t=>t
 |_,_,i+1,.cons r t=> .cons r (Vals.eraseIdx i t)
theorem Vals.reverse{xs:List V}{us:List Value}(h:Vals xs us):Vals xs.reverse us.reverse:=by
 induction h with
 |nil=>exact .nil
 |cons r t ih=>rw[List.reverse_cons,List.reverse_cons];exact Vals.append ih (.cons r .nil)
theorem xK{α:Type}(l:List α):l.eraseIdx (l.length - 1)=l.dropLast:=by
 induction l with
 |nil=>rfl
 |cons a r ih=>
  cases r with
  |nil=>rfl
  |cons b r=>
   have e:(a::b::r).length - 1=((b::r).length - 1)+1:=by
    have h1:(a::b::r).length=r.length+2:=rfl
    have h2:(b::r).length=r.length+1:=rfl
    omega
   rw[e,List.eraseIdx_cons_succ,ih]
   all_goals rfl
section
variable {X:Cx}{pins:List (Addr×Obj)}{σ:St}{H:Hp}{s:Shared}{l b:Addr}{xs ys zs:List V}
theorem Inv.HN{aN its':List Value}{n:Nat}{f:Array Value->Array Value}{t':Nat}(I:Inv X pins σ H s)(hH:H l=some (.lst xs))
  (e:s.heap.get? l=some {cls:= .type "list",data:= .seq aN.toArray n})(hf:f aN.toArray=its'.toArray)(hv:Vals ys its')(hz:ys.length<=sizeLine):
  Inv X pins σ (upd H l (.lst ys)) {s with heap:=s.heap.update l (Obj.mapSeq f),toks:=t'}:=by
 have q:=PySem.IsL.update e f
 rw[hf] at q
 refine I.write (x:=l) (e:=l) (by rw[hH];exact trivial) (.inl rfl) (fun b' u hb hu=>(Heap.get?_update_other s.heap (Obj.mapSeq f) (Ne.symm hb)).trans hu) ⟨_,q⟩ ?_
 exact⟨hz,its',_,hv,q⟩
theorem Inv.Po{aN:List Value}{t':Nat}(I:Inv X pins σ H s)(hv:Vals ys aN)(hz:ys.length<=sizeLine):
  Inv X pins σ (upd H s.heap.objs.size (.lst ys)) {s with heap:=s.heap.push {cls:= .type "list",data:= .seq aN.toArray},toks:=t'}:=
 I.laid (fun _ _ q=>Heap.get?_push_of_some _ q) (Nat.le_refl _) ⟨hz,aN,0,hv,Heap.get?_push_size _ rfl⟩
theorem Inv.fresh(I:Inv X pins σ H s):H s.heap.objs.size=none:=I.cx.fresh (Nat.le_refl _)
theorem Inv.Af(I:Inv X pins σ H s)(hH:H l=some (.lst xs)):xs.length<=sizeLine/\∃(aN:List Value) (n:Nat),Vals xs aN/\xs.length=aN.length/\s.heap.get? l=some {cls:= .type "list",data:= .seq aN.toArray n}:=by
 obtain⟨z,aN,n,r,e⟩:=I.cx l _ hH
 exact⟨z,aN,n,r,r.length,e⟩
theorem Cb{n:Nat}(h:n<=sizeLine):Builtin.List.listTooLong n=false:=by
 unfold Builtin.List.listTooLong
 exact decide_eq_false (by omega)
end
section
variable {X:Cx}
def Ee:V->List V->Hp->VK->Prop:=fun x vs H Q=>∃l xs y,x= .ref l/\vs=[y]/\H l=some (.lst xs)/\xs.length < sizeLine/\Q .d0 (upd H l (.lst (xs++[y])))
theorem Ad:Bi X "list.append" Ee:=by
 intro pins s σ H x vs v us Q I rx rv h
 obtain⟨l,xs,y,rfl,rfl,hH,hz,q⟩:=h
 cases rx
 obtain⟨u,rfl,ru⟩:=rv.one
 obtain⟨z,aN,n,r,hl,e⟩:=I.Af hH
 refine call_meets F.slot_list_append ⟨_,e,rfl⟩ F.entry_list_append (F.args_list_append_2 _ _) (PySem.list_append l aN.toArray n u (by rw[List.size_toArray];omega)) ⟨e,?_⟩
 refine⟨.d0,_,I.HN (its':=aN++[u]) hH e (by simp) (r.append (.cons ru .nil)) ?_,rfl,q⟩
 rw[List.length_append,List.length_singleton]
 omega
def Ed:V->List V->Hp->VK->Prop:=fun x vs H Q=>∃l b xs zs,x= .ref l/\vs=[.ref b]/\H l=some (.lst xs)/\H b=some (.lst zs)/\xs.length+zs.length<=sizeLine/\Q .d0 (upd H l (.lst (xs++zs)))
theorem Ac:Bi X "list.extend" Ed:=by
 intro pins s σ H x vs v us Q I rx rv h
 obtain⟨l,b,xs,zs,rfl,rfl,hH,hB,hz,q⟩:=h
 cases rx
 obtain⟨u,rfl,ru⟩:=rv.one
 cases ru
 obtain⟨z,aN,n,r,hl,e⟩:=I.Af hH
 obtain⟨z2,fF,n2,r2,ib,e2⟩:=I.Af hB
 have hsz:aN.toArray.size+fF.toArray.size<=sizeLine:=by rw[List.size_toArray,List.size_toArray];omega
 have LM:¬(!aN.toArray.isEmpty&&Builtin.List.listTooLong (aN.toArray.size+fF.toArray.size))=true:=by
  rw[Cb hsz,Bool.and_false]
  exact Bool.false_ne_true
 refine call_meets F.slot_list_extend ⟨_,e,rfl⟩ F.entry_list_extend (F.args_list_extend_2 _ _)
  (AutoSeq1.list_extend_list_list_0 l aN.toArray n b fF.toArray n2 LM (by rw[List.size_toArray];omega) (by omega)) ⟨e,e2,?_⟩
 refine⟨.d0,_,I.HN (its':=aN++fF) hH e (by simp) (r.append r2) ?_,rfl,q⟩
 rw[List.length_append]
 omega
def OR:V->List V->Hp->VK->Prop:=fun x vs H Q=>∃l xs y,x= .ref l/\vs=[]/\H l=some (.lst xs)/\xs[xs.length - 1]? =some y/\Q y (upd H l (.lst xs.dropLast))
theorem HI:Bi X "list.pop" OR:=by
 intro pins s σ H x vs v us Q I rx rv h
 obtain⟨l,xs,y,rfl,rfl,hH,hy,q⟩:=h
 cases rx
 have JQ:=rv.zero
 subst JQ
 obtain⟨z,aN,n,r,hl,e⟩:=I.Af hH
 obtain⟨u,hu,ru⟩:=r.get hy
 have Ik:aN.toArray[aN.toArray.size - 1]? =some u:=by
  show aN.toArray[aN.length - 1]? =some u
  rw[<-Array.getElem?_toList,<-hl]
  exact hu
 refine call_meets F.slot_list_pop ⟨_,e,rfl⟩ F.entry_list_pop (F.args_list_pop_1 _) (MeetsSeq.list_pop_last l aN.toArray n u Ik (by rw[List.size_toArray];omega)) ⟨e,?_⟩
 refine⟨y,_,I.HN (its':=aN.dropLast) hH e ?_ r.dropLast ?_,ru,q⟩
 ·show aN.toArray.eraseIdxIfInBounds (aN.toArray.size - 1)=aN.dropLast.toArray
  rw[List.size_toArray,List.eraseIdxIfInBounds_toArray,xK]
 ·rw[List.length_dropLast]
  omega
def OU:R2:=fun x y H Q=>∃l b xs zs,x= .ref l/\y= .ref b/\H l=some (.lst xs)/\H b=some (.lst zs)/\xs.length+zs.length<=sizeLine/\∀p,H p=none->Q (.ref p) (upd H p (.lst (xs++zs)))
theorem Hv:gy X (binaryOp .Add) OU:=by
 intro pins s σ H x y v u Q I rx ry h
 obtain⟨l,b,xs,zs,rfl,rfl,hH,hB,hz,q⟩:=h
 cases rx
 cases ry
 obtain⟨z,aN,n,r,hl,e⟩:=I.Af hH
 obtain⟨z2,fF,n2,r2,ib,e2⟩:=I.Af hB
 refine PySem.P.add_list e e2 ?_ (by rw[List.size_toArray,List.size_toArray];omega)
 have ea:aN.toArray++fF.toArray=(aN++fF).toArray:=by simp
 rw[ea]
 exact⟨.ref _,_,I.Po (t':=s.toks) (r.append r2) (by rw[List.length_append];omega),rfl,q _ I.fresh⟩
end
section
variable {prog:Program}{w:World}{A:Around}{E:Value->Shared->Prop}{s:Shared}
set_option maxRecDepth 100000 in
end
section
variable {X:Cx}
end
end L2
namespace L2
open PySem PySem.Spec PyProof.Rows
section
variable {κ:Type} [DecidableEq κ]
def fE(ba:List (κ×V))(k:κ):Option V:=(ba.find? fun kv=>decide (kv.1=k)).map (·.2)
def putK(ba:List (κ×V))(k:κ)(v:V):List (κ×V):=
 if (ba.any fun kv=>decide (kv.1=k))=true then ba.map (fun kv=>if kv.1=k then (kv.1,v) else kv) else ba++[(k,v)]
def GI(ba:List (κ×V))(k:κ):List (κ×V):=ba.filter fun kv=>decide (kv.1≠k)
theorem Bm{k:κ}:fE ([]:List (κ×V)) k=none:=rfl
theorem dU{p:κ×V}{r:List (κ×V)}{k:κ}(e:p.1=k):fE (p::r) k=some p.2:=by simp[fE,List.find?_cons,e]
theorem dW{p:κ×V}{r:List (κ×V)}{k:κ}(e:¬p.1=k):fE (p::r) k=fE r k:=by simp[fE,List.find?_cons,e]
theorem iK(k:κ):∀ba:List (κ×V),(ba.any fun kv=>decide (kv.1=k))=(fE ba k).isSome
 |[]=>rfl
 |p::r=>by
  rw[List.any_cons]
  by_cases e:p.1=k
  ·simp only[dU e,decide_eq_true e,Bool.true_or,Option.isSome_some]
  ·rw[dW e,decide_eq_false e,Bool.false_or];exact iK k r
theorem u6(k j:κ)(y:V):∀ba:List (κ×V),fE (ba.map fun kv=>if kv.1=k then (kv.1,y) else kv) j=(fE ba j).map fun x=>if j=k then y else x
 |[]=>rfl
 |p::r=>by
  have ih:=u6 k j y r
  rw[List.map_cons]
  by_cases h:p.1=k
  ·rw[if_pos h]
   by_cases e:p.1=j
   ·rw[dU (p:=(p.1,y)) e,dU e,Option.map_some,if_pos (e.symm.trans h)]
   ·rw[dW (p:=(p.1,y)) e,dW e,ih]
  ·rw[if_neg h]
   by_cases e:p.1=j
   ·rw[dU (p:=p) e,dU e,Option.map_some,if_neg (fun z=>h (e.trans z))]
   ·rw[dW (p:=p) e,dW e,ih]
theorem sq(k j:κ)(y:V):∀ba:List (κ×V),fE ba k=none->fE (ba++[(k,y)]) j=if j=k then some y else fE ba j
 |[],_=>by
  by_cases e:k=j
  ·rw[if_pos e.symm];exact dU (p:=(k,y)) e
  ·rw[if_neg (fun z=>e z.symm)];exact dW (p:=(k,y)) e
 |p::r,hn=>by
  rw[List.cons_append]
  have hk:¬p.1=k:=fun z=>by rw[dU z] at hn;cases hn
  rw[dW hk] at hn
  have ih:=sq k j y r hn
  by_cases e:p.1=j
  ·rw[dU e,dU e,if_neg (fun z=>hk (e.trans z))]
  ·rw[dW e,dW e,ih]
theorem u4(ba:List (κ×V))(k j:κ)(y:V):fE (putK ba k y) j=if j=k then some y else fE ba j:=by
 unfold putK
 by_cases a:(ba.any fun kv=>decide (kv.1=k))=true
 ·rw[if_pos a,u6]
  rw[iK] at a
  by_cases e:j=k
  ·obtain⟨x,hx⟩:=Option.isSome_iff_exists.mp a
   rw[if_pos e,e,hx,Option.map_some,if_pos rfl]
  ·rw[if_neg e]
   cases fE ba j with
   |none=>rfl
   |some x=>rw[Option.map_some,if_neg e]
 ·rw[if_neg a]
  refine sq k j y ba ?_
  rw[iK] at a
  cases q:fE ba k with
  |none=>rfl
  |some x=>rw[q] at a;exact(a rfl).elim
theorem ph(ba:List (κ×V))(k:κ)(v:V):(putK ba k v).length<=ba.length+1:=by
 unfold putK
 split
 ·rw[List.length_map];omega
 ·rw[List.length_append,List.length_cons,List.length_nil];omega
theorem BJ{ba:List (κ×V)}{k:κ}(v:V)(h:fE ba k=none):putK ba k v=ba++[(k,v)]:=by
 unfold putK
 rw[iK,h]
 exact if_neg (by decide)
theorem jV.oU{o:Option V}{u:Option Value}(r:jV o u):o.isSome=u.isSome:=by
 cases o with
 |none=>cases u with
  |none=>rfl
  |some _=>exact(show False from r).elim
 |some _=>cases u with
  |none=>exact(show False from r).elim
  |some _=>rfl
theorem jV.getD{o:Option V}{u:Option Value}{d:V}{d':Value}(r:jV o u)(rd:RelV d d'):RelV (o.getD d) (u.getD d'):=by
 cases o with
 |none=>cases u with
  |none=>exact rd
  |some _=>exact(show False from r).elim
 |some _=>cases u with
  |none=>exact(show False from r).elim
  |some _=>exact r
theorem KV.val{ba:List (κ×V)}{vs:List (κ×Value)}(r:KV ba vs)(k:κ):jV (fE ba k) (valueAt vs k):=by
 unfold KV at r
 induction r with
 |nil=>exact True.intro
 |@cons p q ps qs h t ih=>
  obtain⟨h1,h2⟩:=h
  by_cases e:p.1=k
  ·have e':q.1=k:=h1.symm.trans e
   have b:valueAt (q::qs) k=some q.2:=by simp[valueAt,List.find?_cons,e']
   rw[dU e,b];exact h2
  ·have e':¬q.1=k:=fun z=>e (h1.trans z)
   have b:valueAt (q::qs) k=valueAt qs k:=by simp[valueAt,List.find?_cons,e']
   rw[dW e,b];exact ih
theorem KV.any{ba:List (κ×V)}{vs:List (κ×Value)}(r:KV ba vs)(k:κ):(ba.any fun kv=>decide (kv.1=k))=vs.any fun kv=>decide (kv.1=k):=by
 unfold KV at r
 induction r with
 |nil=>rfl
 |cons h t ih=>rw[List.any_cons,List.any_cons,ih,h.1]
theorem KV.Hi{ba:List (κ×V)}{vs:List (κ×Value)}(r:KV ba vs)(k:κ){y:V}{u:Value}(ry:RelV y u):
  KV (ba.map fun kv=>if kv.1=k then (kv.1,y) else kv) (vs.map fun kv=>if kv.1=k then (kv.1,u) else kv):=by
 unfold KV at r ⊢
 induction r with
 |nil=>exact .nil
 |@cons p q ps qs h t ih=>
  rw[List.map_cons,List.map_cons]
  refine .cons ?_ ih
  obtain⟨h1,h2⟩:=h
  by_cases e:p.1=k
  ·rw[if_pos e,if_pos (h1.symm.trans e)];exact⟨h1,ry⟩
  ·rw[if_neg e,if_neg (fun z=>e (h1.trans z))];exact⟨h1,h2⟩
theorem KV.put{ba:List (κ×V)}{vs:List (κ×Value)}(r:KV ba vs)(k:κ){y:V}{u:Value}(ry:RelV y u):KV (putK ba k y) (stored vs k u):=by
 unfold putK stored
 rw[r.any k]
 by_cases e:(vs.any fun kv=>decide (kv.1=k))=true
 ·rw[if_pos e,if_pos e];exact r.Hi k ry
 ·rw[if_neg e,if_neg e];exact Paired.snoc r ⟨rfl,ry⟩
theorem KV.drop{ba:List (κ×V)}{vs:List (κ×Value)}(r:KV ba vs)(k:κ):KV (GI ba k) (without vs k):=by
 unfold KV at r ⊢
 unfold GI without
 induction r with
 |nil=>exact .nil
 |@cons p q ps qs h t ih=>
  obtain⟨h1,h2⟩:=h
  rw[List.filter_cons,List.filter_cons]
  by_cases e:p.1=k
  ·have a:¬decide (p.1≠k)=true:=by simp[e]
   have b:¬decide (q.1≠k)=true:=by simp[h1.symm.trans e]
   rw[if_neg a,if_neg b];exact ih
  ·have e':¬q.1=k:=fun z=>e (h1.trans z)
   have a:decide (p.1≠k)=true:=by simp[e]
   have b:decide (q.1≠k)=true:=by simp[e']
   rw[if_pos a,if_pos b];exact .cons ⟨h1,h2⟩ ih
theorem KV.keys{ba:List (κ×V)}{vs:List (κ×Value)}(r:KV ba vs):ba.map (·.1)=vs.map (·.1):=by
 unfold KV at r
 induction r with
 |nil=>rfl
 |cons h t ih=>rw[List.map_cons,List.map_cons,ih,h.1]
theorem KV.length{ba:List (κ×V)}{vs:List (κ×Value)}(r:KV ba vs):ba.length=vs.length:=Paired.length r
end
theorem yJ{P:Program}{w:World}{k:Key}{u:Value}(r:RelV (kV k) u):(dQ P w).is k u=true:=by
 cases k with
 |inl i=>obtain⟨t,e⟩:=(show ∃t,u=Value.int i t from r);subst e;exact vD P w i t
 |inr x=>obtain⟨t,e⟩:=(show ∃t,u=Value.str x t from r);subst e;exact vC P w x t
theorem sM{P:Program}{w:World}:∀{ks:List Key}{us:List Value},Vals (ks.map kV) us->ItemsAre (dQ P w) ks us
 |[],_,r=>by rw[List.map_nil] at r;cases r;exact .nil
 |k::ks,_,r=>by
  rw[List.map_cons] at r
  cases r with
  |cons h t=>exact .cons (yJ h) (sM t)
abbrev KT(H:Hp):List (List Key×V)->List (List Key×Addr×Value)->Prop:=Paired fun p q=>p.1=q.1/\H q.2.1=some (.tup (p.1.map kV))/\RelV p.2 q.2.2
theorem KT.val{H:Hp}{ba:List (List Key×V)}{xs:List (List Key×Addr×Value)}(r:KT H ba xs)(k:List Key):jV (fE ba k) ((atKey xs k).map (·.2)):=by
 induction r with
 |nil=>exact True.intro
 |@cons p q ps qs h t ih=>
  obtain⟨h1,_,h2⟩:=h
  by_cases e:p.1=k
  ·have e':q.1=k:=h1.symm.trans e
   have b:atKey (q::qs) k=some q.2:=by simp[atKey,List.find?_cons,e']
   rw[dU e,b];exact h2
  ·have e':¬q.1=k:=fun z=>e (h1.trans z)
   have b:atKey (q::qs) k=atKey qs k:=by simp[atKey,List.find?_cons,e']
   rw[dW e,b];exact ih
theorem KT.Hi{H:Hp}{ba:List (List Key×V)}{xs:List (List Key×Addr×Value)}(r:KT H ba xs)(k:List Key){y:V}{u:Value}(ry:RelV y u):
  KT H (ba.map fun kv=>if kv.1=k then (kv.1,y) else kv) (xs.map (putAt k u)):=by
 induction r with
 |nil=>exact .nil
 |@cons p q ps qs h t ih=>
  rw[List.map_cons,List.map_cons]
  refine .cons ?_ ih
  obtain⟨h1,h2,h3⟩:=h
  unfold putAt
  by_cases e:p.1=k
  ·rw[if_pos e,if_pos (h1.symm.trans e)];exact⟨h1,h2,ry⟩
  ·rw[if_neg e,if_neg (fun z=>e (h1.trans z))];exact⟨h1,h2,h3⟩
theorem KT.put{H:Hp}{ba:List (List Key×V)}{xs:List (List Key×Addr×Value)}(r:KT H ba xs)(k:List Key){b:Addr}{y:V}{u:Value}(hb:H b=some (.tup (k.map kV)))(ry:RelV y u):
  KT H (putK ba k y) (storedH xs k b u):=by
 have e:(ba.any fun kv=>decide (kv.1=k))=(atKey xs k).isSome:=by
  rw[iK,(r.val k).oU,Option.isSome_map]
 unfold putK storedH
 rw[e]
 by_cases q:(atKey xs k).isSome=true
 ·rw[if_pos q,if_pos q];exact r.Hi k ry
 ·rw[if_neg q,if_neg q];exact Paired.snoc r ⟨rfl,hb,ry⟩
theorem KT.keeps{H H':Hp}{ba:List (List Key×V)}{xs:List (List Key×Addr×Value)}(r:KT H ba xs)(ht:∀b ys,H b=some (.tup ys)->H' b=some (.tup ys)):KT H' ba xs:=
 Paired.HL r fun _ _ z=>⟨z.1,ht _ _ z.2.1,z.2.2⟩
section
variable {P:Program}{w:World}{H:Hp}{h:Heap}{a:Addr}
theorem FU{u:HO}(ok:mz P w H h)(e:Rd H a u):cK P w H h a u:=e.ok ok
theorem y8{ba:List (Key×V)}(ok:mz P w H h)(e:Rd H a (.dK ba)):ba.length<=sizeLine/\(a==sysModules)=false/\∃vs,KV ba vs/\h.DictOf (dQ P w) a vs:=
 show cK P w H h a (.dK ba) from FU ok e
theorem Mj{ba:List (Key×V)}(ok:mz P w H h)(e:H a=some (.dK ba)):ba.length<=sizeLine/\(a==sysModules)=false/\∃vs,KV ba vs/\h.DictOf (dQ P w) a vs:=y8 ok (.inl e)
theorem uc{ks:List Key}(ok:mz P w H h)(e:H a=some (.tup (ks.map kV))):(tupleKind (dQ P w)).is h ks a:=by
 obtain⟨_,aN,r,o,h1,h2,n,h3⟩:=(show cK P w H h a (.tup (ks.map kV)) from ok a _ e)
 exact⟨o,aN.toArray,n,h1,h2,h3,by simpa using sM r⟩
theorem y6{ba:List (List Key×V)}(ok:mz P w H h)(e:Rd H a (.dT ba)):ba.length<=sizeLine/\(a==sysModules)=false/\
  ∃xs,KT H ba xs/\h.DictOfH (tupleKind (dQ P w)) a xs:=by
 obtain⟨z,y,xs,r,o,es,ep,h1,h2,h3,h4,h5⟩:=(show cK P w H h a (.dT ba) from FU ok e)
 refine⟨z,y,xs,r,o,es,ep,h1,h2,h3,h4,fun x hx=>?_,h5⟩
 have all:∀{l:List (List Key×V)}{m:List (List Key×Addr×Value)},KT H l m->∀x∈m,(tupleKind (dQ P w)).is h x.1 x.2.1:=by
  intro l m q
  induction q with
  |nil=>intro x hx;exact nomatch hx
  |@cons p q ps qs hq t ih=>
   intro x hx
   rcases List.mem_cons.mp hx with e|hx
   ·subst e
    exact uc ok (by rw[<-hq.1];exact hq.2.1)
   ·exact ih x hx
 exact all r x hx
theorem Mi{ba:List (List Key×V)}(ok:mz P w H h)(e:H a=some (.dT ba)):ba.length<=sizeLine/\(a==sysModules)=false/\
  ∃xs,KT H ba xs/\h.DictOfH (tupleKind (dQ P w)) a xs:=y6 ok (.inl e)
end
def pP(H:Hp)(a:Addr)(y:V)(r:Option V):Prop:=
 (∃ba k,Rd H a (.dK ba)/\y=kV k/\r=fE ba k) ∨ ∃ba k b,Rd H a (.dT ba)/\y= .ref b/\H b=some (.tup (k.map kV))/\r=fE ba k
def yg(H:Hp)(a:Addr)(y v:V)(H':Hp):Prop:=
 (∃ba k,H a=some (.dK ba)/\y=kV k/\ba.length < sizeLine/\H'=upd H a (.dK (putK ba k v))) ∨
 ∃ba k b,H a=some (.dT ba)/\y= .ref b/\H b=some (.tup (k.map kV))/\ba.length < sizeLine/\H'=upd H a (.dT (putK ba k v))
theorem pP.k{H:Hp}{a:Addr}{ba:List (Key×V)}{k:Key}(e:H a=some (.dK ba)):pP H a (kV k) (fE ba k):= .inl ⟨ba,k,.inl e,rfl,rfl⟩
theorem pP.t{H:Hp}{a b:Addr}{ba:List (List Key×V)}{k:List Key}(e:H a=some (.dT ba))(eb:H b=some (.tup (k.map kV))):pP H a (.ref b) (fE ba k):= .inr ⟨ba,k,b,.inl e,rfl,eb,rfl⟩
theorem yg.k{H:Hp}{a:Addr}{ba:List (Key×V)}{k:Key}{v:V}(e:H a=some (.dK ba))(hl:ba.length < sizeLine):yg H a (kV k) v (upd H a (.dK (putK ba k v))):= .inl ⟨ba,k,e,rfl,hl,rfl⟩
theorem yg.t{H:Hp}{a b:Addr}{ba:List (List Key×V)}{k:List Key}{v:V}(e:H a=some (.dT ba))(eb:H b=some (.tup (k.map kV)))(hl:ba.length < sizeLine):
  yg H a (.ref b) v (upd H a (.dT (putK ba k v))):= .inr ⟨ba,k,b,e,rfl,eb,hl,rfl⟩
section
variable {X:Cx}{pins:List (Addr×Obj)}{σ:St}{H:Hp}{s:Shared}{a:Addr}{y v:V}{u r:Value}{o:Option V}{A:Around}{E:Value->Shared->Prop}
theorem Inv.big(I:Inv X pins σ H s):sysModules < s.heap.objs.size:=by
 have h:mainGlobals < s.heap.objs.size:=(I.mod.glob.keeps I.bk).lt
 exact Nat.lt_trans (by decide) h
theorem AL{Q:Value->Shared->Prop}(hu:A.units+1 < cLine)(I:Inv X pins σ H s)(g:pP H a y (some v))(ry:RelV y u)(h:∀w' s',Inv X pins σ H s'->RelV v w'->Q w' s'):
  wpAny (model X.prog X.w) A (getItem (.ref a) u) Q E s:=by
 rcases g with⟨ba,k,e,ey,l⟩|⟨ba,k,b,e,ey,eb,l⟩
 ·subst ey
  obtain⟨z,hd,vs,rel,dd⟩:=y8 I.cx e
  obtain⟨w',hw,By⟩:=jV.some_of (v:=v) (o:=valueAt vs k) (by rw[l];exact rel.val k)
  exact wpAny_getItem_of (yJ ry) dd.mapOf hw (h w' _ (I.tok _) By)
 ·subst ey
  cases(show u=Value.ref b from ry)
  obtain⟨z,hd,xs,rel,dd⟩:=y6 I.cx e
  obtain⟨w',hw,By⟩:=jV.some_of (v:=v) (o:=(atKey xs k).map (·.2)) (by rw[l];exact rel.val k)
  obtain⟨p,hp,sd⟩:=Option.map_eq_some_iff.mp hw
  refine wpAny_getItem_heap (tupleKind_room_in1 hu) (uc I.cx eb) dd hp ?_
  rw[sd]
  exact h w' _ (I.tok _) By
theorem E9{Q:Value->Shared->Prop}(hu:A.units+1 < cLine)(I:Inv X pins σ H s)(g:pP H a y o)(ry:RelV y u)(h:∀s',Inv X pins σ H s'->Q (.bool (!o.isSome)) s'):
  wpAny (model X.prog X.w) A (compareOp .NotIn u (.ref a)) Q E s:=by
 rcases g with⟨ba,k,e,ey,l⟩|⟨ba,k,b,e,ey,eb,l⟩
 ·subst ey
  obtain⟨z,hd,vs,rel,dd⟩:=y8 I.cx e
  refine wpAny_notIn_of (yJ ry) hd dd.mapOf ?_
  rw[<-(rel.val k).oU,<-l]
  exact h _ (I.tok _)
 ·subst ey
  cases(show u=Value.ref b from ry)
  obtain⟨z,hd,xs,rel,dd⟩:=y6 I.cx e
  refine wpAny_notIn_heap (tupleKind_room_in1 hu) (uc I.cx eb) hd dd ?_
  have q:=(rel.val k).oU
  rw[Option.isSome_map] at q
  rw[<-q,<-l]
  exact h _ (I.tok _)
theorem zd{h':Heap}{t':Nat}{ob:HO}(I:Inv X pins σ H s)(mu:MY (H a))(hs:Heap.SameBut a s.heap h')(he:∃q,h'.get? a=some q)(new:cK X.prog X.w (upd H a ob) h' a ob):
  Inv X pins σ (upd H a ob) {s with heap:=h',toks:=t'}:=
 I.write (x:=a) (e:=a) mu (.inl rfl) (fun b q hb z=>(hs.2 b hb).trans z) he new
theorem IW{P:Program}{w:World}{H':Hp}{h':Heap}{ba:List (Key×V)}{vs:List (Key×Value)}(z:ba.length<=sizeLine)(hd:(a==sysModules)=false)(rel:KV ba vs)(dd:h'.DictOf (dQ P w) a vs):
  cK P w H' h' a (.dK ba):=⟨z,hd,vs,rel,dd⟩
theorem AK{H':Hp}{Q:Unit->Shared->Prop}(hu:A.units+1 < cLine)(I:Inv X pins σ H s)(g:yg H a y v H')(ry:RelV y u)(rv:RelV v r)(h:∀s',Inv X pins σ H' s'->Q () s'):
  wpAny (model X.prog X.w) A (setItem (.ref a) u r) Q E s:=by
 rcases g with⟨ba,k,e,ey,l,eH⟩|⟨ba,k,b,e,ey,eb,l,eH⟩
 ·subst ey eH
  obtain⟨z,hd,vs,rel,dd⟩:=Mj I.cx e
  have hz:vs.length<=sizeLine:=by rw[<-rel.length];exact z
  have hl:(putK ba k v).length<=sizeLine:=by have:=ph ba k v;omega
  refine wpAny_setItem_pairs (hsz:=hz) (yJ ry) dd fun h' NT hs=>h _ ?_
  have he:∃q,h'.get? a=some q:=let ⟨q,_,_,hq,_⟩:=NT;⟨q,hq⟩
  exact zd I (by rw[e];exact True.intro) hs he (IW hl hd (rel.put k rv) NT)
 ·subst ey eH
  cases(show u=Value.ref b from ry)
  obtain⟨z,hd,xs,rel,dd⟩:=Mi I.cx e
  have hz:xs.length<=sizeLine:=by rw[<-Paired.length rel];exact z
  have hl:(putK ba k v).length<=sizeLine:=by have:=ph ba k v;omega
  refine wpAny_setItem_heap (hsz:=hz) (tupleKind_room_in1 hu) (uc I.cx eb) dd fun h' NT hs=>h _ ?_
  obtain⟨q,es,ep,hq,h2,h3,h4,_,h5⟩:=NT
  refine zd I (by rw[e];exact True.intro) hs ⟨q,hq⟩ ⟨hl,hd,_,(rel.put k eb rv).keeps fun c ys ec=>?_,q,es,ep,hq,h2,h3,h4,h5⟩
  rw[aF (KR ec e (fun z=>nomatch z))]
  exact ec
end
section
variable {X:Cx}{pins:List (Addr×Obj)}{σ:St}{H:Hp}{s:Shared}{a:Addr}{ba:List (Key×V)}{k:Key}{u:Value}{A:Around}{E:Value->Shared->Prop}
end
def MX(i:Expr):Prop:=∀ov iv,subscripted i false ov iv=operate [ov,iv] (getItem ov iv)
theorem DZ{prog:Program}{w:World}{A:Around}{E:Value->Shared->Prop}{s:Shared}{env:Env}{value slice:Expr}{pos:Pos}{T id:String}{Q:Value->Shared->Prop}
  (hl:typeLookup (.type T) "__getitem__"=pure (some (.builtin id)))(hs:MX slice)
  (h:wpAny (model prog w) A (eval value env) (fun o s₁=>wpAny (model prog w) A (eval slice env) (fun i s₂=>s₂.TypeIs o T/\wpAny (model prog w) A (getItem o i) Q E s₂) E s₁) E s):
  wpAny (model prog w) A (eval (.Subscript value slice pos) env) Q E s:=by
 refine Subscript_ (wpAny_mono h (fun o s₁ h₁=>wpAny_mono h₁ (fun i s₂ h₂=>?_) fun _ _ x=>x) fun _ _ x=>x)
 obtain⟨hT,h₂⟩:=h₂
 unfold subscriptTail
 refine wpAny_bind ?_
 rw[getitemInPython_of_ne hT.not_modules]
 refine wpAny_bind (wpAny_specialOf hT hl ?_)
 have fin:wpAny (model prog w) A (subscripted slice false o i) (fun r s₃=>wpAny (model prog w) A (letTemporaryGo value o r >>= fun _=>pure r) Q E s₃) E s₂:=by
  rw[hs o i]
  exact wpAny_operating (wpAny_mono h₂ (fun r s₃ h₃=>wpAny_bind (wpAny_letTemporaryGo (wpAny_pure h₃))) fun _ _ x=>x)
 first
  |exact wpAny_pure (wpAny_bind fin)
  |exact wpAny_bind (wpAny_pure (wpAny_bind fin))
  |exact wpAny_bind fin
theorem vV{X:Cx}{pins:List (Addr×Obj)}{σ:St}{H:Hp}{s:Shared}{a:Addr}{y:V}{o:Option V}(I:Inv X pins σ H s)(g:pP H a y o):s.TypeIs (.ref a) "dict":=by
 rcases g with⟨ba,k,e,_,_⟩|⟨ba,k,b,e,_,_,_⟩
 ·obtain⟨_,_,vs,_,dd⟩:=y8 I.cx e
  exact dd.typeIs
 ·obtain⟨_,_,xs,_,dd⟩:=y6 I.cx e
  exact dd.typeIs
inductive Jo(x:V)(y:V)(H2:Hp)(Q:VK):Prop where
 |mk(a:_)(v:_)(c1:x= .ref a)(c2:pP H2 a y (some v))(c3:Q v H2)
def Kh(td ty:TE):TE:=fun σ H Q=>td σ H fun x H1=>ty σ H1 fun y H2=>Jo x y H2 Q
inductive Dd(x:V)(y:V)(H2:Hp)(Q:VK):Prop where
 |mk(a:_)(o:_)(c1:x= .ref a)(c2:pP H2 a y o)(c3:Q (.bl (!o.isSome)) H2)
def DW(ty td:TE):TE:=fun σ H Q=>ty σ H fun y H1=>td σ H1 fun x H2=>Dd x y H2 Q
def Ks(td ty tv:TE):TS:=fun D σ H=>tv σ H fun v H1=>td σ H1 fun x H2=>ty σ H2 fun y H3=>∃a H4,x= .ref a/\yg H3 a y v H4/\D.nx σ H4
section
variable {X:Cx}{o i e value:Expr}{pos pos' GZ:Pos}{td ty tv:TE}
theorem El(hu:X.A.units+1 < cLine)(ho:PE X o td)(hi:PE X i ty)(hs:MX i):PE X (.Subscript o i pos) (Kh td ty):=by
 intro pins s σ H Q I h
 refine DZ PySem.F.slot_dict_getitem.lookup hs (dB (ho pins s σ H _ I h) fun u s1 ⟨x,H1,I1,rx,q1⟩=>dB (hi pins s1 σ H1 _ I1 q1) fun iv s2 ⟨y,H2,I2,ry,a,v,ex,g,q2⟩=>?_)
 subst ex
 obtain rfl:u=Value.ref a:=rx
 exact⟨vV I2 g,AL hu I2 g ry fun w' s3 I3 By=>⟨v,H2,I3,By,q2⟩⟩
theorem zR(hu:X.A.units+1 < cLine)(hi:PE X i ty)(ho:PE X o td):PC X .NotIn i o (DW ty td):=by
 intro pins s σ H Q I h
 refine dB (hi pins s σ H _ I h) fun iv s1 ⟨y,H1,I1,ry,q1⟩=>dB (ho pins s1 σ H1 _ I1 q1) fun u s2 ⟨x,H2,I2,rx,a,ov,ex,g,q2⟩=>?_
 subst ex
 obtain rfl:u=Value.ref a:=rx
 exact E9 hu I2 g ry fun s3 I3=>⟨.bl (!ov.isSome),H2,I3,rfl,q2⟩
theorem Ef(hu:X.A.units+1 < cLine)(ho:PE X o td)(hi:PE X i ty)(hv:PE X value tv)(hs:swapsWith value (some (.Subscript o i pos')) pos.line X.env=pure false):
  PS X (.Assign [.Subscript o i pos'] value pos) (Ks td ty tv):=by
 intro pins s σ H D I h
 refine wpAny_Assign_Subscript (dB (hv pins s σ H _ I h) fun r s1 ⟨v,H1,I1,rv,q1⟩=>dB (ho pins s1 σ H1 _ I1 q1) fun u s2 ⟨x,H2,I2,rx,q2⟩=>dB (hi pins s2 σ H2 _ I2 q2) fun iv s3 ⟨y,H3,I3,ry,a,H4,ex,g,q3⟩=>?_) hs
 subst ex
 obtain rfl:u=Value.ref a:=rx
 exact AK hu I3 g ry rv fun s4 I4=>⟨σ,H4,I4,q3⟩
end
theorem CW{P:Program}{w:World}{H:Hp}(h:Heap)(hb:sysModules < h.objs.size):cK P w H (h.push {cls:= .type "dict",data:= .dict #[]}) h.objs.size (.dK []):=
 ⟨Nat.zero_le _,beq_eq_false_iff_ne.mpr (Ne.symm (Nat.ne_of_lt hb)),[],.nil,Heap.DictOf.new h⟩
def G4:TE:=fun _ H Q=>∀p,H p=none->Q (.ref p) (upd H p (.dK []))
section
variable {X:Cx}{pos:Pos}
theorem BW:PE X (.Dict [] [] pos) G4:=fun pins s σ H Q I h=>
 wpAny_Dict_empty ⟨.ref s.heap.objs.size,_,I.laid (a:=s.heap.objs.size) (o:= .dK []) (t':=s.toks) (fun _ _ q=>Heap.get?_push_of_some _ q) (Nat.le_refl _) (CW s.heap I.big),rfl,h _ (I.cx.fresh (Nat.le_refl _))⟩
end
structure M1(X:Cx)(o:Expr)(m:Str)(apos:Pos)(e:Expr)(fG:Pos):Prop where
 base:attributeBase o m X.env (eval o X.env)=eval o X.env
 d3:((backTo fG (starEach [e] X.env)).all (fun x=> !x.1)&&(backToKw fG (keywordEach [] X.env)).all (fun x=>x.1.isSome)
  &&decide (([e]:List Expr).length+([]:List Keyword).length+(if ([]:List Keyword).isEmpty then 0 else 1) < 30))=true
 line:(apos.endLine==fG.line)=true
 trees:backTo fG (starEach [e] X.env)=[(false,eval e X.env)]
structure M2(X:Cx)(o:Expr)(m:Str)(apos:Pos)(e f:Expr)(fG:Pos):Prop where
 base:attributeBase o m X.env (eval o X.env)=eval o X.env
 d3:((backTo fG (starEach [e,f] X.env)).all (fun x=> !x.1)&&(backToKw fG (keywordEach [] X.env)).all (fun x=>x.1.isSome)
  &&decide (([e,f]:List Expr).length+([]:List Keyword).length+(if ([]:List Keyword).isEmpty then 0 else 1) < 30))=true
 line:(apos.endLine==fG.line)=true
 trees:backTo fG (starEach [e,f] X.env)=[(false,eval e X.env),(false,eval f X.env)]
section
variable {X:Cx}{pins:List (Addr×Obj)}{σ:St}{H:Hp}{s:Shared}{a:Addr}{y d:V}{u r:Value}{o:Option V}{A:Around}{E:Value->Shared->Prop}
end
section
variable {X:Cx}{o e f:Expr}{apos fG:Pos}{td ty tx:TE}
end
section
variable {X:Cx}{pins:List (Addr×Obj)}{σ:St}{H:Hp}{s:Shared}{a:Addr}{ba:List (Key×V)}{A:Around}{E:Value->Shared->Prop}
end
section
variable {X:Cx}{pins:List (Addr×Obj)}{σ:St}{H:Hp}{s:Shared}{a:Addr}{y:V}{u:Value}{A:Around}{E:Value->Shared->Prop}
end
end L2
namespace VU
open PySem PySem.W PySem.Calls PyProof.Rows
theorem pG{P:Params}{h:Heap}:∀(ns:List Int) (vs:List Value),WellAll P h vs (ns.map WData.int)->IntsAre vs ns:=by
 intro ns
 induction ns with
 |nil=>
  intro vs w
  rw[List.map_nil] at w
  cases w
  exact .nil
 |cons n ns ih=>
  intro vs w
  rw[List.map_cons] at w
  cases w with
  |cons a b=>
   cases a
   exact .cons _ _ (ih _ b)
theorem zJ{l:OpenLaw}{n:Nat}(hn:l.most=some n){P:Params}{h:Heap}{args:List WData}{vals:List Value}
  (E1:l.row.toRowW.claim.pre args=true)(PQ:WellAll P h vals args):
  ∃a vs ns,vals=[Value.ref a]/\args=[WData.list (ns.map WData.int)]/\h.get? a=some {cls:= .type "list",data:= .seq vs.toArray}/\IntsAre vs ns/\ns.length<=n:=by
 have Iv:WShape.hasAll [] args [.list .int]=true:=(pre_splitW E1).1
 have hc:l.pre.holds [] {args:=args}=true:=(pre_splitW E1).2
 obtain⟨d,r,rfl,h1,h2⟩:=hasAllW_cons Iv
 obtain rfl:=hasAllW_nil h2
 obtain⟨xs,rfl,h3⟩:=hasW_list h1
 obtain⟨ns,rfl⟩:=items_int h3
 have hlen:ns.length<=n:=by
  unfold OpenLaw.pre at hc
  have h4:(WTm.not (.lt (.lit (.int (n:Int))) (.len (.arg 0)))).holds [] {args:=[.list (ns.map .int)]}=true:=by
   have h4:=(holds_andW hc).1
   rw[hn] at h4
   exact h4
  have h5:=condW_of h4 (w_not (w_lt w_lit (w_len_list (w_arg rfl))))
  rw[List.length_map] at h5
  refine Nat.le_of_not_lt fun q=>?_
  have q':(n:Int) < ((ns.length:Nat):Int):=by omega
  first
   | (rw[decide_eq_true q'] at h5;exact absurd h5 (by decide))
   | (simp at h5;omega)
 cases PQ with
 |cons w1 w2=>
  cases w2
  cases w1 with
  |list ho uw=>exact⟨_,_,ns,rfl,rfl,ho,pG ns _ uw,hlen⟩
theorem zP(l:OpenLaw)(args:List WData):l.row.toRowW.claim.post args (.bool true) args=true:=
 postW_of (r:=l.row.toRowW) (X:=(true==true))
  (show WShape.has [] (.bool true) .bool=true by first|rfl|decide|simp[WShape.has,WShape.arms,WShape.armsAll])
  (show(WTm.eq .res (.lit (.bool true))).value [] {args:=args,res:=some (.bool true),after:=args}=some (.bool (true==true)) from w_eq_bool (w_res rfl) w_lit) rfl
theorem v5{l:OpenLaw}{n:Nat}{q:Program}{loose:List Str}{XP:(Str->Option Value)->Heap->Prop}{YP:World->Heap->Prop}{d:DefRec}
  (hn:l.most=some n)(QO:d.params.defaults=[])
  (call:∀(w:World) (s₀ s₁:Shared) (mg mb:Str->Option Value) (fa:Addr) (o:Obj) (pm cd doc:Value) (a:Addr) (vs:List Value) (ns:List Int),
   Ground q loose [] XP w s₀ mg mb s₁.heap->YP w s₁.heap->
   s₁.heap.get? fa=some o->o.data= .func (docDef d.name d.params d.body d.scope pm cd doc)->s₁.heap.CodeRec cd d.name->mg d.name=some (.ref fa)->
   s₁.heap.get? a=some {cls:= .type "list",data:= .seq vs.toArray}->IntsAre vs ns->ns.length<=n->s₁.gens=#[]->
   codeAny (model l.prog w) callerA (.call (.ref fa) ⟨[.ref a],[]⟩) (fun r s'=>r= .ok (.ret (.bool true))/\OldK s₁.heap s'.heap/\s'.os=s₁.os/\AllBare s'.gens) s₁):
  WalkO q loose XP YP l.row.toRowW d [] (fun f vs=>PySem.call f vs):=by
 intro w s₀ s₁ mg mb G Y fa o pm cd doc dV kV ho hd rQ hD LJ hg args vals as E1 Yi hrd PQ hlo
 obtain rfl:dV= .none:=Dflts.none hD QO
 obtain rfl:kV= .none:=Dflts.noKw hD
 obtain⟨a,vs,ns,rfl,rfl,IC,hints,hlen⟩:=zJ hn E1 PQ
 refine enter_call (codeAny_mono (call w s₀ s₁ mg mb fa o pm cd doc a vs ns G Y ho (fd_plain hd) rQ LJ IC hints hlen hg) fun r s' hq=>?_)
 obtain⟨rfl,h2,h3,h4⟩:=hq
 exact⟨.inl ⟨.bool true,.bool true,[],rfl,fun _=>rfl,.bool true,zP l _,fun _=>⟨List.Pairwise.nil,fun _ hm=>(nomatch hm)⟩⟩,h2,h3,h4⟩
section
variable {prog:Program}{w:World}{A:Around}{E:Value->Shared->Prop}{s:Shared}{K:Frag}
theorem K3{R:Result->Shared->Prop}{C fI:Addr}{rest:List Value}{kw:List (Str×Value)}
  (X:K.In s.heap)(hm:makesIn K C=true)(hi:findIn K (.ref C) "__init__"=some (some (.ref fI)))(hf:isFn K (.ref fI)=true)
  (h:codeAny (model prog w) (A.under (.builtin "type.__call__" ⟨.ref C::rest,kw⟩)) (.call (.ref fI) ⟨.ref (s.heap.objs.size+1)::rest,kw⟩) (InitBack (s.heap.objs.size+1) R)
   {s with heap:=(s.heap.push emptyDict).push (instObj C s.heap.objs.size)}):codeAny (model prog w) A (.call (.ref C) ⟨rest,kw⟩) R s:=by
 obtain⟨hh,g,d,t,os⟩:=s
 exact make_core (makes_of X hm) (looks_findIn X hi) (fun self=>bind_fn X self (beq_iff_eq.mp hf)) (.inl rfl) h
theorem JY{x C:Addr}{ox:Obj}{es:List DictEntry}{n:Nat}{name:Str}{expr:Bool}{v:Value}{Q:Value->Shared->Prop}
  (X:K.In s.heap)(I:PySem.W.InstAt s.heap x ox C (some (dictOf es n)))(hg:plainGet K C name=true)(hh:hasDictIn K C=true)(ha:findIn K (.ref C) name=some none)
  (hl:getL name es=some (some v))(hv:handedIn v=true)(h:Q v {s with toks:=s.toks+1}):wpAny (model prog w) A (getAttr (.ref x) name expr) Q E s:=
 get_value X I (plainGet_of hg).1 (findObj_own hh ha rfl hl) hv h
def ledger(h:Heap)(L d:Addr):List (Addr×Obj):=(List.range h.objs.size).filterMap fun a=>if a=L ∨ a=d then none else (h.get? a).map fun o=>(a,o)
end
end VU
namespace L2
open PySem PySem.Spec PyProof.Rows
theorem so:∀{vs:List Value}{ns:List Int},IntsAre vs ns->Vals (ns.map V.int) vs
 |_,_,.nil=> .nil
 |_,_,.cons n t h=> .cons ⟨t,rfl⟩ (so h)
end L2
namespace L2
open PySem PySem.Spec PyProof.Rows
end L2
namespace L2
open PySem PySem.Spec PyProof.Rows
def inClass(s:Stmt)(j:Nat):Stmt:=match s with
 | .ClassDef _ _ _ body _ _ _ _ _ _ _=>body.getD j (.Pass ⟨0,0,0,0⟩)
 |_=> .Pass ⟨0,0,0,0⟩
def cz(s:Stmt):Arguments:=match s with
 | .FunctionDef _ a _ _ _ _ _ _ _ _=>a
 |_=>{posonlyargs:=[],args:=[],vararg:=none,kwonlyargs:=[],kw_defaults:=[],kwarg:=none,defaults:=[]}
def bX(s:Stmt):List Stmt:=match s with
 | .FunctionDef _ _ b _ _ _ _ _ _ _=>b
 |_=>[]
def aw(s:Stmt):Scope:=match s with
 | .FunctionDef _ _ _ _ _ _ sc _ _ _=>sc
 |_=>{kind:= .function,names:=[],isGenerator:=false,isCoroutine:=false}
abbrev bK:mB:=fun _ _ _ _ _ _=>False
abbrev E0:XK:=fun _ _ _=>False
theorem bt{X:Cx}:Passes bK X E0:=fun _ _ _ _ _ _ _ h=>h.elim
structure jS(K:W.Frag)(x qual:Str)(st:Stmt)(f:Addr)(fd:FuncData):Prop where
 ex:∃(oc:Value) (od:Option Addr) (kV doc pm:Value) (an:Option Addr) (fx ct:Value) (BY:Array (Option Value)),
  fd=PySem.W.fnOf x qual (cz st) (bX st) (aw st) .none kV doc pm an fx ct/\K.lookup f=some ⟨oc,od,.func fd,BY⟩/\PySem.W.codeIn K fx qual=true
 kp:PySem.W.keepIn K (.ref f)=true
section
variable {P:Program}{w:World}{K:W.Frag}{mg:Str->Option Value}{base:Heap}
theorem jS.ok{x qual:Str}{st:Stmt}{f:Addr}{fd:FuncData}{N ps:List Str}{k:Nat}{sp:Sp}(F:jS K x qual st f fd)(S:a8 N ps (aw st))(len:∀vs H Q E,sp vs H Q E->vs.length=ps.length)
  (nD:∀(fx:Value) (A:Around) (outer:List Env) (s:Shared) (H:Hp) (vs:List V) (Q:VK) (E:XK),dr k (A.deeper (envOfC qual (aw st) s.heap.objs.size f fx))->sp vs H Q E->
   ∃t,nZ (xP bK P w K mg base N qual (aw st) f fx A outer s H E).DG (bX st) t/\t {nx:=fun _ H'=>Q .d0 H',rt:=Q} (start N vs) H):cg P w K mg base bK (k+1) f fd ps sp:=by
 obtain⟨oc,od,kV,doc,pm,an,fx,ct,BY,rfl,lk,rQ⟩:=F.ex
 refine GH lk rQ S len fun A outer s H vs Q E hr gx=>?_
 obtain⟨t,h,q⟩:=nD fx A outer s H vs Q E hr gx
 exact⟨t,h.DG,q⟩
theorem jS.binds{x qual:Str}{st:Stmt}{f:Addr}{fd:FuncData}{ps:List Str}(F:jS K x qual st f fd)
  (h:∀(kV doc pm:Value) (an:Option Addr) (fx ct:Value) (us:List Value),us.length=ps.length->bindArgs (PySem.W.fnOf x qual (cz st) (bX st) (aw st) .none kV doc pm an fx ct) ⟨us,[]⟩=pure (ps.zip us)):Binds K fd ps []:=by
 obtain⟨oc,od,kV,doc,pm,an,fx,ct,BY,rfl,lk,rQ⟩:=F.ex
 exact .all (h kV doc pm an fx ct)
theorem bR{x qual:Str}{st:Stmt}{f:Addr}{oc:Value}{od an:Option Addr}{BY:Array (Option Value)}{kV doc pm fx ct:Value}(l:K.lookup f=some ⟨oc,od,.func (PySem.W.fnOf x qual (cz st) (bX st) (aw st) .none kV doc pm an fx ct),BY⟩)
  (c:PySem.W.codeIn K fx qual=true)(k:PySem.W.keepIn K (.ref f)=true):jS K x qual st f (PySem.W.fnOf x qual (cz st) (bX st) (aw st) .none kV doc pm an fx ct):=⟨⟨oc,od,kV,doc,pm,an,fx,ct,BY,rfl,l,c⟩,k⟩
end
theorem Lr{A:Around}{k:Nat}(hr:dr k A):A.units+1 < cLine:=Nat.lt_of_le_of_lt (Nat.add_le_add_left (by decide:1<=64) _) hr.units
section
variable {X:Cx}
theorem pv(i:Nat){x:Str}{pos:Pos}(hN:X.N[i]? =some x:=by rfl)(hv:J1 X.env.scope x:=by first|exact Or.inl rfl|exact Or.inr (Or.inl rfl)|exact Or.inr (Or.inr rfl))(hd:(x==("__debug__":Str))=false:=by decide)
  (rQ:(x==("__classdict__":Str))=false:=by decide):PE X (.Name x pos) (zG i):=BR hN hv hd rQ
end
theorem cf{A B:Prop}(h:B):if false=true then A else B:=by
 rw[if_neg Bool.false_ne_true]
 exact h
theorem fu{A B:Prop}(h:A):if true=true then A else B:=by
 rw[if_pos rfl]
 exact h
def aQ(H H':Hp):Prop:=∀b o,H b=some o->H' b=some o
theorem aQ.refl(H:Hp):aQ H H:=fun _ _ h=>h
theorem aQ.trans{H H1 H2:Hp}(a:aQ H H1)(b:aQ H1 H2):aQ H H2:=fun c o h=>b c o (a c o h)
theorem aQ.free{H H':Hp}(e:aQ H H'){l:Addr}(h:H' l=Option.none):H l=Option.none:=by
 cases q:H l with
 |none=>rfl
 |some o=>
  rw[e l o q] at h
  cases h
theorem aQ.seq{K:W.Frag}{H H':Hp}{a:Addr}{xs:List V}(e:aQ H H')(h:bp K H a xs):bp K H' a xs:=by
 rcases h with(h|⟨o,h⟩)|h
 ·exact .inl (.inl (e _ _ h))
 ·exact .inl (.inr ⟨o,e _ _ h⟩)
 ·exact .inr h
section
variable {κ:Type} [DecidableEq κ]
theorem u5{ba:List (κ×V)}{k:κ}(h:fE ba k=none):¬k∈ba.map (·.1):=by
 intro m
 obtain⟨p,hp,e⟩:=List.mem_map.mp m
 have q:(ba.any fun kv=>decide (kv.1=k))=true:=List.any_eq_true.mpr ⟨p,hp,decide_eq_true e⟩
 rw[iK,h] at q
 exact absurd q (by simp)
theorem yE:∀{l:List κ}{k:κ},l.Nodup->¬k∈l->(l++[k]).Nodup
 |[],k,_,_=>by simp
 |a::r,k,h,hk=>by
  obtain⟨h1,h2⟩:=List.nodup_cons.mp h
  show(a::(r++[k])).Nodup
  refine List.nodup_cons.mpr ⟨fun m=>?_,yE h2 fun m=>hk (List.mem_cons.mpr (Or.inr m))⟩
  rcases List.mem_append.mp m with q|q
  ·exact h1 q
  ·exact hk (List.mem_cons.mpr (Or.inl (List.mem_singleton.mp q).symm))
theorem EG{ba:List (κ×V)}{k:κ}(v:V)(hn:(ba.map (·.1)).Nodup)(h:fE ba k=none):((putK ba k v).map (·.1)).Nodup:=by
 rw[BJ v h,List.map_append]
 exact yE hn (u5 h)
end
end L2
set_option maxHeartbeats 4000000
namespace NC
inductive T(W:Type) where
 |name (w:W)
 |place (n:Nat)
 |aa (b:T W)
 |call (a b:T W)
variable {W:Type}
def T.size:T W->Nat
 | .name _=>1
 | .place _=>1
 | .aa b=>b.size+1
 | .call a b=>a.size+b.size+1
def T.deep:T W->Nat
 | .name _=>1
 | .place _=>1
 | .aa b=>b.deep+1
 | .call a b=>max a.deep b.deep+1
theorem T.fw:∀t:T W,t.deep<=t.size
 | .name _=>Nat.le_refl _
 | .place _=>Nat.le_refl _
 | .aa b=>Nat.succ_le_succ b.fw
 | .call a b=>by
  have h1:=a.fw
  have h2:=b.fw
  simp only[T.deep,T.size]
  omega
theorem T.size_pos:∀t:T W,1<=t.size
 | .name _=>Nat.le_refl _
 | .place _=>Nat.le_refl _
 | .aa b=>by simp only[T.size];omega
 | .call a b=>by simp only[T.size];omega
def T.bx:T W->Bool
 | .aa _=>true
 |_=>false
def T.ri:T W->Bool
 | .call a _=>a.bx
 |_=>false
def T.ao:T W->List (List Int)
 | .name _=>[]
 | .place _=>[]
 | .aa b=>b.ao.map (0::·)
 | .call a b=>(if a.bx then [[]] else [])++(a.ao.map (0::·)++b.ao.map (1::·))
def under(p:List Int)(t:T W):List (List Int):=t.ao.map (p++·)
theorem sr(t:T W):under [] t=t.ao:=by
 unfold under
 rw[show(fun x:List Int=>[]++x)=id from funext fun x=>List.nil_append x,List.map_id]
theorem eT(p:List Int)(k:Int)(t:T W):(t.ao.map (k::·)).map (p++·)=under (p++[k]) t:=by
 unfold under
 rw[List.map_map]
 refine List.map_congr_left fun x _=>?_
 show p++k::x=p++[k]++x
 simp
theorem qv(p:List Int)(b:T W):under p (.aa b)=under (p++[0]) b:=eT p 0 b
theorem lW(p:List Int)(a b:T W):under p (.call a b)=(if a.bx then [p] else [])++(under (p++[0]) a++under (p++[1]) b):=by
 show List.map (p++·) (T.ao (.call a b))=_
 rw[T.ao,List.map_append,List.map_append,eT,eT]
 congr 1
 split<;>simp
theorem iN:∀t:T W,3*t.ao.length+1<=t.size
 | .name _=>by simp[T.ao,T.size]
 | .place _=>by simp[T.ao,T.size]
 | .aa b=>by
  have:=iN b
  simp only[T.ao,T.size,List.length_map]
  omega
 | .call a b=>by
  have h1:=iN a
  have h2:=iN b
  simp only[T.ao,T.size,List.length_append,List.length_map]
  cases a with
  |aa c=>
   have h3:=iN c
   simp only[T.bx,T.ao,T.size,List.length_map,if_true,List.length_cons,List.length_nil] at*
   omega
  |_=>simp only[T.bx,Bool.false_eq_true,if_false,List.length_nil]<;>omega
def lex:List Int->List Int->Bool
 |[],[]=>false
 |[],_::_=>true
 |_::_,[]=>false
 |x::xs,y::ys=>if x=y then lex xs ys else decide (x < y)
theorem lex_irrefl:∀a,lex a a=false
 |[]=>rfl
 |x::xs=>by
  unfold lex
  rw[if_pos rfl]
  exact lex_irrefl xs
theorem lex_trans:∀{a b c:List Int},lex a b=true->lex b c=true->lex a c=true
 |[],[],_,h,_=>by simp[lex] at h
 |[],_::_,[],_,h=>by simp[lex] at h
 |[],_::_,_::_,_,_=>rfl
 |_::_,[],_,h,_=>by simp[lex] at h
 |_::_,_::_,[],_,h=>by simp[lex] at h
 |x::xs,y::ys,z::zs,h1,h2=>by
  unfold lex at h1 h2 ⊢
  by_cases e1:x=y
  ·subst e1
   rw[if_pos rfl] at h1
   by_cases e2:x=z
   ·subst e2
    rw[if_pos rfl] at h2 ⊢
    exact lex_trans h1 h2
   ·rw[if_neg e2] at h2 ⊢
    exact h2
  ·rw[if_neg e1] at h1
   by_cases e2:y=z
   ·subst e2
    rw[if_neg e1]
    exact h1
   ·rw[if_neg e2] at h2
    have q1:=of_decide_eq_true h1
    have q2:=of_decide_eq_true h2
    rw[if_neg (by omega)]
    exact decide_eq_true (by omega)
theorem kW:∀{a b:List Int},lex a b=false->lex b a=false->a=b
 |[],[],_,_=>rfl
 |[],_::_,h,_=>by simp[lex] at h
 |_::_,[],_,h=>by simp[lex] at h
 |x::xs,y::ys,h1,h2=>by
  unfold lex at h1 h2
  by_cases e:x=y
  ·subst e
   rw[if_pos rfl] at h1 h2
   rw[kW h1 h2]
  ·rw[if_neg e] at h1
   rw[if_neg (Ne.symm e)] at h2
   have q1:=of_decide_eq_false h1
   have q2:=of_decide_eq_false h2
   omega
theorem ni(k:Int)(a b:List Int):lex (k::a) (k::b)=lex a b:=by
 show(if k=k then lex a b else _)=_
 rw[if_pos rfl]
theorem gn:∀t:T W,t.ao.Pairwise (fun a b=>lex a b=true)
 | .name _=>List.Pairwise.nil
 | .place _=>List.Pairwise.nil
 | .aa b=>by
  show(b.ao.map (0::·)).Pairwise _
  rw[List.pairwise_map]
  exact(gn b).imp fun h=>by rw[ni];exact h
 | .call a b=>by
  show((if a.bx then [[]] else [])++(a.ao.map (0::·)++b.ao.map (1::·))).Pairwise _
  have II:(a.ao.map (0::·)++b.ao.map (1::·)).Pairwise (fun a b=>lex a b=true):=by
   rw[List.pairwise_append]
   refine⟨?_,?_,?_⟩
   ·rw[List.pairwise_map]
    exact(gn a).imp fun h=>by rw[ni];exact h
   ·rw[List.pairwise_map]
    exact(gn b).imp fun h=>by rw[ni];exact h
   ·intro x hx y hy
    obtain⟨x',_,rfl⟩:=List.mem_map.mp hx
    obtain⟨y',_,rfl⟩:=List.mem_map.mp hy
    rfl
  split
  ·rw[List.singleton_append,List.pairwise_cons]
   refine⟨fun y hy=>?_,II⟩
   rcases List.mem_append.mp hy with h|h<;>(obtain⟨y',_,rfl⟩:=List.mem_map.mp h;rfl)
  ·exact II
theorem km:∀{l₁ l₂:List (List Int)},l₁.Perm l₂->l₁.Pairwise (fun a b=>lex a b=true)->l₂.Pairwise (fun a b=>lex b a=false)->l₁=l₂
 |[],l₂,p,_,_=>(List.nil_perm.mp p).symm
 |x::xs,[],p,_,_=>absurd p.length_eq (by simp)
 |x::xs,y::ys,p,h1,h2=>by
  have IS:=List.pairwise_cons.mp h1
  have IQ:=List.pairwise_cons.mp h2
  have e:x=y:=by
   have hy:y∈x::xs:=p.mem_iff.mpr List.mem_cons_self
   have hx:x∈y::ys:=p.mem_iff.mp List.mem_cons_self
   rcases List.mem_cons.mp hy with q|q
   ·exact q.symm
   ·rcases List.mem_cons.mp hx with r|r
    ·exact r
    ·have a1:=IS.1 y q
     have a2:=IQ.1 x r
     rw[a1] at a2
     cases a2
  subst e
  rw[km (List.Perm.cons_inv p) IS.2 IQ.2]
theorem nh{a b c:List Int}(h:lex a c=true):lex a b=true ∨ lex b c=true:=by
 cases e1:lex a b with
 |true=>exact .inl rfl
 |false=>
  cases e2:lex b c with
  |true=>exact .inr rfl
  |false=>
   exfalso
   cases e3:lex b a with
   |true=>rw[lex_trans e3 h] at e2;cases e2
   |false=>
    have e:=kW e1 e3
    subst e
    rw[h] at e2;cases e2
end NC
namespace NC
variable {W:Type}
def T.parts:Nat->T W->List (T W×Nat)
 |k,.name w=>[(.name w,k)]
 |k,.place n=>[(.place n,k)]
 |k,.aa b=>(.aa b,k)::b.parts (k+1)
 |k,.call a b=>(.call a b,k)::(a.parts k++b.parts k)
def T.bq:Nat->T W->List (T W×Nat)
 |k,.name w=>[(.name w,k)]
 |k,.place n=>[(.place n,k)]
 |k,.aa b=>(.aa b,k)::b.bq (k+1)
 |k,.call a b=>(.call a b,k)::(b.bq k++a.bq k)
theorem gw:∀(t:T W) (k:Nat),(t.parts k).length=t.size
 | .name _,_=>rfl
 | .place _,_=>rfl
 | .aa b,k=>by show(b.parts (k+1)).length+1=_;rw[gw b];rfl
 | .call a b,k=>by show(a.parts k++b.parts k).length+1=_;rw[List.length_append,gw a,gw b];rfl
theorem cD:∀(t:T W) (k:Nat),(t.bq k).length=t.size
 | .name _,_=>rfl
 | .place _,_=>rfl
 | .aa b,k=>by show(b.bq (k+1)).length+1=_;rw[cD b];rfl
 | .call a b,k=>by show(b.bq k++a.bq k).length+1=_;rw[List.length_append,cD a,cD b,Nat.add_comm b.size];rfl
theorem mX:∀(t:T W) (k:Nat),∀q∈t.parts k,q.2<=k+t.size
 | .name _,k,q,h=>by rw[List.mem_singleton.mp h];exact Nat.le_add_right _ _
 | .place _,k,q,h=>by rw[List.mem_singleton.mp h];exact Nat.le_add_right _ _
 | .aa b,k,q,h=>by
  rcases List.mem_cons.mp h with e|h
  ·rw[e];exact Nat.le_add_right _ _
  ·have:=mX b (k+1) q h
   show q.2<=k+(b.size+1)
   omega
 | .call a b,k,q,h=>by
  show q.2<=k+(a.size+b.size+1)
  rcases List.mem_cons.mp h with e|h
  ·rw[e];exact Nat.le_add_right _ _
  ·rcases List.mem_append.mp h with h|h
   ·have:=mX a k q h
    omega
   ·have:=mX b k q h
    omega
def T.ae(g:T W->Nat->T W):Nat->T W->T W
 |k,.name w=>g (.name w) k
 |k,.place n=>g (.place n) k
 |k,.aa b=> .aa (b.ae g (k+1))
 |k,.call a b=> .call (a.ae g k) (b.ae g k)
def mf(g:T W->Nat->T W):List (T W×Nat)->List (T W)->Option (List (T W))
 |[],S=>some S
 | (.name w,k)::ys,S=>mf g ys (g (.name w) k::S)
 | (.place n,k)::ys,S=>mf g ys (g (.place n) k::S)
 | (.aa _,_)::ys,x::S=>mf g ys (.aa x::S)
 | (.call _ _,_)::ys,x::y::S=>mf g ys (.call x y::S)
 |_,_=>none
def eI(g:T W->Nat->T W):List (T W×Nat)->List (T W)->Option (List (T W))
 |[],S=>some S
 | (.name w,k)::ys,S=>eI g ys (g (.name w) k::S)
 | (.place n,k)::ys,S=>eI g ys (g (.place n) k::S)
 | (.aa _,_)::ys,x::S=>eI g ys (.aa x::S)
 | (.call _ _,_)::ys,x::y::S=>eI g ys (.call y x::S)
 |_,_=>none
section
variable {g:T W->Nat->T W}
theorem jm:∀(t:T W) (k:Nat) (ys:List (T W×Nat)) (S:List (T W)),mf g ((t.parts k).reverse++ys) S=mf g ys (t.ae g k::S)
 | .name _,_,_,_=>rfl
 | .place _,_,_,_=>rfl
 | .aa b,k,ys,S=>by
  show mf g (((.aa b,k)::b.parts (k+1)).reverse++ys) S=_
  rw[List.reverse_cons,List.append_assoc,jm b]
  rfl
 | .call a b,k,ys,S=>by
  show mf g (((.call a b,k)::(a.parts k++b.parts k)).reverse++ys) S=_
  rw[List.reverse_cons,List.reverse_append,List.append_assoc,List.append_assoc,jm b,jm a]
  rfl
theorem dC:∀(t:T W) (k:Nat) (ys:List (T W×Nat)) (S:List (T W)),eI g ((t.bq k).reverse++ys) S=eI g ys (t.ae g k::S)
 | .name _,_,_,_=>rfl
 | .place _,_,_,_=>rfl
 | .aa b,k,ys,S=>by
  show eI g (((.aa b,k)::b.bq (k+1)).reverse++ys) S=_
  rw[List.reverse_cons,List.append_assoc,dC b]
  rfl
 | .call a b,k,ys,S=>by
  show eI g (((.call a b,k)::(b.bq k++a.bq k)).reverse++ys) S=_
  rw[List.reverse_cons,List.reverse_append,List.append_assoc,List.append_assoc,dC a,dC b]
  rfl
theorem BD(t:T W):mf g (t.parts 0).reverse []=some [t.ae g 0]:=by
 have:=jm (g:=g) t 0 [] []
 rw[List.append_nil] at this
 rw[this]
 rfl
theorem qK(t:T W):eI g (t.bq 0).reverse []=some [t.ae g 0]:=by
 have:=dC (g:=g) t 0 [] []
 rw[List.append_nil] at this
 rw[this]
 rfl
theorem zL{b:T W}{k:Nat}{ys:List (T W×Nat)}{S r:List (T W)}(h:mf g ((.aa b,k)::ys) S=some r):∃x S',S=x::S'/\mf g ys (.aa x::S')=some r:=by
 cases S with
 |nil=>cases h
 |cons x S=>exact⟨x,S,rfl,h⟩
theorem zM{a b:T W}{k:Nat}{ys:List (T W×Nat)}{S r:List (T W)}(h:mf g ((.call a b,k)::ys) S=some r):∃x y S',S=x::y::S'/\mf g ys (.call x y::S')=some r:=by
 cases S with
 |nil=>cases h
 |cons x S=>
  cases S with
  |nil=>cases h
  |cons y S=>exact⟨x,y,S,rfl,h⟩
theorem oK{b:T W}{k:Nat}{ys:List (T W×Nat)}{S r:List (T W)}(h:eI g ((.aa b,k)::ys) S=some r):∃x S',S=x::S'/\eI g ys (.aa x::S')=some r:=by
 cases S with
 |nil=>cases h
 |cons x S=>exact⟨x,S,rfl,h⟩
theorem oM{a b:T W}{k:Nat}{ys:List (T W×Nat)}{S r:List (T W)}(h:eI g ((.call a b,k)::ys) S=some r):∃x y S',S=x::y::S'/\eI g ys (.call y x::S')=some r:=by
 cases S with
 |nil=>cases h
 |cons x S=>
  cases S with
  |nil=>cases h
  |cons y S=>exact⟨x,y,S,rfl,h⟩
end
def aO(Jb:Nat):T W->Nat->T W
 | .place n,k=>if k<=n then .place (n+Jb) else .place n
 |t,_=>t
def T.lift(Jb:Nat)(t:T W):T W:=t.ae (aO Jb) 0
def aK(u:T W):T W->Nat->T W
 | .place n,k=>if n < k then .place n else if n=k then u.lift k else .place (n - 1)
 |t,_=>t
def T.fill(t u:T W):T W:=t.ae (aK u) 0
theorem xw:∀(t:T W) (k:Nat),aO 0 t k=t
 | .name _,_=>rfl
 | .place n,k=>by show(if k<=n then T.place (n+0) else T.place n:T W)=_;split<;>rfl
 | .aa _,_=>rfl
 | .call _ _,_=>rfl
theorem jn{g:T W->Nat->T W}(h:∀t k,g t k=t):∀(t:T W) (k:Nat),t.ae g k=t
 | .name _,_=>h _ _
 | .place _,_=>h _ _
 | .aa b,k=>by show T.aa _=_;rw[jn h b]
 | .call a b,k=>by show T.call _ _=_;rw[jn h a,jn h b]
theorem Aj(t:T W):t.lift 0=t:=jn xw t 0
theorem kT(m:Nat):∀(t:T W) (k:Nat),(t.ae (aO m) k).deep=t.deep
 | .name _,_=>rfl
 | .place n,k=>by show(if k<=n then T.place (n+m) else T.place n:T W).deep=_;split<;>rfl
 | .aa b,k=>by show(b.ae (aO m) (k+1)).deep+1=_;rw[kT m b];rfl
 | .call a b,k=>by show max (a.ae (aO m) k).deep (b.ae (aO m) k).deep+1=_;rw[kT m a,kT m b];rfl
theorem i7(u:T W):∀(t:T W) (k:Nat),(t.ae (aK u) k).deep<=t.deep+u.deep
 | .name _,_=>Nat.le_add_right 1 _
 | .place n,k=>by
  show(if n < k then T.place n else if n=k then u.lift k else T.place (n - 1):T W).deep<=1+_
  split
  ·exact Nat.le_add_right 1 _
  ·split
   ·rw[show(u.lift k).deep=u.deep from kT k u 0];omega
   ·exact Nat.le_add_right 1 _
 | .aa b,k=>by
  show(b.ae (aK u) (k+1)).deep+1<=b.deep+1+_
  have:=i7 u b (k+1)
  omega
 | .call a b,k=>by
  show max (a.ae (aK u) k).deep (b.ae (aK u) k).deep+1<=max a.deep b.deep+1+_
  have h1:=i7 u a k
  have h2:=i7 u b k
  omega
theorem kS(m:Nat):∀(t:T W) (k:Nat),(t.ae (aO m) k).size=t.size
 | .name _,_=>rfl
 | .place n,k=>by show(if k<=n then T.place (n+m) else T.place n:T W).size=_;split<;>rfl
 | .aa b,k=>by show(b.ae (aO m) (k+1)).size+1=_;rw[kS m b];rfl
 | .call a b,k=>by show(a.ae (aO m) k).size+(b.ae (aO m) k).size+1=_;rw[kS m a,kS m b];rfl
theorem i6(u:T W):∀(t:T W) (k:Nat),(t.ae (aK u) k).size<=t.size*u.size
 | .name _,_=>by show 1<=1*u.size;have:=u.size_pos;omega
 | .place n,k=>by
  have:=u.size_pos
  show(if n < k then T.place n else if n=k then u.lift k else T.place (n - 1):T W).size<=1*u.size
  split
  ·show 1<=_;omega
  ·split
   ·rw[show(u.lift k).size=u.size from kS k u 0];omega
   ·show 1<=_;omega
 | .aa b,k=>by
  show(b.ae (aK u) (k+1)).size+1<=(b.size+1)*u.size
  have h1:=i6 u b (k+1)
  have:=u.size_pos
  rw[Nat.add_mul]
  omega
 | .call a b,k=>by
  show(a.ae (aK u) k).size+(b.ae (aK u) k).size+1<=(a.size+b.size+1)*u.size
  have h1:=i6 u a k
  have h2:=i6 u b k
  have:=u.size_pos
  rw[Nat.add_mul,Nat.add_mul]
  omega
end NC
namespace NC
open PySem PyProof.Rows PySem.SeqAt
open PySem.AutoSeq1 (wpAny_loadPart')
open PySem.MeetsSeq PySem.MeetsSeq2 PySem.MeetsSeq3
theorem ints_get:∀{vs:List Value}{ns:List Int}{i:Nat},IntsAre vs ns->i < vs.length->∃n t,vs[i]? =some (.int n t)/\ns[i]? =some n
 |_,_,_,.nil,h=>by simp at h
 |_,_,0,.cons n t _,_=>⟨n,t,rfl,rfl⟩
 |_,_,i+1,.cons n t r,h=>by
  obtain⟨n',t',h1,h2⟩:=ints_get (i:=i) r (by simpa using h)
  exact⟨n',t',by simpa using h1,by simpa using h2⟩
theorem EK{ns ms:List Int}{i:Nat}(h:ns.length<=i ∨ ms.length<=i)(hi:i<=ns.length)(hj:i<=ms.length):lex (ns.drop i) (ms.drop i)=decide (ns.length < ms.length):=by
 rcases Nat.lt_or_ge i ns.length with h1|h1
 ·have e2:ms.drop i=[]:=List.drop_of_length_le (by omega)
  rw[e2,List.drop_eq_getElem_cons h1]
  exact(decide_eq_false (by omega)).symm
 ·have e1:ns.drop i=[]:=List.drop_of_length_le h1
  rw[e1]
  rcases Nat.lt_or_ge i ms.length with h2|h2
  ·rw[List.drop_eq_getElem_cons h2]
   exact(decide_eq_true (by omega)).symm
  ·rw[List.drop_of_length_le h2]
   exact(decide_eq_false (by omega)).symm
theorem EH(l b:Addr)(xs ys:Array Value)(n n2:Nat)(dd IX:Option Addr)(sl Hc:Array (Option Value))(ns ms:List Int)(hx:IntsAre xs.toList ns)(hy:IntsAre ys.toList ms)(k:Nat):
  ∀i:Nat,xs.size - i=k->i<=xs.size->i<=ys.size->Meets (Builtin.«list.__eq__.loop» ⟨[.ref l,.ref b,rawInt i,rawInt 0],[]⟩)
   (fun _ R s=>s.heap.get? l=some {cls:= .type "list",dict:=dd,data:= .seq xs n,slots:=sl}/\s.heap.get? b=some {cls:= .type "list",dict:=IX,data:= .seq ys n2,slots:=Hc}/\
    R (.ok (.ret (.bool (lex (ns.drop i) (ms.drop i))))) s):=by
 have zx:xs.size=ns.length:=by rw[<-hx.length];simp
 have zy:ys.size=ms.length:=by rw[<-hy.length];simp
 have stop:∀i:Nat,(xs.size<=i ∨ ys.size<=i)->i<=xs.size->i<=ys.size->Meets (Builtin.«list.__eq__.loop» ⟨[.ref l,.ref b,rawInt i,rawInt 0],[]⟩)
   (fun _ R s=>s.heap.get? l=some {cls:= .type "list",dict:=dd,data:= .seq xs n,slots:=sl}/\s.heap.get? b=some {cls:= .type "list",dict:=IX,data:= .seq ys n2,slots:=Hc}/\
    R (.ok (.ret (.bool (lex (ns.drop i) (ms.drop i))))) s):=by
  intro i ho h1 h2 prog w A R s h
  obtain⟨hp,g,d,tk,os⟩:=s
  obtain⟨hl,hb,h⟩:=h
  rw[EK (by omega) (by omega) (by omega)] at h
  wp_walk using wpAny_loadPart' hl,wpAny_loadPart' hb
  by_cases q:xs.size<=i
  ·have e1:xs[((i:Nat):Int).toNat]? =none:=by simp;omega
   rw[e1]
   wp_walk using wpAny_loadPart' hl,wpAny_loadPart' hb
   show R (.ok (.ret (.bool (decide (xs.size < ys.size))))) _
   rw[zx,zy]
   exact h
  ·have eB:i < xs.size:=by omega
   have e1:xs[((i:Nat):Int).toNat]? =some xs[i]:=by simp[eB]
   have e2:ys[((i:Nat):Int).toNat]? =none:=by simp;omega
   rw[e1,e2]
   wp_walk using wpAny_loadPart' hl,wpAny_loadPart' hb
   show R (.ok (.ret (.bool (decide (xs.size < ys.size))))) _
   rw[zx,zy]
   exact h
 induction k with
 |zero=>
  intro i hk h1 h2
  exact stop i (by omega) h1 h2
 |succ k ih=>
  intro i hk h1 h2
  by_cases q:ys.size<=i
  ·exact stop i (.inr q) h1 h2
  ·intro prog w A R s h
   obtain⟨hp,g,d,tk,os⟩:=s
   obtain⟨hl,hb,h⟩:=h
   have eB:i < xs.size:=by omega
   have QA:i < ys.size:=by omega
   obtain⟨c,t,ec,en⟩:=ints_get (i:=i) hx (by simpa using eB)
   obtain⟨c2,t2,Y9,Y6⟩:=ints_get (i:=i) hy (by simpa using QA)
   have e1:xs[((i:Nat):Int).toNat]? =some (.int c t):=by rw[<-ec];simp
   have e2:ys[((i:Nat):Int).toNat]? =some (.int c2 t2):=by rw[<-Y9];simp
   have dn:ns.drop i=c::ns.drop (i+1):=by
    rw[List.drop_eq_getElem_cons (by omega)]
    congr 1
    exact(List.getElem?_eq_some_iff.mp en).2
   have dm:ms.drop i=c2::ms.drop (i+1):=by
    rw[List.drop_eq_getElem_cons (by omega)]
    congr 1
    exact(List.getElem?_eq_some_iff.mp Y6).2
   rw[dn,dm,show lex (c::ns.drop (i+1)) (c2::ms.drop (i+1))=if c=c2 then lex (ns.drop (i+1)) (ms.drop (i+1)) else decide (c < c2) from rfl] at h
   have hc:((i:Int)+1)=((i+1:Nat):Int):=by push_cast;rfl
   wp_walk using wpAny_loadPart' hl,wpAny_loadPart' hb
   rw[e1,e2]
   refine wpAny_bind (EqAt.int_int (A:=A.in1) (s:=⟨hp,g,d,tk,os⟩) c t c2 t2 prog w _ _ ?_)
   by_cases yR:c=c2
   ·rw[if_pos yR] at h
    rw[show(c==c2)=true by simp[yR]]
    wp_walk
    rw[hc]
    exact⟨plainId_quiet plain_eq_loop _,codeAny_builtin entry_eq_loop (by
     rw[Around.under_plainId plain_eq_loop _]
     exact ih (i+1) (by omega) (by omega) (by omega) prog w A R _ ⟨hl,hb,h⟩)⟩
   ·rw[if_neg yR] at h
    rw[show(c==c2)=false by simp[yR]]
    have X1:∀(E:Value->Shared->Prop) (Q:Value->Shared->Prop),Q (.bool (decide (c < c2))) ⟨hp,g,d,tk,os⟩->wpAny (model prog w) A.in1 (richCompare .Lt (.int c t) (.int c2 t2)) Q E ⟨hp,g,d,tk,os⟩:=
     fun E Q hq=>(PyProof.Rows.lt_int hq:wpAny (model prog w) A.in1 (compareOp .Lt (.int c t) (.int c2 t2)) Q E ⟨hp,g,d,tk,os⟩)
    wp_walk using wpAny_loadPart' hl,wpAny_loadPart' hb
    rw[e1,e2]
    wp_walk using X1
    exact h
theorem EJ(l b:Addr)(xs ys:Array Value)(n n2:Nat)(dd IX:Option Addr)(sl Hc:Array (Option Value))(ns ms:List Int)(hx:IntsAre xs.toList ns)(hy:IntsAre ys.toList ms):
  Meets (Builtin.«list.__lt__» ⟨[.ref l,.ref b],[]⟩)
   (fun _ R s=>s.heap.get? l=some {cls:= .type "list",dict:=dd,data:= .seq xs n,slots:=sl}/\s.heap.get? b=some {cls:= .type "list",dict:=IX,data:= .seq ys n2,slots:=Hc}/\
    R (.ok (.ret (.bool (lex ns ms)))) s):=by
 intro prog w A R s h
 obtain⟨hp,g,d,tk,os⟩:=s
 obtain⟨hl,hb,h⟩:=h
 have f3:=AutoSeq1.sub_list_list
 wp_walk using wpAny_loadPart' hl,wpAny_loadPart' hb
 exact⟨plainId_quiet plain_eq_loop _,codeAny_builtin entry_eq_loop (by
  rw[Around.under_plainId plain_eq_loop _]
  exact EH l b xs ys n n2 dd IX sl Hc ns ms hx hy _ 0 rfl (Nat.zero_le _) (Nat.zero_le _) prog w A R _ ⟨hl,hb,by simpa using h⟩)⟩
end NC
namespace NC
open PySem PySem.W PyProof.Rows
section
variable {α β:Type}{n:Nat}{lt:Nat->Nat->Bool}
def jQ(n:Nat)(lt:Nat->Nat->Bool){α:Type}:KasT α->(α->Prop)->Prop
 | .ret a,R=>R a
 | .ask i j k,R=>i < n/\j < n/\jQ n lt (k (lt i j)) R
theorem jQ.mono{R R':α->Prop}(m:∀a,R a->R' a):∀{t:KasT α},jQ n lt t R->jQ n lt t R'
 | .ret a,h=>m a h
 | .ask _ _ k,h=>⟨h.1,h.2.1,jQ.mono m (t:=k _) h.2.2⟩
theorem jQ.bind{f:α->KasT β}{R:β->Prop}:∀{t:KasT α},jQ n lt t (fun a=>jQ n lt (f a) R)->jQ n lt (t.bind f) R
 | .ret _,h=>h
 | .ask _ _ k,h=>⟨h.1,h.2.1,jQ.bind (t:=k _) h.2.2⟩
end
section
variable (key:Nat->List Int)
def Kp(p:Array Nat)(i:Nat):List Int:=key (p.getD i 0)
def uR(a b:List Int):Prop:=lex b a=false
theorem fY(a:List Int):uR a a:=lex_irrefl a
theorem kY{a b:List Int}(h:lex a b=true):uR a b:=by
 unfold uR
 cases e:lex b a with
 |false=>rfl
 |true=>
  have:=lex_trans h e
  rw[lex_irrefl] at this
  cases this
theorem kX{a b c:List Int}(h1:uR a b)(h2:uR b c):uR a c:=by
 unfold uR at*
 cases e:lex c a with
 |false=>rfl
 |true=>
  rcases nh (b:=b) e with q|q
  ·rw[h2] at q;cases q
  ·rw[h1] at q;cases q
theorem Cm{a b:List Int}(h1:uR a b)(h2:uR b a):a=b:=kW h2 h1
theorem HM{a b c:List Int}(h1:lex a b=true)(h2:uR b c):lex a c=true:=by
 rcases nh (b:=c) h1 with q|q
 ·exact q
 ·have IQ:lex c b=false:=h2
  rw[IQ] at q;cases q
variable {key}
def Up(key:Nat->List Int)(p:Array Nat)(m:Nat):Prop:=∀i j,i<=j->j < m->uR (Kp key p i) (Kp key p j)
def Dn(key:Nat->List Int)(p:Array Nat)(m:Nat):Prop:=∀i j,i<=j->j < m->uR (Kp key p j) (Kp key p i)
variable {n:Nat}{p:Array Nat}
structure Pm(n:Nat)(p:Array Nat):Prop where
 perm:p.Perm (List.toArray (List.range n))
theorem Pm.size(h:Pm n p):p.size=n:=by rw[h.perm.size_eq];simp
theorem Pm.lt(h:Pm n p){i:Nat}(hi:i < n):p.getD i 0 < n:=by
 have Yr:i < p.size:=by rw[h.size];exact hi
 have e:p.getD i 0=p[i]:=by simp[Array.getD,Yr]
 rw[e]
 have m:p[i]∈(List.range n):=(Array.perm_iff_toList_perm.mp h.perm).mem_iff.mp (by simp)
 exact List.mem_range.mp m
theorem Pm.rev(h:Pm n p)(i j:Nat):Pm n (kas_rev p i j):=⟨(mirror_perm _ _ _ _).trans h.perm⟩
theorem Pm.Zl(h:Pm n p)(i j:Nat):Pm n (bubble p i j):=⟨(bubble_perm _ _ _).trans h.perm⟩
theorem nG{x y:Array Nat}{i j:Nat}(h:x[i]? =y[j]?):x.getD i 0=y.getD j 0:=by
 rw[Array.getD_eq_getD_getElem?,Array.getD_eq_getD_getElem?,h]
theorem yc{i j:Nat}(hj:j<=p.size)(k:Nat):Kp key (kas_rev p i j) k=if i<=k/\k < j then Kp key p (i+j - 1 - k) else Kp key p k:=by
 have e:=getElem?_mirror_all (xs:=p) (i:=i) hj k
 unfold Kp kas_rev
 split
 ·rename_i c;rw[if_pos c] at e;exact congrArg key (nG e)
 ·rename_i c;rw[if_neg c] at e;exact congrArg key (nG e)
theorem o3{i j:Nat}(hj:j<=p.size)(he:∀k,i<=k->k < j->Kp key p k=Kp key p (j - 1))(k:Nat):Kp key (kas_rev p i j) k=Kp key p k:=by
 rw[yc hj]
 split
 ·rw[he _ (by omega) (by omega),he k (by omega) (by omega)]
 ·rfl
theorem Dr{src d:Nat}(hs:src < p.size)(hd:d<=src)(k:Nat):
  Kp key (bubble p src d) k=if k=src - d then Kp key p src else if src - d < k/\k<=src then Kp key p (k - 1) else Kp key p k:=by
 have e:=getElem?_bubble hs d hd k
 by_cases c:k=src - d
 ·rw[if_pos c] at e ⊢;exact congrArg key (nG e)
 ·rw[if_neg c] at e ⊢
  by_cases c2:src - d < k/\k<=src
  ·rw[if_pos c2] at e ⊢;exact congrArg key (nG e)
  ·rw[if_neg c2] at e ⊢;exact congrArg key (nG e)
def xt(key:Nat->List Int)(i j:Nat):Bool:=lex (key i) (key j)
theorem GU:Up key p 1:=fun i j h1 h2=>by
 have e:i=j:=by omega
 rw[e];exact fY _
theorem DP{x:Nat}(h:Up key p x)(h1:uR (Kp key p (x - 1)) (Kp key p x)):Up key p (x+1):=fun i j CA hj=>by
 by_cases LR:j < x
 ·exact h i j CA LR
 ·have e:j=x:=by omega
  subst e
  by_cases hi:i=j
  ·rw[hi];exact fY _
  ·exact kX (h i (j - 1) (by omega) (by omega)) h1
theorem y7{x:Nat}(h:Dn key p x)(h1:uR (Kp key p x) (Kp key p (x - 1))):Dn key p (x+1):=fun i j CA hj=>by
 by_cases LR:j < x
 ·exact h i j CA LR
 ·have e:j=x:=by omega
  subst e
  by_cases hi:i=j
  ·rw[hi];exact fY _
  ·exact kX h1 (h i (j - 1) (by omega) (by omega))
theorem CV{p':Array Nat}{x:Nat}(h:Dn key p x)(e:∀k,Kp key p' k=Kp key p k):Dn key p' x:=fun i j CA hj=>by rw[e,e];exact h i j CA hj
theorem Cp(hp:Pm n p):∀(f m:Nat),1<=m->m+f<=n->Up key p m->
  jQ n (xt key) (kas_asc p f m) (fun x=>m<=x/\x<=m+f/\Up key p x/\(x=m+f ∨ lex (Kp key p x) (Kp key p (x - 1))=true))
 |0,m,h1,h2,h3=>⟨Nat.le_refl _,Nat.le_refl _,h3,.inl rfl⟩
 |f+1,m,h1,h2,h3=>by
  refine⟨hp.lt (by omega),hp.lt (by omega),?_⟩
  show jQ n (xt key) (if lex (Kp key p m) (Kp key p (m - 1))=true then _ else _) _
  cases e:lex (Kp key p m) (Kp key p (m - 1)) with
  |true=>exact⟨Nat.le_refl _,by omega,h3,.inr e⟩
  |false=>
   refine jQ.mono (fun x hx=>?_) (Cp hp f (m+1) (by omega) (by omega) (DP h3 e))
   exact⟨by omega,by omega,hx.2.2.1,hx.2.2.2.imp (fun q=>by omega) fun q=>q⟩
theorem yH{m jT:Nat}(hp:Pm n p)(hn:jT<=n)(h1:1<=m)(h2:m<=jT)(hs:Dn key p m):
  jQ n (xt key) (kas_tail3 m jT p) (fun r=>Pm n r.2/\1<=r.1/\r.1<=jT/\Up key r.2 r.1):=by
 refine jQ.bind (jQ.mono (fun x hx=>?_) (Cp (hp.rev 0 m) (jT - m) m h1 (by omega) fun i j CA hj=>?_))
 ·exact⟨hp.rev 0 m,by omega,by omega,hx.2.2.1⟩
 ·have hsz:m<=p.size:=by rw[hp.size];omega
  rw[yc hsz,yc hsz,if_pos (by omega),if_pos (by omega)]
  exact hs _ _ (by omega) (by omega)
theorem ui:∀(f:Nat) (p:Array Nat) (m q:Nat),Pm n p->1<=m->m+f<=n->Dn key p m->q+1<=m->(∀i,m - (q+1)<=i->i < m->Kp key p i=Kp key p (m - 1))->
  jQ n (xt key) (kas_desc f p m q) (fun r=>Pm n r.1/\m<=r.2.1/\r.2.1<=m+f/\Dn key r.1 r.2.1/\r.2.2+1<=r.2.1/\∀i,r.2.1 - (r.2.2+1)<=i->i < r.2.1->Kp key r.1 i=Kp key r.1 (r.2.1 - 1))
 |0,p,m,q,hp,h1,h2,h3,h4,h5=>⟨hp,Nat.le_refl _,Nat.le_refl _,h3,h4,h5⟩
 |f+1,p,m,q,hp,h1,h2,h3,h4,h5=>by
  refine⟨hp.lt (by omega),hp.lt (by omega),?_⟩
  have hsz:m<=p.size:=by rw[hp.size];omega
  show jQ n (xt key) (if lex (Kp key p m) (Kp key p (m - 1))=true then _ else _) _
  cases e:lex (Kp key p m) (Kp key p (m - 1)) with
  |true=>
   rw[if_pos rfl]
   have hd:Dn key p (m+1):=y7 h3 (kY e)
   by_cases hq:q > 0
   ·rw[if_pos hq]
    refine jQ.mono (fun r hr=>⟨hr.1,by omega,by omega,hr.2.2.2⟩) (ui f _ (m+1) 0 (hp.rev _ _) (by omega) (by omega) (CV hd (o3 hsz h5)) (by omega) fun i a b=>?_)
    rw[show i=m+1 - 1 by omega]
   ·rw[if_neg hq]
    refine jQ.mono (fun r hr=>⟨hr.1,by omega,by omega,hr.2.2.2⟩) (ui f p (m+1) 0 hp (by omega) (by omega) hd (by omega) fun i a b=>?_)
    rw[show i=m+1 - 1 by omega]
  |false=>
   rw[if_neg Bool.false_ne_true]
   refine⟨hp.lt (by omega),hp.lt (by omega),?_⟩
   show jQ n (xt key) (if lex (Kp key p (m - 1)) (Kp key p m)=true then _ else _) _
   cases e2:lex (Kp key p (m - 1)) (Kp key p m) with
   |true=>exact⟨hp,Nat.le_refl _,Nat.le_add_right _ _,h3,h4,h5⟩
   |false=>
    rw[if_neg Bool.false_ne_true]
    have heq:Kp key p m=Kp key p (m - 1):=kW e e2
    refine jQ.mono (fun r hr=>⟨hr.1,by omega,by omega,hr.2.2.2⟩) (ui f p (m+1) (q+1) hp (by omega) (by omega) (y7 h3 (by rw[heq];exact fY _)) (by omega) fun i a b=>?_)
    rw[show m+1 - 1=m by omega]
    by_cases hi:i=m
    ·rw[hi]
    ·rw[heq];exact h5 i (by omega) (by omega)
theorem rh{m jT:Nat}(hp:Pm n p)(hn:jT<=n)(h2:m+1<=jT)(hs:Dn key p (m+1)):
  jQ n (xt key) (kas_descPart m jT p) (fun r=>Pm n r.2/\1<=r.1/\r.1<=jT/\Up key r.2 r.1):=by
 refine jQ.bind (jQ.mono (fun r hr=>?_) (ui (jT - (m+1)) p (m+1) 0 hp (by omega) (by omega) hs (by omega) fun i a b=>by rw[show i=m+1 - 1 by omega]))
 obtain⟨q1,q2,q3,q4,q5,q6⟩:=hr
 have hsz:r.2.1<=r.1.size:=by rw[q1.size];omega
 by_cases hq:r.2.2 > 0
 ·rw[if_pos hq]
  exact yH (q1.rev _ _) hn (by omega) (by omega) (CV q4 (o3 hsz q6))
 ·rw[if_neg hq]
  exact yH q1 hn (by omega) (by omega) q4
theorem ER{jT:Nat}(hp:Pm n p)(hn:jT<=n)(h1:1<=jT):
  jQ n (xt key) (kas_count jT p) (fun r=>Pm n r.2/\1<=r.1/\r.1<=jT/\Up key r.2 r.1):=by
 refine jQ.bind (jQ.mono (fun x hx=>?_) (Cp hp (jT - 1) 1 (Nat.le_refl _) (by omega) GU))
 obtain⟨a1,a2,a3,a4⟩:=hx
 by_cases Ux:x=jT
 ·rw[if_pos (by simpa using Ux)]
  exact⟨hp,a1,by omega,a3⟩
 ·rw[if_neg (by simpa using Ux)]
  have eB:lex (Kp key p x) (Kp key p (x - 1))=true:=a4.resolve_left (by omega)
  have hsz:x<=p.size:=by rw[hp.size];omega
  by_cases UH:x > 1
  ·rw[if_pos UH]
   refine⟨hp.lt (by omega),hp.lt (by omega),?_⟩
   show jQ n (xt key) (if lex (Kp key p 0) (Kp key p (x - 1))=true then _ else _) _
   cases e:lex (Kp key p 0) (Kp key p (x - 1)) with
   |true=>exact⟨hp,a1,by omega,a3⟩
   |false=>
    rw[if_neg Bool.false_ne_true]
    have uw:∀k,0<=k->k < x->Kp key p k=Kp key p (x - 1):=fun k _ hk=>
     Cm (a3 k (x - 1) (by omega) (by omega)) (kX (show uR (Kp key p (x - 1)) (Kp key p 0) from e) (a3 0 k (by omega) hk))
    refine rh (hp.rev _ _) hn (by omega) (CV (p:=p) (fun i j CA hj=>?_) (o3 hsz uw))
    by_cases LR:j < x
    ·rw[uw i (by omega) (by omega),uw j (by omega) LR];exact fY _
    ·have ej:j=x:=by omega
     subst ej
     by_cases hi:i=j
     ·rw[hi];exact fY _
     ·rw[uw i (by omega) (by omega)];exact kY eB
  ·rw[if_neg UH]
   have ex:x=1:=by omega
   subst ex
   refine rh hp hn (by omega) fun i j CA hj=>?_
   by_cases hi:i=j
   ·rw[hi];exact fY _
   ·have Yq:i=0:=by omega
    have Yo:j=1:=by omega
    rw[Yq,Yo]
    exact kY eB
theorem uh{k:Nat}(hp:Pm n p)(hk:k < n)(hu:Up key p k):∀(f l r:Nat),l<=r->r<=k->r - l<=f->(∀i,i < l->uR (Kp key p i) (Kp key p k))->(∀i,r<=i->i < k->lex (Kp key p k) (Kp key p i)=true)->
  jQ n (xt key) (kas_place p k f l r) (fun x=>x<=k/\(∀i,i < x->uR (Kp key p i) (Kp key p k))/\∀i,x<=i->i < k->lex (Kp key p k) (Kp key p i)=true)
 |0,l,r,h1,h2,h3,h4,h5=>by
  have e:l=r:=by omega
  subst e
  exact⟨h2,h4,h5⟩
 |f+1,l,r,h1,h2,h3,h4,h5=>by
  unfold kas_place
  by_cases yQ:l≥r
  ·rw[if_pos yQ]
   have e:l=r:=by omega
   subst e
   exact⟨h2,h4,h5⟩
  ·rw[if_neg yQ]
   refine⟨hp.lt hk,hp.lt (by omega),?_⟩
   show jQ n (xt key) (if lex (Kp key p k) (Kp key p ((l+r) / 2))=true then _ else _) _
   cases e:lex (Kp key p k) (Kp key p ((l+r) / 2)) with
   |true=>exact uh hp hk hu f l ((l+r) / 2) (by omega) (by omega) (by omega) h4 fun i a b=>HM e (hu _ _ a b)
   |false=>exact uh hp hk hu f ((l+r) / 2+1) r (by omega) (by omega) (by omega) (fun i a=>kX (hu i ((l+r) / 2) (by omega) (by omega)) e) h5
theorem Ge:∀(f:Nat) (p:Array Nat) (k:Nat),Pm n p->k+f=n->Up key p k->jQ n (xt key) (kas_bin f p k) (fun p'=>Pm n p'/\Up key p' n)
 |0,p,k,hp,hk,hu=>by
  have e:k=n:=by omega
  subst e
  exact⟨hp,hu⟩
 |f+1,p,k,hp,hk,hu=>by
  refine jQ.bind (jQ.mono (fun l hl=>?_) (uh hp (by omega) hu k 0 k (by omega) (Nat.le_refl _) (by omega) (fun i hi=>by omega) fun i a b=>by omega))
  obtain⟨a1,a2,a3⟩:=hl
  refine Ge f _ (k+1) (hp.Zl _ _) (by omega) fun i j CA hj=>?_
  have UC:k < p.size:=by rw[hp.size];omega
  rw[Dr UC (by omega),Dr UC (by omega),show k - (k - l)=l by omega]
  repeat' split
  all_goals first
   | (exfalso;omega)
   |exact fY _
   |exact a2 _ (by omega)
   |exact kY (a3 _ (by omega) (by omega))
   |exact hu _ _ (by omega) (by omega)
theorem Ic(h:1<=n):jQ n (xt key) (kas_sort n) (fun p=>Pm n p/\Up key p n):=by
 refine jQ.bind (jQ.mono (fun r hr=>?_) (ER ⟨Array.Perm.refl _⟩ (Nat.le_refl n) h))
 obtain⟨a1,a2,a3,a4⟩:=hr
 by_cases eB:r.1 < n
 ·rw[if_pos eB]
  have e:max r.1 1=r.1:=by omega
  rw[e]
  exact Ge _ _ _ a1 (by omega) a4
 ·rw[if_neg eB]
  have e:r.1=n:=by omega
  rw[e] at a4
  exact⟨a1,a4⟩
end
open PySem PySem.Spec PyProof.Rows L2
def bh(L:List Addr)(H H':Hp):Prop:=∀b o,b∉L->H b=some o->H' b=some o
def bY(H H':Hp):Prop:=∀b xs,H b=some (.tup xs)->H' b=some (.tup xs)
section
variable {L L':List Addr}{H H1 H2 H':Hp}{p l:Addr}{o:HO}{xs ys:List V}
theorem bh.refl(L:List Addr)(H:Hp):bh L H H:=fun _ _ _ h=>h
theorem bh.trans(a:bh L H H1)(b:bh L H1 H2):bh L H H2:=fun c o n h=>b c o n (a c o n h)
theorem bh.mono(a:bh L H H1)(h:∀x∈L,x∈L'):bh L' H H1:=fun c o n q=>a c o (fun z=>n (h c z)) q
theorem bh.of_same(a:aQ H H1):bh L H H1:=fun c o _ q=>a c o q
theorem bZ(hp:H p=none):aQ H (upd H p o):=fun b u h=>by rw[aF (aY h hp)];exact h
theorem rf(h:l∈L):bh L H (upd H l o):=fun b u n q=>by
 rw[aF (fun z=>n (by rw[z];exact h))];exact q
theorem bY.refl(H:Hp):bY H H:=fun _ _ h=>h
theorem bY.trans(a:bY H H1)(b:bY H1 H2):bY H H2:=fun c o h=>b c o (a c o h)
theorem bY.of_same(a:aQ H H1):bY H H1:=fun c _ h=>a c _ h
theorem bh.cM(a:bh L H H1)(h:∀x∈L,∃ys,H x=some (.lst ys)):bY H H1:=fun c ys q=>a c _ (fun z=>by
 obtain⟨zs,e⟩:=h c z
 rw[e] at q;cases q) q
theorem bh.dS(a:bh [l] H H1)(h:H l=some (.lst xs)):bY H H1:=a.cM fun x hx=>⟨xs,by rw[List.mem_singleton.mp hx];exact h⟩
theorem bh.at(a:bh [l] H H1){b:Addr}{u:HO}(h:H b=some u)(n:b≠l):H1 b=some u:=a b u (by simpa using n) h
theorem bh.sub(a:bh [l] H H1)(h:l∈L):bh L H H1:=a.mono fun x hx=>by rw[List.mem_singleton.mp hx];exact h
theorem bN{H0:Hp}(s:aQ H0 H)(k:bh L H H1)(n:∀x∈L,H0 x=none):aQ H0 H1:=fun b o h=>k b o (fun z=>by rw[n b z] at h;cases h) (s b o h)
theorem bH{H0:Hp}(s:aQ H0 H)(k:bh [l] H H1)(n:H0 l=none):aQ H0 H1:=bN s k fun x hx=>by rw[List.mem_singleton.mp hx];exact n
end
theorem ia{c A B:Prop}[Decidable c](hc:c)(h:A):if decide c=true then A else B:=by rw[decide_eq_true hc,if_pos rfl];exact h
theorem dh{c A B:Prop}[Decidable c](hc:¬c)(h:B):if decide c=true then A else B:=by rw[decide_eq_false hc,if_neg Bool.false_ne_true];exact h
theorem rk{c A B:Prop}[Decidable c](hc:¬c)(h:A):if (!decide c)=true then A else B:=by rw[decide_eq_false hc];exact h
theorem oV{c A B:Prop}[Decidable c](hc:c)(h:B):if (!decide c)=true then A else B:=by rw[decide_eq_true hc];exact h
theorem uj{c A B:Prop}[Decidable c](h1:c->A)(h2:¬c->B):if decide c=true then A else B:=by
 by_cases h:c
 ·exact ia h (h1 h)
 ·exact dh h (h2 h)
theorem Ij{b:Bool}{A B:Prop}(h1:b=true->A)(h2:b=false->B):if b=true then A else B:=by
 cases b with
 |true=>exact h1 rfl
 |false=>exact h2 rfl
theorem bW{α:Type}{a:α}{r:List α}:uU (a::r) 0=some a:=jE (j:=0) rfl
theorem gb{α:Type}{a b:α}{r:List α}:uU (a::b::r) 1=some b:=jE (j:=1) rfl
theorem at2{α:Type}{a b c:α}{r:List α}:uU (a::b::c::r) 2=some c:=jE (j:=2) rfl
theorem Vf{α:Type}{xs:List α}{i:Int}(h0:0<=i)(h1:i < xs.length):∃v,uU xs i=some v/\v∈xs:=by
 have hj:i.toNat < xs.length:=by omega
 refine⟨xs[i.toNat],?_,List.getElem_mem hj⟩
 have e:((i.toNat:Nat):Int)=i:=by omega
 have q:=jE (xs:=xs) (j:=i.toNat) (v:=xs[i.toNat]) (by simp[hj])
 rw[e] at q
 exact q
theorem small{n:Nat}(h:n<=1000000):n < sizeLine:=by rw[sizeLine_eq];omega
theorem az{n:Nat}(h:n<=1000000):n<=sizeLine:=Nat.le_of_lt (small h)
abbrev Tm:=T Str
inductive au(H:Hp):V->Tm->Prop where
 |name {a:Addr}{w:Str} (h:H a=some (.tup [.str "name",.str w])):au H (.ref a) (.name w)
 |place {a:Addr}{n:Nat} (h:H a=some (.tup [.str "place",.int n])):au H (.ref a) (.place n)
 |aa {a:Addr}{v:V}{b:Tm} (h:H a=some (.tup [.str "form",v])) (hb:au H v b):au H (.ref a) (.aa b)
 |call {a:Addr}{v u:V}{x y:Tm} (h:H a=some (.tup [.str "call",v,u])) (hx:au H v x) (hy:au H u y):au H (.ref a) (.call x y)
theorem au.mono{H H':Hp}{v:V}{t:Tm}(h:au H v t)(k:bY H H'):au H' v t:=by
 induction h with
 |name h=>exact .name (k _ _ h)
 |place h=>exact .place (k _ _ h)
 |aa h _ ih=>exact .aa (k _ _ h) ih
 |call h _ _ i1 i2=>exact .call (k _ _ h) i1 i2
theorem au.same{H H':Hp}{v:V}{t:Tm}(h:au H v t)(k:aQ H H'):au H' v t:=h.mono (.of_same k)
def tag:Tm->Str
 | .name _=>"name"
 | .place _=>"place"
 | .aa _=>"form"
 | .call _ _=>"call"
theorem au.tup{H:Hp}{v:V}{t:Tm}(h:au H v t):∃a x r,v= .ref a/\H a=some (.tup (.str (tag t)::x::r)):=by
 cases h with
 |name h=>exact⟨_,_,_,rfl,h⟩
 |place h=>exact⟨_,_,_,rfl,h⟩
 |aa h _=>exact⟨_,_,_,rfl,h⟩
 |call h _ _=>exact⟨_,_,_,rfl,h⟩
theorem pE:¬(V.str "name"=V.str "form"):=by decide+kernel
theorem pF:¬(V.str "name"=V.str "call"):=by decide+kernel
theorem Ab:¬(V.str "name"=V.str "place"):=by decide+kernel
theorem pC:¬(V.str "place"=V.str "form"):=by decide+kernel
theorem pD:¬(V.str "place"=V.str "call"):=by decide+kernel
theorem KS:¬(V.str "place"=V.str "name"):=by decide+kernel
theorem vB:¬(V.str "form"=V.str "call"):=by decide+kernel
theorem KY:¬(V.str "form"=V.str "name"):=by decide+kernel
theorem HG:¬(V.str "form"=V.str "place"):=by decide+kernel
theorem m7:¬(V.str "call"=V.str "form"):=by decide+kernel
theorem KZ:¬(V.str "call"=V.str "name"):=by decide+kernel
theorem HH:¬(V.str "call"=V.str "place"):=by decide+kernel
theorem qy(t:Tm):decide (V.str (tag t)=V.str "form")=t.bx:=by
 cases t with
 |name _=>exact decide_eq_false pE
 |place _=>exact decide_eq_false pC
 |aa _=>exact decide_eq_true rfl
 |call _ _=>exact decide_eq_false m7
theorem bo{α β:Type}{F:α->β->Prop}:∀{xs:List α}{ys:List β}{y:β},Paired F xs (ys++[y])->∃iJ x,xs=iJ++[x]/\Paired F iJ ys/\F x y
 |[],[],_,h=>nomatch h
 |[],_::_,_,h=>nomatch h
 |x::xs,[],y,.cons r t=>by
  cases t
  exact⟨[],x,rfl,.nil,r⟩
 |x::xs,z::ys,y,.cons r t=>by
  obtain⟨iJ,x',e,p,q⟩:=bo (xs:=xs) (ys:=ys) t
  exact⟨x::iJ,x',by rw[e];rfl,.cons r p,q⟩
theorem aJ{α β:Type}{F:α->β->Prop}{x:α}{y:β}(q:F x y):∀{xs:List α}{ys:List β},Paired F xs ys->Paired F (xs++[x]) (ys++[y])
 |_,_,.nil=> .cons q .nil
 |_,_,.cons r t=> .cons r (aJ q t)
theorem fS{α:Type}{xs:List α}(h:xs≠[]):∃ys y,xs=ys++[y]:=⟨xs.dropLast,xs.getLast h,(List.dropLast_concat_getLast h).symm⟩
theorem cC{α β:Type}{F:α->β->Prop}{xs:List α}(p:Paired F xs ([]:List β)):xs=[]:=by cases p;rfl
theorem cm{α β:Type}{F:α->β->Prop}:∀{xs:List α}{ys:List β}{i:Nat}{x:α},Paired F xs ys->xs[i]? =some x->∃y,ys[i]? =some y/\F x y
 |_,_,_,_,.nil,e=>by simp at e
 |_,_,0,_,.cons r _,e=>by simp at e;subst e;exact⟨_,rfl,r⟩
 |_,_,i+1,x,.cons _ t,e=>by
  obtain⟨u,h1,h2⟩:=cm (i:=i) (x:=x) t (by simpa using e)
  exact⟨u,by simpa using h1,h2⟩
theorem aq{α β:Type}{F G:α->β->Prop}(f:∀a b,F a b->G a b):∀{xs:List α}{ys:List β},Paired F xs ys->Paired G xs ys
 |_,_,.nil=> .nil
 |_,_,.cons r t=> .cons (f _ _ r) (aq f t)
def dD:Expr->Bool
 | .Starred .. =>false
 |_=>true
theorem bP{e:Expr}{es:List Expr}{env:Env}(h:dD e=true):starEach (e::es) env=(false,eval e env)::starEach es env:=by
 cases e<;>first|rfl|exact(Bool.false_ne_true h).elim
theorem eE{pos:Pos}{env:Env}:∀{es:List Expr},es.all dD=true->(backTo pos (starEach es env)).any (·.1)=false
 |[],_=>rfl
 |e::es,h=>by
  rw[List.all_cons,Bool.and_eq_true] at h
  rw[bP h.1]
  show(false||(backTo pos (starEach es env)).any (·.1))=false
  rw[eE h.2]
  rfl
theorem qB{pos:Pos}{env:Env}:∀{es:List Expr},es.all dD=true->(backTo pos (starEach es env)).all (fun x=> !x.1)=true
 |[],_=>rfl
 |e::es,h=>by
  rw[List.all_cons,Bool.and_eq_true] at h
  rw[bP h.1]
  show(true&&(backTo pos (starEach es env)).all (fun x=> !x.1))=true
  rw[qB h.2]
  rfl
theorem ak{X:Cx}{e:Expr}{es:List Expr}{te:TE}{t:TA}(ha:PE X e te)(hr:PA X es t)(h:dD e=true:=by rfl):PA X (e::es) (gC te t):=En ha hr (bP h)
section
variable {X:Cx}{x:Str}{p pos:Pos}{e:Expr}{es:List Expr}{t:TA}{id T:String}{r:List V->Hp->VK->Prop}
theorem mh(hc:cE X (.builtin id) r)(hg:Gl X x)(hm:X.mg x=none)(hv:bootBuiltins x=some (.builtin id))(ha:PA X (e::es) t)(h:(e::es).all dD=true:=by rfl)(hn:x≠"__name__":=by decide)(vL:(x==("__debug__":Str))=false:=by decide):
  PE X (.Call (.Name x p) (e::es) [] pos) (Nk r t):=by
 rw[List.all_cons,Bool.and_eq_true] at h
 exact BX hc hg hm hv ha hn vL (bP h.1) (eE h.2)
theorem O1(hc:cE X (.type T) r)(hg:Gl X x)(hm:X.mg x=none)(hv:bootBuiltins x=some (.type T))(ha:PA X (e::es) t)(h:(e::es).all dD=true:=by rfl)(hn:x≠"__name__":=by decide)(vL:(x==("__debug__":Str))=false:=by decide):
  PE X (.Call (.Name x p) (e::es) [] pos) (Nk r t):=by
 rw[List.all_cons,Bool.and_eq_true] at h
 exact zQ hc hg hm hv ha hn vL (bP h.1) (eE h.2)
end
def GF(P:Program)(w:World)(K:W.Frag)(mg:Str->Option Value)(base:Heap)(CX:mB)(k:Nat)(x:Str)(ps:List Str)(sp:Sp):Prop:=
 ∃f fd,cg P w K mg base CX k f fd ps sp/\mg x=some (.ref f)/\PySem.W.keepIn K (.ref f)=true/\Binds K fd ps []
section
variable {X:Cx}{CX:mB}{k:Nat}{ps:List Str}{sp:Sp}{E:XK}{x:Str}{p pos:Pos}{e:Expr}{es:List Expr}{t:TA}
theorem cA(G:GF X.prog X.w X.K X.mg X.base CX k x ps sp)(hr:dr k X.A)(hg:Gl X x)(hx:Passes CX X E)(ha:PA X (e::es) t)(h:(e::es).all dD=true:=by rfl)(vL:(x==("__debug__":Str))=false:=by decide):
  PE X (.Call (.Name x p) (e::es) [] pos) (FL sp [] E t):=by
 obtain⟨f,fd,F,hm,hk,hb⟩:=G
 rw[List.all_cons,Bool.and_eq_true] at h
 exact Em F hr hg hm hk hb .nil hx ha vL (bP h.1) (eE h.2)
end
section
variable {X:Cx}
theorem gy.imp{f:Value->Value->Sem Value}{r r':R2}(h:gy X f r)(m:∀x y H Q,r' x y H Q->r x y H Q):gy X f r':=fun pins s σ H x y v u Q I rx ry q=>h pins s σ H x y v u Q I rx ry (m _ _ _ _ q)
theorem cE.imp{f:Value}{r r':List V->Hp->VK->Prop}(h:cE X f r)(m:∀xs H Q,r' xs H Q->r xs H Q):cE X f r':=fun pins s σ H xs us Q I rx q=>h pins s σ H xs us Q I rx (m _ _ _ q)
theorem Bi.imp{id:String}{r r':V->List V->Hp->VK->Prop}(h:Bi X id r)(m:∀x xs H Q,r' x xs H Q->r x xs H Q):Bi X id r':=fun pins s σ H x xs v us Q I rx rs q=>h pins s σ H x xs v us Q I rx rs (m _ _ _ _ q)
inductive MW(x:V)(vs:List V)(H:Hp)(Q:VK):Prop where
 |mk(l:_)(xs:_)(y:_)(c1:x= .ref l)(c2:vs=[y])(c3:H l=some (.lst xs))(c4:xs.length < sizeLine)(c5:∀H',bh [l] H H'->H' l=some (.lst (xs++[y]))->Q .d0 H')
def Kw:V->List V->Hp->VK->Prop:=fun x vs H Q=>MW x vs H Q
theorem HJ:Bi X "list.append" Kw:=Bi.imp Ad fun _ _ _ _ ⟨l,xs,y,e1,e2,h1,h2,q⟩=>⟨l,xs,y,e1,e2,h1,h2,q _ (rf (by simp)) aH⟩
inductive SJ(x:V)(vs:List V)(H:Hp)(Q:VK):Prop where
 |mk(l:_)(xs:_)(y:_)(c1:x= .ref l)(c2:vs=[])(c3:H l=some (.lst (xs++[y])))(c4:∀H',bh [l] H H'->H' l=some (.lst xs)->Q y H')
def Tb:V->List V->Hp->VK->Prop:=fun x vs H Q=>SJ x vs H Q
theorem K0:Bi X "list.pop" Tb:=Bi.imp HI fun _ _ _ _ ⟨l,xs,y,e1,e2,h1,q⟩=>⟨l,_,y,e1,e2,h1,by simp,by
 have e:(xs++[y]).dropLast=xs:=by simp
 rw[e]
 exact q _ (rf (by simp)) aH⟩
variable {o e:Expr}{to te:TE}{apos fG:Pos}
def Kk(K:W.Frag)(to te:TE):TE:=Oy K "list" Kw to (gC te ot)
theorem eA(ho:PE X o to)(he:PE X e te)(h:dD e=true:=by rfl)(nE:attributeBase o "append" X.env (eval o X.env)=eval o X.env:=by rfl)(nC:(apos.endLine==fG.line)=true:=by rfl):
  PE X (.Call (.Attribute o "append" apos) [e] [] fG) (Kk X.K to te):=
 FY PySem.F.plainAttrs_list PySem.F.slot_list_append PySem.F.type_list_append HJ ho (ak he aj h) nE (by
  rw[qB (es:=[e]) (by simp[h])]
  rfl) nC (bP h) rfl
def V5(K:W.Frag)(to:TE):TE:=Ki K "list" Tb to
theorem iA(ho:PE X o to)(nE:attributeBase o "pop" X.env (eval o X.env)=eval o X.env:=by rfl)(nC:(apos.endLine==fG.line)=true:=by rfl):PE X (.Call (.Attribute o "pop" apos) [] [] fG) (V5 X.K to):=
 Hs PySem.F.plainAttrs_list PySem.F.slot_list_pop PySem.F.type_list_pop K0 ho nE nC
variable {es:List Expr}{t:TA}{pos:Pos}
inductive SD(xs:List V)(H1:Hp)(Q:VK):Prop where
 |mk(c1:xs.length<=sizeLine)(c2:∀p H',H1 p=none->aQ H1 H'->H' p=some (.tup xs)->Q (.ref p) H')
def S0(t:TA):TE:=fun σ H Q=>t σ H fun xs H1=>SD xs H1 Q
inductive SE(xs:List V)(H1:Hp)(Q:VK):Prop where
 |mk(c1:xs.length<=sizeLine)(c2:∀p H',H1 p=none->aQ H1 H'->H' p=some (.lst xs)->Q (.ref p) H')
def S3(t:TA):TE:=fun σ H Q=>t σ H fun xs H1=>SE xs H1 Q
theorem cB{x1}(h:PA X es t):PE X (.Tuple es x1 pos) (S0 t):=by
 intro pins s σ H Q I hq
 refine wpAny_Tuple_spliced (dB (h pos pins s σ H _ I hq) fun us s1 ⟨xs,H1,I1,r,z,q⟩=>⟨by rw[<-r.length];exact z,?_⟩)
 have hf:H1 s1.heap.objs.size=none:=I1.cx.fresh (Nat.le_refl _)
 exact⟨.ref s1.heap.objs.size,upd H1 s1.heap.objs.size (.tup xs),I1.laid (t':=s1.toks) (fun b u e=>Heap.get?_push_of_some _ e) (Nat.le_refl _) ⟨z,us,r,⟨_,Heap.get?_push_size _ rfl,rfl,_,rfl⟩⟩,rfl,q _ _ hf (bZ hf) aH⟩
theorem et(h:PA X es t):PE X (.List es pos) (S3 t):=by
 intro pins s σ H Q I hq
 refine wpAny_List_spliced (dB (h pos pins s σ H _ I hq) fun us s1 ⟨xs,H1,I1,r,z,q⟩=>⟨by rw[<-r.length];exact z,?_⟩)
 have hf:H1 s1.heap.objs.size=none:=I1.cx.fresh (Nat.le_refl _)
 exact⟨.ref s1.heap.objs.size,upd H1 s1.heap.objs.size (.lst xs),I1.laid (t':=s1.toks) (fun b u e=>Heap.get?_push_of_some _ e) (Nat.le_refl _) ⟨z,us,0,r,Heap.get?_push_size _ rfl⟩,rfl,q _ _ hf (bZ hf) aH⟩
inductive SQ(x:V)(y:V)(H:Hp)(Q:VK):Prop where
 |mk(l:_)(b:_)(xs:_)(zs:_)(c1:x= .ref l)(c2:y= .ref b)(c3:H l=some (.lst xs))(c4:H b=some (.lst zs))(c5:xs.length+zs.length<=sizeLine)(c6:∀p H',H p=none->aQ H H'->H' p=some (.lst (xs++zs))->Q (.ref p) H')
def Td:R2:=fun x y H Q=>SQ x y H Q
theorem B5:gy X (binaryOp .Add) Td:=gy.imp Hv fun _ _ _ _ ⟨l,b,xs,zs,e1,e2,h1,h2,h3,q⟩=>⟨l,b,xs,zs,e1,e2,h1,h2,h3,fun p hp=>q p _ hp (bZ hp) aH⟩
inductive SI(K:W.Frag)(x:V)(lo:Option Int)(hi:Option Int)(H:Hp)(Q:VK):Prop where
 |mk(a:_)(xs:_)(c1:x= .ref a)(c2:bp K H a xs)(c3:∀p H',H p=none->aQ H H'->H' p=some (.lst (mr xs lo hi))->Q (.ref p) H')
def Wn(K:W.Frag):V->Option Int->Option Int->Hp->VK->Prop:=fun x lo hi H Q=>SI K x lo hi H Q
theorem Kq:rR X (Wn X.K):=fun pins s σ H x v vl vu lo hi sl Q I rx h1 h2 h3 ⟨a,xs,e,hx,q⟩=>D4 pins s σ H x v vl vu lo hi sl Q I rx h1 h2 h3 ⟨a,xs,e,hx,fun p hp=>q p _ hp (bZ hp) aH⟩
theorem Fd:cE X (.type "list") (fun xs H Q=>∃p ys,xs=[.ref p]/\(bp X.K H p ys ∨ aS X.K H p ys)/\∀l H',H l=none->aQ H H'->H' l=some (.lst ys)->Q (.ref l) H'):=
 cE.imp uE fun _ _ _ ⟨p,ys,e,h,q⟩=>⟨p,ys,e,h,fun l hl=>q l _ hl (bZ hl) aH⟩
end
section
variable {X:Cx}
inductive MS(K:W.Frag)(ne:Bool)(x:V)(y:V)(H:Hp)(Q:VK):Prop where
 |mk(a:_)(b:_)(xs:_)(c1:x= .ref a)(c2:y= .ref b)(c3:bp K H a xs)(c4:bp K H b [])(c5:Q (.bl (if ne then !xs.isEmpty else xs.isEmpty)) H)
def Ku(K:W.Frag)(ne:Bool):R2:=fun x y H Q=>MS K ne x y H Q
theorem qQ(hu:X.A.units < cLine):gy X (compareOp .Eq) (Ku X.K false):=by
 intro pins s σ H x y v u Q I rx ry h
 obtain⟨a,b,xs,rfl,rfl,h1,h2,q⟩:=h
 cases rx;cases ry
 obtain⟨aN,r,pl,hz⟩:=I.list h1
 obtain⟨fF,r2,Ky,_⟩:=I.list h2
 cases r2
 cases r with
 |nil=>exact SeqAt.eq_listAt (e:=fun _=>true) pl.isList Ky.isList rfl hu (fun j j1=>absurd j1 (by simp)) ⟨.bl true,H,I,rfl,q⟩
 |cons r1 rt=>exact SeqAt.eq_list_lengthsAt pl.isList Ky.isList (by simp) hu ⟨.bl false,H,I,rfl,q⟩
theorem gG(hu:X.A.units < cLine):gy X (compareOp .NotEq) (Ku X.K true):=by
 intro pins s σ H x y v u Q I rx ry h
 obtain⟨a,b,xs,rfl,rfl,h1,h2,q⟩:=h
 cases rx;cases ry
 obtain⟨aN,r,pl,hz⟩:=I.list h1
 obtain⟨fF,r2,Ky,_⟩:=I.list h2
 cases r2
 cases r with
 |nil=>exact SeqAt.RcNeAt.lists (e:=fun _=>true) pl.isList Ky.isList rfl hu (fun j j1=>absurd j1 (by simp)) X.prog X.w _ _ ⟨.bl false,H,I,rfl,q⟩
 |cons r1 rt=>exact SeqAt.RcNeAt.lists_lengths pl.isList Ky.isList (by simp) hu X.prog X.w _ _ ⟨.bl true,H,I,rfl,q⟩
end
inductive Dt where
 |int (i:Int)
 |str (x:Str)
 |tup (ds:List Dt)
 |lst (ds:List Dt)
mutual
def rT(K:W.Frag)(H:Hp):Dt->V->Prop
 | .int i,v=>v= .int i
 | .str x,v=>v= .str x
 | .tup ds,v=>∃a xs,v= .ref a/\aS K H a xs/\o7 K H ds xs
 | .lst ds,v=>∃a xs,v= .ref a/\bp K H a xs/\o7 K H ds xs
def o7(K:W.Frag)(H:Hp):List Dt->List V->Prop
 |[],xs=>xs=[]
 |d::ds,xs=>∃x r,xs=x::r/\rT K H d x/\o7 K H ds r
end
mutual
def Dt.wG:Nat->Dt->Prop
 |_,.int _=>True
 |_,.str _=>True
 |0,.tup _=>False
 |0,.lst _=>False
 |n+1,.tup ds=>Dt.uN n ds
 |n+1,.lst ds=>Dt.uN n ds
def Dt.uN:Nat->List Dt->Prop
 |_,[]=>True
 |n,d::ds=>Dt.wG n d/\Dt.uN n ds
end
theorem o7.len{K:W.Frag}{H:Hp}:∀{ds:List Dt}{xs:List V},o7 K H ds xs->xs.length=ds.length
 |[],_,h=>by
  have e:_=[]:=h
  rw[e];rfl
 |d::ds,_,h=>by
  obtain⟨x,r,e,_,h2⟩:=h
  rw[e,List.length_cons,List.length_cons,o7.len h2]
theorem o7.get{K:W.Frag}{H:Hp}:∀{ds:List Dt}{xs:List V}{j:Nat}{d:Dt},o7 K H ds xs->ds[j]? =some d->∃x,xs[j]? =some x/\rT K H d x
 |[],_,_,_,_,e=>by simp at e
 |d::ds,_,0,d',h,e=>by
  obtain⟨x,r,e1,h1,_⟩:=h
  simp at e
  subst e
  exact⟨x,by rw[e1];rfl,h1⟩
 |d::ds,_,j+1,d',h,e=>by
  obtain⟨x,r,e1,_,h2⟩:=h
  obtain⟨y,e2,h3⟩:=o7.get (j:=j) h2 (by simpa using e)
  exact⟨y,by rw[e1];simpa using e2,h3⟩
theorem uN.get:∀{n:Nat}{ds:List Dt}{j:Nat}{d:Dt},Dt.uN n ds->ds[j]? =some d->Dt.wG n d
 |_,[],_,_,_,e=>by simp at e
 |_,d::ds,0,d',h,e=>by
  simp at e
  subst e
  exact h.1
 |_,d::ds,j+1,d',h,e=>uN.get (j:=j) h.2 (by simpa using e)
section
variable {X:Cx}{pins:List (Addr×Obj)}{σ:L2.St}{H:Hp}{s:Shared}
theorem vy(I:Inv X pins σ H s){a:Addr}{b c:List V}(q1:bp X.K H a b)(q2:aS X.K H a c):False:=by
 obtain⟨_,_,pl,_⟩:=I.list q1
 obtain⟨_,_,pt,_⟩:=I.tuple q2
 obtain⟨o,n,h1,c,_⟩:=pl
 obtain⟨o',IS,c',_⟩:=pt
 rw[h1] at IS
 cases IS
 rw[c] at c'
 injection c' with z
 exact absurd z (by decide)
theorem xM{n:Nat}(h:∀{d e:Dt}{x:V},Dt.wG n d->rT X.K H d x->rT X.K H e x->d=e):∀{ds es:List Dt}{xs:List V},Dt.uN n ds->o7 X.K H ds xs->o7 X.K H es xs->ds=es
 |[],[],_,_,_,_=>rfl
 |[],e::es,_,_,h1,h2=>by
  have e1:_=[]:=h1
  obtain⟨x,r,e2,_⟩:=h2
  rw[e1] at e2;cases e2
 |d::ds,[],_,_,h1,h2=>by
  have e1:_=[]:=h2
  obtain⟨x,r,e2,_⟩:=h1
  rw[e1] at e2;cases e2
 |d::ds,e::es,_,l,h1,h2=>by
  obtain⟨x,r,e1,a1,b1⟩:=h1
  obtain⟨x',r',e2,a2,b2⟩:=h2
  rw[e1] at e2
  cases e2
  rw[h l.1 a1 a2,xM h l.2 b1 b2]
theorem Mm(I:Inv X pins σ H s):∀(n:Nat) {d e:Dt}{x:V},Dt.wG n d->rT X.K H d x->rT X.K H e x->d=e:=by
 intro n
 induction n with
 |zero=>
  intro d e x l h1 h2
  cases d with
  |tup ds=>exact l.elim
  |lst ds=>exact l.elim
  |int i=>
   have e1:x=_:=h1
   subst e1
   cases e with
   |int j=>have e2:V.int i=V.int j:=h2;cases e2;rfl
   |str j=>have e2:V.int i=V.str j:=h2;cases e2
   |tup es=>obtain⟨a,xs,e2,_⟩:=h2;cases e2
   |lst es=>obtain⟨a,xs,e2,_⟩:=h2;cases e2
  |str i=>
   have e1:x=_:=h1
   subst e1
   cases e with
   |int j=>have e2:V.str i=V.int j:=h2;cases e2
   |str j=>have e2:V.str i=V.str j:=h2;cases e2;rfl
   |tup es=>obtain⟨a,xs,e2,_⟩:=h2;cases e2
   |lst es=>obtain⟨a,xs,e2,_⟩:=h2;cases e2
 |succ n ih=>
  intro d e x l h1 h2
  cases d with
  |int i=>
   have e1:x=_:=h1
   subst e1
   cases e with
   |int j=>have e2:V.int i=V.int j:=h2;cases e2;rfl
   |str j=>have e2:V.int i=V.str j:=h2;cases e2
   |tup es=>obtain⟨a,xs,e2,_⟩:=h2;cases e2
   |lst es=>obtain⟨a,xs,e2,_⟩:=h2;cases e2
  |str i=>
   have e1:x=_:=h1
   subst e1
   cases e with
   |int j=>have e2:V.str i=V.int j:=h2;cases e2
   |str j=>have e2:V.str i=V.str j:=h2;cases e2;rfl
   |tup es=>obtain⟨a,xs,e2,_⟩:=h2;cases e2
   |lst es=>obtain⟨a,xs,e2,_⟩:=h2;cases e2
  |tup ds=>
   obtain⟨a,xs,rfl,q1,r1⟩:=h1
   cases e with
   |int j=>have e2:V.ref a=V.int j:=h2;cases e2
   |str j=>have e2:V.ref a=V.str j:=h2;cases e2
   |tup es=>
    obtain⟨a',ys,e2,q2,r2⟩:=h2
    cases e2
    cases I.zE q1 q2
    rw[xM (n:=n) (fun l a b=>ih l a b) l r1 r2]
   |lst es=>
    obtain⟨a',ys,e2,q2,r2⟩:=h2
    cases e2
    exact(vy I q2 q1).elim
  |lst ds=>
   obtain⟨a,xs,rfl,q1,r1⟩:=h1
   cases e with
   |int j=>have e2:V.ref a=V.int j:=h2;cases e2
   |str j=>have e2:V.ref a=V.str j:=h2;cases e2
   |lst es=>
    obtain⟨a',ys,e2,q2,r2⟩:=h2
    cases e2
    cases I.kr q1 q2
    rw[xM (n:=n) (fun l a b=>ih l a b) l r1 r2]
   |tup es=>
    obtain⟨a',ys,e2,q2,r2⟩:=h2
    cases e2
    exact(vy I q1 q2).elim
theorem qx(I:Inv X pins σ H s){a:Addr}{xs:List V}(q:aS X.K H a xs):∃aN:List Value,Vals xs aN/\s.heap.IsTuple a aN.toArray:=let ⟨aN,r,pt,_⟩:=I.tuple q;⟨aN,r,pt⟩
theorem qZ(I:Inv X pins σ H s){a:Addr}{xs:List V}(q:bp X.K H a xs):∃aN:List Value,Vals xs aN/\s.heap.IsList a aN.toArray:=let ⟨aN,r,pt,_⟩:=I.list q;⟨aN,r,pt.isList⟩
open PySem.SeqAt in
theorem C3(I:Inv X pins σ H s){i:Int}{t:Tok}{e:Dt}{y:V}{u:Value}{A:Around}(hu:A.units < cLine)(h2:rT X.K H e y)(ry:RelV y u):∃b:Bool,(b=true↔Dt.int i=e)/\EqAt A s (.int i t) u b:=by
 cases e with
 |int j=>
  have e2:y=_:=h2
  subst e2
  obtain⟨t',rfl⟩:=ry
  exact⟨i==j,by simp,.int_int i t j t'⟩
 |str j=>
  have e2:y=_:=h2
  subst e2
  obtain⟨t',rfl⟩:=ry
  exact⟨false,by simp,.int_str i t j t'⟩
 |tup es=>
  obtain⟨a,xs,rfl,q,_⟩:=h2
  cases ry
  obtain⟨_,_,pt⟩:=qx I q
  exact⟨false,by simp,.int_tuple i t pt hu⟩
 |lst es=>
  obtain⟨a,xs,rfl,q,_⟩:=h2
  cases ry
  obtain⟨_,_,pt⟩:=qZ I q
  exact⟨false,by simp,.int_list i t pt hu⟩
open PySem.SeqAt in
theorem C0(I:Inv X pins σ H s){i:Str}{t:Tok}{e:Dt}{y:V}{u:Value}{A:Around}(hu:A.units < cLine)(h2:rT X.K H e y)(ry:RelV y u):∃b:Bool,(b=true↔Dt.str i=e)/\EqAt A s (.str i t) u b:=by
 cases e with
 |int j=>
  have e2:y=_:=h2
  subst e2
  obtain⟨t',rfl⟩:=ry
  exact⟨false,by simp,.str_int i t j t'⟩
 |str j=>
  have e2:y=_:=h2
  subst e2
  obtain⟨t',rfl⟩:=ry
  exact⟨i==j,by simp,.str_str i t j t'⟩
 |tup es=>
  obtain⟨a,xs,rfl,q,_⟩:=h2
  cases ry
  obtain⟨_,_,pt⟩:=qx I q
  exact⟨false,by simp,.str_tuple i t pt hu⟩
 |lst es=>
  obtain⟨a,xs,rfl,q,_⟩:=h2
  cases ry
  obtain⟨_,_,pt⟩:=qZ I q
  exact⟨false,by simp,.str_list i t pt hu⟩
open Classical in
noncomputable def agree (ds es:List Dt) (j:Nat):Bool:=decide (ds[j]? =es[j]?)
open Classical in
theorem sZ{ds es:List Dt}(h:ds.length=es.length):((List.range ds.length).all (agree ds es)=true)↔ds=es:=by
 rw[List.all_eq_true]
 constructor
 ·intro q
  refine List.ext_getElem? fun j=>?_
  by_cases hj:j < ds.length
  ·exact of_decide_eq_true (q j (List.mem_range.mpr hj))
  ·rw[List.getElem?_eq_none (by omega),List.getElem?_eq_none (by omega)]
 ·intro e j _
  rw[e]
  exact decide_eq_true rfl
open Classical in
theorem C4{n:Nat}{A:Around}(ih:∀{d e:Dt}{x y:V}{v u:Value},Dt.wG n d->rT X.K H d x->rT X.K H e y->RelV x v->RelV y u->∃b:Bool,(b=true↔d=e)/\PySem.SeqAt.EqAt A s v u b)
  {ds es:List Dt}{xs ys:List V}{aN fF:List Value}(l:Dt.uN n ds)(h1:o7 X.K H ds xs)(h2:o7 X.K H es ys)(r1:Vals xs aN)(r2:Vals ys fF):
  ∀j (j1:j < aN.toArray.size) (j2:j < fF.toArray.size),PySem.SeqAt.EqAt A s aN.toArray[j] fF.toArray[j] (agree ds es j):=by
 intro j j1 j2
 have a1:j < aN.length:=by simpa using j1
 have a2:j < fF.length:=by simpa using j2
 have b1:j < ds.length:=by rw[<-h1.len,r1.length];exact a1
 have b2:j < es.length:=by rw[<-h2.len,r2.length];exact a2
 have c1:ds[j]? =some ds[j]:=by simp[b1]
 have c2:es[j]? =some es[j]:=by simp[b2]
 obtain⟨x,ex,hx⟩:=h1.get c1
 obtain⟨y,ey,hy⟩:=h2.get c2
 obtain⟨v,ev,rv⟩:=r1.get ex
 obtain⟨u,eu,ru⟩:=r2.get ey
 obtain⟨b,hb,q⟩:=ih (uN.get l c1) hx hy rv ru
 have Y0:aN.toArray[j]=v:=by
  have:=(List.getElem?_eq_some_iff.mp ev).2
  simpa using this
 have Y1:fF.toArray[j]=u:=by
  have:=(List.getElem?_eq_some_iff.mp eu).2
  simpa using this
 rw[Y0,Y1]
 have e:agree ds es j=b:=by
  unfold agree
  rw[c1,c2]
  cases b with
  |true=>exact decide_eq_true (by rw[hb.mp rfl])
  |false=>exact decide_eq_false fun z=>Bool.false_ne_true (hb.mpr (Option.some.inj z))
 rw[e]
 exact q
theorem in1_units(A:Around):A.in1.units=A.units+1:=rfl
open PySem.SeqAt in
theorem IY(I:Inv X pins σ H s){n:Nat}{A:Around}(lP:A.units < cLine)
  (ih:∀{d e:Dt}{x y:V}{v u:Value},Dt.wG n d->rT X.K H d x->rT X.K H e y->RelV x v->RelV y u->∃b:Bool,(b=true↔d=e)/\EqAt A.in1 s v u b)
  {d e:Dt}{a b:Addr}(l:Dt.wG (n+1) d)(h1:rT X.K H d (.ref a))(h2:rT X.K H e (.ref b)):∃k:Bool,(k=true↔d=e)/\RcAt A s (.ref a) (.ref b) k/\RcNeAt A s (.ref a) (.ref b) (!k):=by
 cases d with
 |int i=>have e1:V.ref a=V.int i:=h1;cases e1
 |str i=>have e1:V.ref a=V.str i:=h1;cases e1
 |tup ds=>
  obtain⟨a',xs,e1,q1,r1⟩:=h1
  cases e1
  obtain⟨aN,v1,p1⟩:=qx I q1
  cases e with
  |int i=>have e1:V.ref b=V.int i:=h2;cases e1
  |str i=>have e1:V.ref b=V.str i:=h2;cases e1
  |lst es=>
   obtain⟨b',ys,e2,q2,r2⟩:=h2
   cases e2
   obtain⟨fF,v2,p2⟩:=qZ I q2
   exact⟨false,by simp,.tuple_list p1 p2 lP,.tuple_list p1 p2 lP⟩
  |tup es=>
   obtain⟨b',ys,e2,q2,r2⟩:=h2
   cases e2
   obtain⟨fF,v2,p2⟩:=qx I q2
   have he:=C4 ih l r1 r2 v1 v2
   refine⟨_,?_,RcAt.tuples p1 p2 lP he,RcNeAt.tuples p1 p2 lP he⟩
   have z1:aN.toArray.size=ds.length:=by rw[List.size_toArray,<-v1.length,r1.len]
   have z2:fF.toArray.size=es.length:=by rw[List.size_toArray,<-v2.length,r2.len]
   rw[z1,z2]
   by_cases hl:ds.length=es.length
   ·rw[<-hl,Nat.min_self,show(ds.length==ds.length)=true by simp,Bool.and_true,sZ hl]
    exact⟨fun z=>by rw[z],fun z=>by injection z⟩
   ·rw[show(ds.length==es.length)=false by simpa using hl,Bool.and_false]
    exact⟨fun z=>by(cases z),fun z=>by injection z with z;rw[z] at hl;exact absurd rfl hl⟩
 |lst ds=>
  obtain⟨a',xs,e1,q1,r1⟩:=h1
  cases e1
  obtain⟨aN,v1,p1⟩:=qZ I q1
  cases e with
  |int i=>have e1:V.ref b=V.int i:=h2;cases e1
  |str i=>have e1:V.ref b=V.str i:=h2;cases e1
  |tup es=>
   obtain⟨b',ys,e2,q2,r2⟩:=h2
   cases e2
   obtain⟨fF,v2,p2⟩:=qx I q2
   exact⟨false,by simp,.list_tuple p1 p2 lP,.list_tuple p1 p2 lP⟩
  |lst es=>
   obtain⟨b',ys,e2,q2,r2⟩:=h2
   cases e2
   obtain⟨fF,v2,p2⟩:=qZ I q2
   have z1:aN.toArray.size=ds.length:=by rw[List.size_toArray,<-v1.length,r1.len]
   have z2:fF.toArray.size=es.length:=by rw[List.size_toArray,<-v2.length,r2.len]
   by_cases hl:ds.length=es.length
   ·have he:=C4 ih l r1 r2 v1 v2
    refine⟨_,?_,RcAt.lists p1 p2 (by rw[z1,z2,hl]) lP he,RcNeAt.lists p1 p2 (by rw[z1,z2,hl]) lP he⟩
    rw[z1,sZ hl]
    exact⟨fun z=>by rw[z],fun z=>by injection z⟩
   ·refine⟨false,?_,RcAt.lists_lengths p1 p2 (by rw[z1,z2];simpa using hl) lP,RcNeAt.lists_lengths p1 p2 (by rw[z1,z2];simpa using hl) lP⟩
    exact⟨fun z=>by(cases z),fun z=>by injection z with z;rw[z] at hl;exact absurd rfl hl⟩
open PySem.SeqAt in
theorem Mn(I:Inv X pins σ H s):∀(n:Nat) {d e:Dt}{x y:V}{v u:Value}{A:Around},Dt.wG n d->A.units+n < cLine->rT X.K H d x->rT X.K H e y->RelV x v->RelV y u->∃b:Bool,(b=true↔d=e)/\EqAt A s v u b:=by
 have atom:∀(n:Nat) {d e:Dt}{x y:V}{v u:Value}{A:Around},(∀a,x≠ .ref a)->A.units < cLine->rT X.K H d x->rT X.K H e y->RelV x v->RelV y u->∃b:Bool,(b=true↔d=e)/\EqAt A s v u b:=by
  intro n d e x y v u A hx hu h1 h2 rx ry
  cases d with
  |int i=>
   have e1:x=_:=h1
   subst e1
   obtain⟨t,rfl⟩:=rx
   exact C3 I hu h2 ry
  |str i=>
   have e1:x=_:=h1
   subst e1
   obtain⟨t,rfl⟩:=rx
   exact C0 I hu h2 ry
  |tup ds=>obtain⟨a,xs,e1,_⟩:=h1;exact absurd e1 (hx a)
  |lst ds=>obtain⟨a,xs,e1,_⟩:=h1;exact absurd e1 (hx a)
 intro n
 induction n with
 |zero=>
  intro d e x y v u A l hu h1 h2 rx ry
  refine atom 0 (fun a=>?_) (by omega) h1 h2 rx ry
  rintro rfl
  cases d with
  |int i=>have e1:V.ref a=V.int i:=h1;cases e1
  |str i=>have e1:V.ref a=V.str i:=h1;cases e1
  |tup ds=>exact l.elim
  |lst ds=>exact l.elim
 |succ n ih=>
  intro d e x y v u A l hu h1 h2 rx ry
  have lP:A.units < cLine:=by omega
  by_cases hx:∃a,x= .ref a
  ·obtain⟨a,rfl⟩:=hx
   cases rx
   by_cases hy:∃b,y= .ref b
   ·obtain⟨b,rfl⟩:=hy
    cases ry
    by_cases II:a=b
    ·subst II
     have e':=Mm I (n+1) l h1 h2
     exact⟨true,by simp[e'],.same _⟩
    ·obtain⟨k,h3,h4,_⟩:=IY I lP (fun {d e x y v u} l a b c d'=>ih (d:=d) (e:=e) (x:=x) (y:=y) (v:=v) (u:=u) l (by rw[in1_units];omega) a b c d') l h1 h2
     exact⟨k,h3,.of_refs II h4⟩
   ·have q:∀k:Bool,k=false->(k=true↔d=e):=by
     intro k hk
     subst hk
     refine⟨fun z=>by(cases z),fun z=>?_⟩
     subst z
     cases d with
     |int i=>have e1:V.ref a=V.int i:=h1;cases e1
     |str i=>have e1:V.ref a=V.str i:=h1;cases e1
     |tup ds=>obtain⟨b,xs,e1,_⟩:=h2;exact absurd ⟨b,e1⟩ hy
     |lst ds=>obtain⟨b,xs,e1,_⟩:=h2;exact absurd ⟨b,e1⟩ hy
    cases e with
    |tup es=>obtain⟨b,xs,e1,_⟩:=h2;exact absurd ⟨b,e1⟩ hy
    |lst es=>obtain⟨b,xs,e1,_⟩:=h2;exact absurd ⟨b,e1⟩ hy
    |int j=>
     have e2:y=_:=h2
     subst e2
     obtain⟨t',rfl⟩:=ry
     cases d with
     |int i=>have e1:V.ref a=V.int i:=h1;cases e1
     |str i=>have e1:V.ref a=V.str i:=h1;cases e1
     |tup ds=>
      obtain⟨a',xs,e1,q1,r1⟩:=h1
      cases e1
      obtain⟨aN,v1,p1⟩:=qx I q1
      exact⟨false,q _ rfl,.tuple_int j t' p1 lP⟩
     |lst ds=>
      obtain⟨a',xs,e1,q1,r1⟩:=h1
      cases e1
      obtain⟨aN,v1,p1⟩:=qZ I q1
      exact⟨false,q _ rfl,.list_int j t' p1 lP⟩
    |str j=>
     have e2:y=_:=h2
     subst e2
     obtain⟨t',rfl⟩:=ry
     cases d with
     |int i=>have e1:V.ref a=V.int i:=h1;cases e1
     |str i=>have e1:V.ref a=V.str i:=h1;cases e1
     |tup ds=>
      obtain⟨a',xs,e1,q1,r1⟩:=h1
      cases e1
      obtain⟨aN,v1,p1⟩:=qx I q1
      exact⟨false,q _ rfl,.tuple_str j t' p1 lP⟩
     |lst ds=>
      obtain⟨a',xs,e1,q1,r1⟩:=h1
      cases e1
      obtain⟨aN,v1,p1⟩:=qZ I q1
      exact⟨false,q _ rfl,.list_str j t' p1 lP⟩
  ·exact atom n (fun a z=>hx ⟨a,z⟩) lP h1 h2 rx ry
end
section
variable {X:Cx}
inductive Z9(K:W.Frag)(A:Around)(ne:Bool)(x:V)(y:V)(H:Hp)(Q:VK):Prop where
 |mk(n:_)(d:_)(e:_)(a:_)(b:_)(c1:x= .ref a)(c2:y= .ref b)(c3:Dt.wG (n+1) d)(c4:A.units+n+1 < cLine)(c5:rT K H d x)(c6:rT K H e y)(c7:∀k:Bool,(k=true↔d=e)->Q (.bl (if ne then !k else k)) H)
def rD(K:W.Frag)(A:Around)(ne:Bool):R2:=fun x y H Q=>Z9 K A ne x y H Q
theorem xj:gy X (compareOp .Eq) (rD X.K X.A false):=by
 intro pins s σ H x y v u Q I rx ry h
 obtain⟨n,d,e,a,b,rfl,rfl,hl,hu,h1,h2,q⟩:=h
 cases rx;cases ry
 obtain⟨k,h3,h4,_⟩:=IY I (A:=X.A) (by omega) (fun {d e x y v u} l a b c d'=>Mn I n l (by rw[in1_units];omega) a b c d') hl h1 h2
 exact h4 X.prog X.w _ _ ⟨.bl k,H,I,rfl,q k h3⟩
theorem Ht:gy X (compareOp .NotEq) (rD X.K X.A true):=by
 intro pins s σ H x y v u Q I rx ry h
 obtain⟨n,d,e,a,b,rfl,rfl,hl,hu,h1,h2,q⟩:=h
 cases rx;cases ry
 obtain⟨k,h3,_,h4⟩:=IY I (A:=X.A) (by omega) (fun {d e x y v u} l a b c d'=>Mn I n l (by rw[in1_units];omega) a b c d') hl h1 h2
 exact h4 X.prog X.w _ _ ⟨.bl (!k),H,I,rfl,q k h3⟩
theorem gR:cE X (.builtin "isinstance") (fun xs H Q=>∃x n t b,xs=[x,.ty n]/\oY X.K H x t/\PySem.W.kitOne X.K t (.type n)=some b/\Q (.bl b) H):=by
 intro pins s σ H xs us Q I r h
 obtain⟨x,n,t,b,rfl,h1,h2,q⟩:=h
 obtain⟨u,w',rfl,r1,r2⟩:=vals2 r
 cases(show w'=Value.type n from r2)
 exact Aq I r1 h1 h2 fun tk=>⟨.bl b,H,I.tok tk,rfl,q⟩
end
def lQ(H:Hp)(v:V)(p:List Int):Prop:=∃l,v= .ref l/\H l=some (.lst (p.map V.int))
theorem lQ.same{H H':Hp}{v:V}{p:List Int}(h:lQ H v p)(s:aQ H H'):lQ H' v p:=let ⟨l,e,q⟩:=h;⟨l,e,s _ _ q⟩
theorem HU(K:W.Frag):PySem.W.kitOne K (.type "int") (.type "int")=some true:=by rfl
theorem HV(K:W.Frag):PySem.W.kitOne K (.type "int") (.type "bool")=some false:=by first|rfl|kernel_rfl
theorem rb(K:W.Frag):PySem.W.kitOne K (.type "tuple") (.type "tuple")=some true:=by rfl
theorem oS(K:W.Frag):PySem.W.kitOne K (.type "str") (.type "str")=some true:=by rfl
section
open PySem.W
variable {α:Type}{n:Nat}{lt:Nat->Nat->Bool}{cmp:Nat->Nat->(Bool->Shared->Prop)->Shared->Prop}{s:Shared}
theorem vH{R:α->Prop}{Q:α->Shared->Prop}(ask:∀i j C,i < n->j < n->C (lt i j) s->cmp i j C s)(fin:∀a,R a->Q a s):∀{t:KasT α},jQ n lt t R->t.kasWp cmp Q s
 | .ret a,h=>fin a h
 | .ask i j k,h=>ask i j _ h.1 h.2.1 (vH ask fin (t:=k (lt i j)) h.2.2)
end
section
variable {prog:Program}{w:World}{A:Around}{E:Value->Shared->Prop}{s:Shared}
theorem Ci{a b:Addr}{xs ys:List Value}{ns ms:List Int}{Q:Bool->Shared->Prop}(hu:A.units < cLine)(ha:s.heap.IsList a xs.toArray)(hb:s.heap.IsList b ys.toArray)(hx:IntsAre xs ns)(hy:IntsAre ys ms)
  (h:Q (lex ns ms) s):wpAny (model prog w) A (keyLt' oneType' (.ref a) (.ref b)) Q E s:=by
 obtain⟨⟨cls,dd,data,sl⟩,ho,hc,n,hd⟩:=id ha
 obtain⟨⟨Zc,IX,data2,Hc⟩,Yb,Gx,n2,hd2⟩:=id hb
 simp only at hc hd Gx hd2
 subst hc hd Gx hd2
 rw[keyLt'_oneType,oneLt'_eq]
 simp only[if_true]
 refine wpAny_bind (wpAny_cRoomFor hu (wpAny_bind (wpAny_callSpecialIfBound?_slot ⟨_,ho,rfl⟩ PySem.F.slot_list_lt
  (call_meets PySem.F.slot_list_lt ⟨_,ho,rfl⟩ PySem.F.entry_list_lt (PySem.F.args_list_lt_2 _ _) (EJ a b xs.toArray ys.toArray n n2 dd IX sl Hc ns ms (by simpa using hx) (by simpa using hy)) ⟨ho,Yb,?_⟩))))
 exact wpAny_truthy_bool h
theorem yk:∀vs:List Value,(vs.zip vs).map (·.2)=vs
 |[]=>rfl
 |v::r=>by rw[List.zip_cons_cons,List.map_cons,yk r]
theorem zI(vs:List Value):(pairsOf vs).map (·.2)=vs.toArray:=by
 apply Array.toList_inj.mp
 rw[Array.toList_map,pairsOf_toList,yk]
theorem tR{l:Addr}{vs:List Value}{Q:Value->Shared->Prop}(hl:s.heap.IsList l vs.toArray)(h2:vs.length < 2)(h:Q (.ref (s.heap.objs.size+1)) {s with heap:=sortedAll s.heap vs vs.toArray}):
  wpAny (model prog w) A (call (.builtin "sorted") [.ref l]) Q E s:=by
 refine Calls.call_function_entry kind_sorted plain_sorted entry_sorted (args_sorted1 _) (show wpAny _ _ (Builtin.«sorted» _) _ _ _ from ?_)
 unfold Builtin.«sorted»
 refine wpAny_bind (m:=checkCount "sorted" 1 1 _) (wpAny_pure (wpAny_bind (collect_list hl (wpAny_bind (wpAny_newList ?_ (by rw[sizeLine_eq];omega))) (by rw[sizeLine_eq];omega))))
 have z:((s.heap.push (seqObj "list" #[] 0)).update s.heap.objs.size (Obj.mapSeq (·++vs.toArray))).objs.size=s.heap.objs.size+1:=by rw[Heap.size_update,size_push']
 generalize hG:(s.heap.push (seqObj "list" #[] 0)).update s.heap.objs.size (Obj.mapSeq (·++vs.toArray))=G at z
 have ho:(G.push (seqObj "list" vs.toArray 0)).get? (s.heap.objs.size+1)=some (seqObj "list" vs.toArray 0):=by rw[<-z];exact Heap.get?_push_size _ rfl
 show wpAny _ _ _ _ _ {s with heap:=G.push (seqObj "list" vs.toArray 0)}
 rw[z]
 refine wpAny_bind (wpAny_holding (wpAny_call_entry slot_list_sort ⟨_,ho,rfl⟩ entry_list_sort ?_ (args_list_sort _)))
 rw[list_sort_plain]
 refine wpAny_bind (listItems_at ho rfl (wpAny_bind (listUpdate_at ho rfl ?_ (by rw[List.size_toArray,sizeLine_eq];omega) (by show(#[]:Array Value).size<=_;simp))))
 obtain⟨e1,Uw⟩:∃e1,((G.push (seqObj "list" vs.toArray 0)).update (s.heap.objs.size+1) (Obj.mapSeq fun _=>#[])).get? (s.heap.objs.size+1)=some (seqObj "list" #[] e1):=⟨_,get?_update_seq ho (fun _=>#[])⟩
 refine wpAny_bind (seqEpoch_at Uw rfl (wpAny_bind (wpAny_newTuple (wpAny_bind (wpAny_newList (wpAny_holding ?_))))))
 have eB:s.heap.objs.size+1 < (G.push (seqObj "list" vs.toArray 0)).objs.size:=Heap.lt_size ho
 have Uv:((((G.push (seqObj "list" vs.toArray 0)).update (s.heap.objs.size+1) (Obj.mapSeq fun _=>#[])).push (seqObj "tuple" vs.toArray 0)).push (seqObj "list" #[] 0)).get? (s.heap.objs.size+1)=some (seqObj "list" #[] e1):=by
  rw[Heap.get?_push_ne _ _ _ (by rw[size_push',Heap.size_update];exact Nat.ne_of_lt (Nat.lt_succ_of_lt eB)),Heap.get?_push_ne _ _ _ (by rw[Heap.size_update];exact Nat.ne_of_lt eB)]
  exact Uw
 show wpAny (model prog w) _ _ _ _ {s with heap:=(((G.push (seqObj "list" vs.toArray 0)).update (s.heap.objs.size+1) (Obj.mapSeq fun _=>#[])).push (seqObj "tuple" vs.toArray 0)).push (seqObj "list" #[] 0)}
 dsimp only
 have Gg:vs.toArray.size < 2:=by simpa using h2
 rw[if_pos Gg,if_pos Gg]
 refine wpAny_bind (wpAny_pure ?_)
 rw[StateT.run_pure]
 refine wpAny_bind (wpAny_pure ?_)
 dsimp only
 have Ql:(arrOf (SortSt.mk' general' (vs.toArray.zip vs.toArray) #[] 7 none)).map (·.2)=vs.toArray:=by
  show(pairsOf vs).map (·.2)=vs.toArray
  exact zI vs
 rw[Ql]
 refine wpAny_bind (seqEpoch_at Uv rfl (wpAny_bind (listUpdate_at Uv rfl ?_ (by simp) (by rw[List.size_toArray,sizeLine_eq];omega))))
 simp only[bne_self_eq_false,Bool.false_eq_true,if_false]
 refine wpAny_pure ⟨_,rfl,wpAny_pure ⟨_,rfl,?_⟩⟩
 subst hG
 exact h
end
section
variable {P:Program}{w:World}{H:Hp}{h:Heap}{a:Addr}{o:HO}
theorem e6(x:cK P w H h a o):∃ob,h.get? a=some ob:=by
 cases o with
 |lst xs=>obtain⟨_,_,_,_,e⟩:=x;exact⟨_,e⟩
 |tup xs=>obtain⟨_,_,_,ob,e,_⟩:=x;exact⟨_,e⟩
 |dK ba=>obtain⟨_,_,_,_,ob,_,_,e,_⟩:=x;exact⟨_,e⟩
 |dT ba=>obtain⟨_,_,_,_,ob,_,_,e,_⟩:=x;exact⟨_,e⟩
 |set S n=>obtain⟨ob,_,_,_,e,_⟩:=x;exact⟨_,e⟩
 |ins C dx fs=>obtain⟨_,_,_,e,_⟩:=x;exact⟨_,e⟩
 |own y=>exact x
 |xd fs=>obtain⟨_,⟨_,_,_,e,_⟩,_⟩:=x;exact⟨_,e⟩
 |zN lo hi=>obtain⟨_,_,_,e⟩:=x;exact⟨_,e⟩
 |xI ob u=>obtain⟨e,_⟩:=x;exact⟨_,e⟩
 |gu ps=>exact⟨_,show h.get? a=some _ from x⟩
 |met f y=>exact⟨_,show h.get? a=some _ from x⟩
 |ext φ=>obtain⟨_,e,_⟩:=x;exact e
end
section
variable {X:Cx}{pins:List (Addr×Obj)}{σ:L2.St}{H:Hp}{s:Shared}
theorem As{h':Heap}{D:Addr}{o:HO}{t':Nat}(I:Inv X pins σ H s)(keep:∀b u,b≠X.env.locals->s.heap.get? b=some u->h'.get? b=some u)(ns:∀m,s.heap.Ns X.env.locals m->h'.Ns X.env.locals m)
  (hn:s.heap.get? D=none)(new:cK X.prog X.w (upd H D o) h' D o):H D=none/\Inv X pins σ (upd H D o) {s with heap:=h',toks:=t'}:=by
 have hD:H D=none:=by
  cases q:H D with
  |none=>rfl
  |some u=>
   obtain⟨ob,e⟩:=e6 (I.cx D u q)
   rw[hn] at e;cases e
 have WL:∀b u,s.heap.get? b=some u->b≠D:=fun b u e z=>by rw[z,hn] at e;cases e
 have J8:∀b u,H b=some u->b≠D:=fun b u e z=>by rw[z,hD] at e;cases e
 have SY:∀b u,H b=some u->b≠X.env.locals:=fun b u e z=>by rw[z,I.free] at e;cases e
 refine⟨hD,I.step (g':=s.gens) (d':=s.drawn) (ch:=[]) (fun _ z=>nomatch z) (fun b u nL _ _ e _=>keep b u nL e) (fun b u nL _ _ e _=>⟨u.slots,keep b u nL e⟩) (fun b u _ e n=>by rw[aF (WL b u e)];exact n)
  (fun b u _ e=>?_) (fun b xs e=>by rw[aF (J8 b _ e)];exact e) (fun b ob xs e=>by rw[aF (J8 b _ e)];exact e) (fun b qs e=>⟨#[],by rw[aF (J8 b _ e),e];simp⟩) ns (fun b u e=>?_) I.bare⟩
 ·by_cases hb:b=X.env.locals
  ·obtain⟨m,hm,_⟩:=I.loc
   obtain⟨o',_,_,e',_⟩:=ns m hm
   rw[hb]
   exact⟨o',e'⟩
  ·exact⟨u,keep b u hb e⟩
 ·by_cases hb:b=D
  ·subst hb
   rw[aH] at e
   cases e
   exact new
  ·rw[aF hb] at e
   refine(I.cx b u e).lD (fun c v hc q=>keep c v ?_ q) (fun c q=>by rw[aF (J8 c _ q)];exact q) fun c xs q=>by rw[aF (J8 c _ q)];exact q
   rcases hc with rfl|hc
   ·exact SY c u e
   ·exact SY c _ hc
end
section
variable {X:Cx}
inductive Jw(K:W.Frag)(xs:List V)(H:Hp)(Q:VK):Prop where
 |mk(a:_)(vs:_)(ps:_)(c1:xs=[.ref a])(c2:bp K H a vs)(c3:vs.length < 64)(c4:Paired (lQ H) vs ps)(c5:∀my BN l H',BN.Perm ps->BN.Pairwise (fun a b=>lex b a=false)->Paired (lQ H) my BN->H l=none->aQ H H'->H' l=some (.lst my)->Q (.ref l) H')
def Kt(K:W.Frag):List V->Hp->VK->Prop:=fun xs H Q=>Jw K xs H Q
inductive Ft(K:W.Frag)(xs:List V)(H:Hp)(Q:VK):Prop where
 |mk(F:V->List Int->Prop)(a:_)(vs:_)(ps:_)(c1:xs=[.ref a])(c2:bp K H a vs)(c3:vs.length < 64)(c0:∀v p,F v p->lQ H v p)(c4:Paired F vs ps)(c5:∀my BN l H',BN.Perm ps->BN.Pairwise (fun a b=>lex b a=false)->Paired F my BN->H l=none->aQ H H'->H' l=some (.lst my)->Q (.ref l) H')
def Hk(K:W.Frag):List V->Hp->VK->Prop:=fun xs H Q=>Ft K xs H Q
theorem ko{α β:Type}{F:α->β->Prop}{xs:List α}{ys:List β}(p:Paired F xs ys){dx:α}{dy:β}:∀{is:List Nat},(∀i∈is,i < ys.length)->Paired F (is.map fun i=>xs.getD i dx) (is.map fun i=>ys.getD i dy)
 |[],_=> .nil
 |i::is,h=>by
  refine .cons ?_ (ko p fun j hj=>h j (List.mem_cons_of_mem _ hj))
  have hi:i < ys.length:=h i List.mem_cons_self
  have hx:i < xs.length:=by rw[Paired.length p];exact hi
  obtain⟨y,e,q⟩:=cm p (show xs[i]? =some xs[i] by simp[hx])
  have e1:xs.getD i dx=xs[i]:=by simp[hx]
  have e2:ys.getD i dy=y:=by rw[List.getD_eq_getElem?_getD,e];rfl
  show F (xs.getD i dx) (ys.getD i dy)
  rw[e1,e2]
  exact q
theorem qY{α:Type}(ys:List α)(d:α):(List.range ys.length).map (fun i=>ys.getD i d)=ys:=by
 refine List.ext_getElem (by simp) fun i h1 h2=>?_
 simp
 have:i < ys.length:=by simpa using h1
 simp[this]
theorem xU(hu:X.A.units+8 < cLine):cE X (.builtin "sorted") (Hk X.K):=by
 intro pins s σ H xs us Q I r h
 obtain⟨F0,a,vs,ps,rfl,hq,hlen,hF,hp,k⟩:=h
 obtain⟨u,rfl,ru⟩:=vals1 r
 cases(show u=Value.ref a from ru)
 obtain⟨aN,rv,pl,hz⟩:=I.list hq
 have hl:=pl.isList
 have hn:aN.length=ps.length:=by rw[<-rv.length];exact Paired.length hp
 have hf:H (s.heap.objs.size+1)=none:=I.cx.fresh (Nat.le_succ _)
 by_cases h2:aN.length < 2
 ·refine tR hl h2 ?_
  obtain⟨e,he⟩:=sortedAll_at s.heap aN aN.toArray
  have I':Inv X pins σ (upd H (s.heap.objs.size+1) (.lst vs)) {s with heap:=sortedAll s.heap aN aN.toArray}:=
   I.laid (t':=s.toks) (fun b o q=>sortedAll_old q) (Nat.le_succ _) ⟨hz,aN,e,rv,he⟩
  have OC:ps.Pairwise (fun a b=>lex b a=false):=by
   match ps,hn with
   |[],_=>exact List.Pairwise.nil
   |[_],_=>exact List.pairwise_singleton _ _
   |_::_::_,hn=>simp at hn;omega
  exact⟨.ref _,_,I',rfl,k vs ps _ _ (List.Perm.refl _) OC hp hf (bZ hf) aH⟩
 ·obtain⟨m,F⟩:=I.fr
  -- what stands at a path's list
  have items:∀(i:Nat) (v:Value),aN[i]? =some v->∃b xs p n,v= .ref b/\ps[i]? =some p/\IntsAre xs p/\s.heap.get? b=some {cls:= .type "list",data:= .seq xs.toArray n}/\b≠X.env.locals/\X.base.get? b=none:=by
   intro i v e
   have hi:i < vs.length:=by rw[rv.length];exact(List.getElem?_eq_some_iff.mp e).1
   obtain⟨p,ep,LC⟩:=cm hp (show vs[i]? =some vs[i] by simp[hi])
   obtain⟨b,eb,hb⟩:=hF _ _ LC
   obtain⟨v',ev,rl⟩:=rv.get (show vs[i]? =some vs[i] by simp[hi])
   rw[e] at ev
   cases ev
   rw[eb] at rl
   cases(show v=Value.ref b from rl)
   obtain⟨_,xs,n,r1,e1⟩:=(show cK X.prog X.w H s.heap b (.lst (p.map V.int)) from I.cx b _ hb)
   refine⟨b,xs,p,n,rfl,ep,intsAre_of r1,e1,?_,?_⟩
   ·intro z;rw[z,I.free] at hb;cases hb
   ·cases q:X.base.get? b with
    |none=>rfl
    |some o=>rw[(I.bs b o q).2] at hb;cases hb
  refine PySem.W.kas_sorted (T:= .type "list") F Ce hl (by omega) (by rw[hn,<-Paired.length hp];exact hlen) ?_ (by rfl) ?_
  ·intro h' F' N' v hv
   obtain⟨i,hi,e⟩:=List.getElem_of_mem hv
   obtain⟨b,xs,p,n,rfl,_,_,e1,n1,n2⟩:=items i v (by rw[<-e];simp[hi])
   exact PySem.W.kitAt_ty _ _ ⟨_,(N' _ (hV n1 n2 e1)).1,rfl⟩
  ·intro D e1 h' F' N' hD
   have at':∀(i:Nat) (v:Value),aN[i]? =some v->∃b xs p,v= .ref b/\ps[i]? =some p/\IntsAre xs p/\h'.IsList b xs.toArray:=by
    intro i v e
    obtain⟨b,xs,p,n,e2,ep,hI,eo,n1,n2⟩:=items i v e
    exact⟨b,xs,p,e2,ep,hI,_,(N' _ (List.mem_cons_of_mem _ (hV n1 n2 eo))).1,rfl,n,rfl⟩
   refine vH (n:=aN.length) (lt:=xt fun i=>ps.getD i []) (R:=fun p=>Pm aN.length p/\Up (fun i=>ps.getD i []) p aN.length) ?_ ?_ (Ic (by omega))
   ·intro i j C hi hj hC
    obtain⟨b,xs,p,e2,ep,hI,L1⟩:=at' i aN[i] (by simp[hi])
    obtain⟨b',iJ,p',Za,Md,YN,L2⟩:=at' j aN[j] (by simp[hj])
    have g1:aN.getD i Value.none= .ref b:=by rw[<-e2];simp[hi]
    have g2:aN.getD j Value.none= .ref b':=by rw[<-Za];simp[hj]
    have q1:ps.getD i []=p:=by rw[List.getD_eq_getElem?_getD,ep];rfl
    have q2:ps.getD j []=p':=by rw[List.getD_eq_getElem?_getD,Md];rfl
    show wpAny _ _ (keyLt' oneType' (aN.getD i Value.none) (aN.getD j Value.none)) _ _ _
    rw[g1,g2]
    refine Ci (s:={s with heap:=h'}) (by show X.A.units+1+1 < cLine;omega) L1 L2 hI YN ?_
    have e:xt (fun i=>ps.getD i []) i j=lex p p':=by show lex (ps.getD i []) (ps.getD j [])=lex p p';rw[q1,q2]
    rw[e] at hC
    exact hC
   ·rintro p ⟨P1,P2⟩
    have AB:∀i∈p.toList,i < ps.length:=fun i hi=>by
     have q:i∈List.range aN.length:=(Array.perm_iff_toList_perm.mp P1.perm).mem_iff.mp hi
     rw[<-hn];exact List.mem_range.mp q
    have UU:∀q∈nV X.base s.heap X.env.locals,q.1≠D:=fun q hq=>Nat.ne_of_lt (hD q hq)
    refine PySem.W.KasFin.intro F' N' (.head UU) fun IQ c F2 N2=>?_
    have Q3:=N2 _ List.mem_cons_self
    have keep:∀b o,b≠X.env.locals->s.heap.get? b=some o->IQ.get? b=some o:=fun b o nb e=>by
     cases q:X.base.get? b with
     |some u=>
      have:=I.bk b u q
      rw[e] at this;cases this
      exact F2.keep b _ q
     |none=>exact(N2 _ (List.mem_cons_of_mem _ (hV nb q e))).1
    have Yd:s.heap.get? D=none:=by
     cases q:s.heap.get? D with
     |none=>rfl
     |some o=>exact absurd rfl (UU _ (hV Q3.2.1 Q3.2.2 q))
    have ns:∀m',s.heap.Ns X.env.locals m'->IQ.Ns X.env.locals m':=fun m' hm=>by
     have e:m'=m:=hm.eq_nsMap.trans F.ns.eq_nsMap.symm
     rw[e]
     exact F2.ns
    have pick:=ko hp (dx:=V.d0) (dy:=[]) AB
    have Kz:Vals (p.toList.map fun i=>vs.getD i V.d0) (p.toList.map fun i=>aN.getD i Value.none):=ko rv (dx:=V.d0) (dy:=Value.none) fun i hi=>by rw[hn];exact AB i hi
    have Gn:p.toList.length=aN.length:=by rw[Array.length_toList,P1.size]
    obtain⟨UW,I'⟩:=As (o:= .lst (p.toList.map fun i=>vs.getD i V.d0)) (t':=s.toks) I keep ns Yd
     ⟨by rw[List.length_map,Gn,<-rv.length];exact hz,_,c,Kz,Q3.1⟩
    refine⟨.ref D,_,I',rfl,k _ _ D _ ?_ ?_ pick UW (bZ UW) aH⟩
    ·have q:=(Array.perm_iff_toList_perm.mp P1.perm).map fun i=>ps.getD i []
     rw[hn,qY] at q
     exact q
    ·rw[List.pairwise_map,List.pairwise_iff_getElem]
     intro i j hi hj CA
     have NN:j < aN.length:=by rw[<-Gn];exact hj
     have q:=P2 i j (Nat.le_of_lt CA) NN
     have g:∀(x:Nat) (hx:x < p.toList.length),p.getD x 0=p.toList[x]:=fun x hx=>by
      have:x < p.size:=by simpa using hx
      simp[Array.getD,this]
     unfold uR Kp at q
     rw[g i hi,g j hj] at q
     exact q
theorem xT(hu:X.A.units+8 < cLine):cE X (.builtin "sorted") (Kt X.K):=cE.imp (xU hu) fun _ H _ ⟨a,vs,ps,e,hq,hlen,hp,k⟩=>⟨lQ H,a,vs,ps,e,hq,hlen,fun _ _ h=>h,hp,k⟩
end
theorem jx{us:List Value}(h:us.length=1):∃a,us=[a]:=by
 rcases us with _|⟨a,_|⟨_,_⟩⟩
 ·cases h
 ·exact⟨a,rfl⟩
 ·cases h
theorem ku{us:List Value}(h:us.length=2):∃a b,us=[a,b]:=by
 rcases us with _|⟨a,us⟩
 ·cases h
 ·obtain⟨b,rfl⟩:=jx (Nat.succ.inj h)
  exact⟨a,b,rfl⟩
theorem HR{us:List Value}(h:us.length=3):∃a b c,us=[a,b,c]:=by
 rcases us with _|⟨a,us⟩
 ·cases h
 ·obtain⟨b,c,rfl⟩:=ku (Nat.succ.inj h)
  exact⟨a,b,c,rfl⟩
def fC(base:Heap)(mg:Str->Option Value):Prop:=∃bm ob,mg "__builtins__"=some (.ref bm)/\bm≠builtinsNs/\base.get? bm=some ob/\ob.cls= .type "module"/\ob.dict=some builtinsNs/\ob.data= .plain
theorem fC.mono{b b':Heap}{mg:Str->Option Value}(x:fC b mg)(k:∀a o,b.get? a=some o->b'.get? a=some o):fC b' mg:=let ⟨bm,ob,h1,h2,h3,h4⟩:=x;⟨bm,ob,h1,h2,k _ _ h3,h4⟩
def dA(c:Addr)(qual:Str):HO:= .ext fun h=>h.CodeRec (.ref c) qual
abbrev ky(name qual:Str)(params:Arguments)(body:List Stmt)(scope:Scope)(clos:List (Str×Addr))(doc pm:Value)(c:Addr)(je:Value):Obj:=
 {cls:= .type "function",data:= .func (PySem.W.fnX name qual params body scope clos .none .none doc pm none (.ref c) je)}
def oa(f c:Addr)(name qual:Str)(params:Arguments)(body:List Stmt)(scope:Scope)(clos:List (Str×Addr)):HO:= .ext fun h=>∃doc pm je,h.get? f=some (ky name qual params body scope clos doc pm c je)
def jb(H:Hp)(P:Addr)(pos:Pos)(qual:Str):Prop:=H P=some (.gu #[]) ∨ ∃c,H P=some (.gu #[rawInt pos.line,rawInt pos.col,.ref c])/\H c=some (dA c qual)
def cI(H H':Hp):Prop:=∀b o,(∀ps,o≠ .gu ps)->H b=some o->H' b=some o
section
variable {H H1 H2 H':Hp}{b:Addr}
theorem cI.of(s:aQ H H'):cI H H':=fun b o _ h=>s b o h
theorem cI.refl(H:Hp):cI H H:=fun _ _ _ h=>h
theorem cI.trans(a:cI H H1)(c:cI H1 H2):cI H H2:=fun b o n h=>c b o n (a b o n h)
theorem cI.cM(s:cI H H'):bY H H':=fun b xs h=>s b _ (fun _ z=>by cases z) h
theorem cI.lst{xs:List V}(s:cI H H')(h:H b=some (.lst xs)):H' b=some (.lst xs):=s b _ (fun _ z=>by cases z) h
theorem cI.tup{xs:List V}(s:cI H H')(h:H b=some (.tup xs)):H' b=some (.tup xs):=s b _ (fun _ z=>by cases z) h
theorem cI.free(s:cI H H')(n:H' b=none):H b=none ∨ ∃ps,H b=some (.gu ps):=by
 cases q:H b with
 |none=>exact .inl rfl
 |some o=>
  cases o with
  |gu ps=>exact .inr ⟨ps,rfl⟩
  |_=>exact absurd (s b _ (fun _ z=>by cases z) q) (by rw[n];intro z;cases z)
end
theorem jb.same{H H':Hp}{P:Addr}{pos:Pos}{qual:Str}(t:jb H P pos qual)(s:aQ H H'):jb H' P pos qual:=by
 rcases t with t|⟨c,t1,t2⟩
 ·exact .inl (s _ _ t)
 ·exact .inr ⟨c,s _ _ t1,s _ _ t2⟩
def NL(H H':Hp):Prop:=∀b o,(∀xs,o≠ .lst xs)->H b=some o->H' b=some o
theorem NL.of_same{H H':Hp}(s:aQ H H'):NL H H':=fun b o _ h=>s b o h
theorem NL.of_keep{H H':Hp}{l:Addr}{xs:List V}(k:bh [l] H H')(h:H l=some (.lst xs)):NL H H':=fun b o n q=>k b o (fun z=>by
 rw[List.mem_singleton.mp z,h] at q
 cases q
 exact n xs rfl) q
theorem jb.nl{H H':Hp}{P:Addr}{pos:Pos}{qual:Str}(t:jb H P pos qual)(s:NL H H'):jb H' P pos qual:=by
 rcases t with t|⟨c,t1,t2⟩
 ·exact .inl (s _ _ (fun _ z=>by cases z) t)
 ·exact .inr ⟨c,s _ _ (fun _ z=>by cases z) t1,s _ _ (fun _ z=>by cases z) t2⟩
section
variable {X:Cx}{pins:List (Addr×Obj)}{σ:L2.St}{H:Hp}{s:Shared}
theorem tH(I:Inv X pins σ H s){P:Addr}{ps:Array Value}(h:H P=some (.gu ps)):s.heap.get? P=some (PySem.W.tabObj ps):=I.cx P _ h
theorem vX{P:Program}{w:World}{H:Hp}{h:Heap}{c:Addr}{qual:Str}(x:h.CodeRec (.ref c) qual):cK P w H h c (dA c qual):=by
 obtain⟨c',o,vs,t,e,g,r⟩:=id x
 cases e
 refine⟨x,⟨o,g⟩,fun h1 h2 x1 k=>?_⟩
 obtain⟨c',o,vs,t,e,g,r⟩:=x1
 cases e
 exact⟨_,o,vs,t,rfl,k _ g,r⟩
theorem vQ{P:Program}{w:World}{H:Hp}{h:Heap}{f c:Addr}{name qual:Str}{params:Arguments}{body:List Stmt}{scope:Scope}{clos:List (Str×Addr)}{doc pm je:Value}
  (x:h.get? f=some (ky name qual params body scope clos doc pm c je)):cK P w H h f (oa f c name qual params body scope clos):=
 ⟨⟨doc,pm,je,x⟩,⟨_,x⟩,fun _ _ ⟨d,p,t,e⟩ k=>⟨d,p,t,k _ e⟩⟩
def Ox(P:Addr)(pos:Pos)(i:Nat)(name qual:Str)(params:Arguments)(body:List Stmt)(scope:Scope)(clos:List (Str×Addr)):TS:=fun D σ H=>
 jb H P pos qual/\∀f c H',H f=none->cI H H'->jb H' P pos qual->H' c=some (dA c qual)->H' f=some (oa f c name qual params body scope clos)->
  (∀Q:Addr,Q≠P->∀ps,H Q=some (.gu ps)->H' Q=some (.gu ps))->D.nx (σ.set i (some (.ref f))) H'
theorem sY(pos:Pos)(v:Value):codeAmong pos [rawInt pos.line,rawInt pos.col,v]=some v:=by
 show(if ((pos.line:Int)==pos.line&&(pos.col:Int)==pos.col)=true then some v else _)=some v
 rw[if_pos (by simp)]
theorem BK{name qual:Str}{params:Arguments}{body:List Stmt}{scope:Scope}{pos:Pos}{i:Nat}{c0 P:Addr}{clos:List (Str×Addr)}(vM:X.env.code= .ref c0)(hC:PySem.W.codeHdIn X.K c0 P=true)(BB:fC X.base X.mg)
  (hN:X.N.Nodup)(hi:X.N[i]? =some name)(hx:Loc X.env.scope name)(sf:closureFor scope X.env=pure clos)(hq:qualnameIn X.env name name=qual)(Yx:params.defaults=[]:=by rfl)(Yn:params.kw_defaults=[]:=by rfl)
  (ha:annTrees params none X.env=[]:=by rfl)(hf:X.fn name=true ∨ X.env.scope.names.lookup name=some .local:=by first|exact .inl rfl|exact .inr rfl):
  PS X (.FunctionDef name params body [] none [] scope none name pos) (Ox P pos i name qual params body scope clos):=by
 intro pins s σ H D I h
 obtain⟨ht,k⟩:=h
 refine PySem.W.nestDef_K Yx Yn ha ?_
 rw[hq]
 have hg:s.heap.Ns mainGlobals X.mg:=I.mod.glob.keeps I.bk
 have CH:PySem.W.CodeHd s.heap c0 P:=PySem.W.codeHd_of_K I.nu hC
 obtain⟨bm,ob,b1,b2,b3,b4,b5,b6⟩:=BB
 have FG:∃ps,H P=some (.gu ps):=by
  rcases ht with t|⟨c,t,_⟩
  ·exact⟨_,t⟩
  ·exact⟨_,t⟩
 have nP:∀b o,X.base.get? b=some o->b≠P:=fun b o e z=>by
  obtain⟨ps,t⟩:=FG
  rw[z] at e
  rw[(I.bs P o e).2] at t
  cases t
 have QG:mainGlobals≠P:=by
  obtain⟨o,es,ep,e,_⟩:=I.mod.glob
  exact nP _ _ e
 have QW:bm≠mainGlobals:=fun q=>by
  obtain⟨o,es,ep,e,hd,_⟩:=I.mod.glob
  rw[q,e] at b3
  cases b3
  rw[hd] at b6
  cases b6
 have hB:s.heap.BuiltinsAt X.mg P:=⟨bm,ob,b1,b2,QW,nP _ _ b3,I.bk _ _ b3,b4,b5,b6⟩
 rcases ht with t|⟨c,t,tc⟩
 ·-- the first time
  have hP:s.heap.get? P=some (PySem.W.tabObj #[]):=tH I t
  refine PySem.W.makeFunction_K (mg:=X.mg) sf I.ok.glob hg vM CH hP True.intro rfl QG hB fun c' je doc h' tk Av yQ eB Iz Lw=>?_
  have Km:s.heap.objs.size<=h'.objs.size:=Nat.le_trans yQ (Nat.le_of_lt eB)
  have qR:∀b o,b≠P->s.heap.get? b=some o->(h'.push (ky name qual params body scope clos doc ((X.mg "__name__").getD .none) c' je)).get? b=some o:=fun b o n e=>Heap.get?_push_of_some _ (Av b o n e)
  have nc:∀b o,s.heap.get? b=some o->b≠c':=fun b o e=>Nat.ne_of_lt (Nat.lt_of_lt_of_le (Heap.lt_size e) yQ)
  have nf:∀b o,s.heap.get? b=some o->b≠h'.objs.size:=fun b o e=>Nat.ne_of_lt (Nat.lt_of_lt_of_le (Heap.lt_size e) Km)
  have tr:∀b u,H b=some u->∃o,s.heap.get? b=some o:=fun b u e=>e6 (I.cx b u e)
  have QT:c'≠h'.objs.size:=Nat.ne_of_lt eB
  have wx:∀b o,b≠P->(∃ob,s.heap.get? b=some ob)->H b=o->(upd (upd (upd H P (.gu #[rawInt pos.line,rawInt pos.col,.ref c'])) c' (dA c' qual)) h'.objs.size (oa h'.objs.size c' name qual params body scope clos)) b=o:=fun b o n ⟨ob,e⟩ q=>by
   rw[aF (nf b ob e),aF (nc b ob e),aF n,q]
  have mZ:∀b,H b=none->b≠P:=fun b n z=>by rw[z,t] at n;cases n
  have hPb:(∃ob,s.heap.get? P=some ob):=⟨_,hP⟩
  have eP:(upd (upd (upd H P (.gu #[rawInt pos.line,rawInt pos.col,.ref c'])) c' (dA c' qual)) h'.objs.size (oa h'.objs.size c' name qual params body scope clos)) P=some (.gu #[rawInt pos.line,rawInt pos.col,.ref c']):=by
   rw[aF (nf P _ hP),aF (nc P _ hP),aH]
  have eC:(upd (upd (upd H P (.gu #[rawInt pos.line,rawInt pos.col,.ref c'])) c' (dA c' qual)) h'.objs.size (oa h'.objs.size c' name qual params body scope clos)) c'=some (dA c' qual):=by
   rw[aF QT,aH]
  have I':Inv X pins σ (upd (upd (upd H P (.gu #[rawInt pos.line,rawInt pos.col,.ref c'])) c' (dA c' qual)) h'.objs.size (oa h'.objs.size c' name qual params body scope clos))
    {s with heap:=h'.push (ky name qual params body scope clos doc ((X.mg "__name__").getD .none) c' je),toks:=tk}:=by
   refine I.step (g':=s.gens) (d':=s.drawn) (ch:=[]) (fun _ z=>nomatch z) (fun b o _ _ _ e n=>qR b o (mZ b n) e) (fun b o _ _ _ e n=>⟨o.slots,qR b o (mZ b n) e⟩) (fun b o _ e n=>wx b none (mZ b n) ⟨o,e⟩ n)
    (fun b o _ e=>?_) (fun b xs e=>wx b _ (fun z=>by rw[z,t] at e;cases e) (tr b _ e) e) (fun b ob u e=>wx b _ (fun z=>by rw[z,t] at e;cases e) (tr b _ e) e) (fun b qs e=>?_) (fun m hm=>?_) (fun b u e=>?_) I.bare
   ·by_cases hb:b=P
    ·subst hb
     exact⟨_,Heap.get?_push_of_some _ Lw⟩
    ·exact⟨o,qR b o hb e⟩
   ·by_cases hb:b=P
    ·subst hb
     rw[t] at e
     cases e
     exact⟨#[rawInt pos.line,rawInt pos.col,.ref c'],by rw[eP];simp⟩
    ·exact⟨#[],by rw[wx b _ hb (tr b _ e) e];simp⟩
   ·obtain⟨o,es,ep,e,r⟩:=hm
    exact⟨o,es,ep,qR _ o (mZ _ I.free) e,r⟩
   ·by_cases h1:b=h'.objs.size
    ·subst h1
     rw[aH] at e
     cases e
     exact vQ (Heap.get?_push_size _ rfl)
    ·rw[aF h1] at e
     by_cases h2:b=c'
     ·subst h2
      rw[aH] at e
      cases e
      exact vX (Iz.keeps fun b o q=>Heap.get?_push_of_some _ q)
     ·rw[aF h2] at e
      by_cases h3:b=P
      ·subst h3
       rw[aH] at e
       cases e
       show(h'.push _).get? _=some _
       exact Heap.get?_push_of_some _ Lw
      ·rw[aF h3] at e
       refine(I.cx b u e).lD (fun d v hd q=>qR d v ?_ q) (fun d q=>wx d _ (fun z=>by rw[z,t] at q;cases q) (tr d _ q) q) fun d xs q=>wx d _ (fun z=>by rw[z,t] at q;cases q) (tr d _ q) q
       rcases hd with rfl|hd
       ·exact h3
       ·intro z;rw[z,t] at hd;cases hd
  refine kd I' hN hi hx (v:= .ref h'.objs.size) rfl (fun s' I2=>⟨_,_,I2,k h'.objs.size c' _ (I.cx.fresh Km) (fun b o n q=>?_) (.inr ⟨c',eP,eC⟩) eC aH fun Q hQ qs q=>?_⟩) hf
  ·exact wx b _ (fun z=>by rw[z,t] at q;cases q;exact n _ rfl) (tr b _ q) q
  ·exact wx Q _ hQ (tr Q _ q) q
 ·-- its code is there
  have hP:s.heap.get? P=some (PySem.W.tabObj #[rawInt pos.line,rawInt pos.col,.ref c]):=tH I t
  refine PySem.W.makeFunction_hit (mg:=X.mg) (cv:= .ref c) sf I.ok.glob hg vM CH hP (by exact True.intro) (sY pos _) hB fun je doc h' tk hk hsz=>?_
  have LV:H h'.objs.size=none:=I.cx.fresh hsz
  have I':Inv X pins σ (upd H h'.objs.size (oa h'.objs.size c name qual params body scope clos)) {s with heap:=h'.push (ky name qual params body scope clos doc ((X.mg "__name__").getD .none) c je),toks:=tk}:=
   I.laid (fun b o e=>Heap.get?_push_of_some _ (hk b o e)) hsz (vQ (Heap.get?_push_size _ rfl))
  have sm:aQ H (upd H h'.objs.size (oa h'.objs.size c name qual params body scope clos)):=bZ LV
  exact kd I' hN hi hx (v:= .ref h'.objs.size) rfl (fun s' I2=>⟨_,_,I2,k h'.objs.size c _ LV (.of sm) (.inr ⟨c,sm _ _ t,sm _ _ tc⟩) (sm _ _ tc) aH fun Q _ qs q=>sm _ _ q⟩) hf
end
structure gX(ps fs:List Str)(sc:Scope):Prop where
 kind:sc.kind= .function
 co:sc.isCoroutine=false
 gen:sc.isGenerator=false
 nd:(ps++fs).Nodup
 par:∀x∈ps,sc.names.lookup x=some .local
 YX:∀x∈fs,sc.names.lookup x=some .free
 xo:∀y∈sc.names,y.2≠ .cell
 all:∀y∈sc.names,y.2= .free->y.1∈fs
def sQ(CX:mB)(P:Program)(w:World)(K:W.Frag)(mg:Str->Option Value)(base:Heap)(N:List Str)(qual:Str)(scope:Scope)(f:Addr)(cd:Value)(clos:List (Str×Addr))(A:Around)(outer:List Env)(s:Shared)(H:Hp)(E:XK):Cx where
 prog:=P
 w:=w
 K:=K
 mg:=mg
 base:=base
 A:=A.deeper (PySem.W.envX qual scope s.heap.objs.size f cd clos)
 N:=N
 s₀:=s
 H₀:=H
 env:=PySem.W.envX qual scope s.heap.objs.size f cd clos
 outer:=outer
 stack:=PySem.W.envX qual scope s.heap.objs.size f cd clos::outer
 ex:=[]
 calm:=true
 fn:=fun _=>false
 pn:=[]
 xe:=fun e s'=>wpAny (model P w) (A.deeper (PySem.W.envX qual scope s.heap.objs.size f cd clos)) (leaving (PySem.W.envX qual scope s.heap.objs.size f cd clos) e) (fun _ Hf=>CX outer H s E e Hf) (fun e' Hf=>CX outer H s E e' Hf) s'
def uQ(base:Heap)(clos:List (Str×Addr))(fs:List Str)(fvs:List V):Prop:=Paired (fun(x:Str) (v:V)=>∃c u,clos.lookup x=some c/\base.IsCell c (some u)/\RelV v u) fs fvs
theorem uX:∀{ps:List Str}{us:List Value}{i:Nat}{x:Str}{u:Value},ps.Nodup->ps[i]? =some x->us[i]? =some u->(ps.zip us).reverse.lookup x=some u:=by
 intro ps us i x u nd h1 h2
 have hm:(x,u)∈(ps.zip us).reverse:=by
  rw[List.mem_reverse]
  have:(ps.zip us)[i]? =some (x,u):=by
   rw[List.getElem?_zip_eq_some]
   exact⟨h1,h2⟩
  exact List.mem_of_getElem? this
 have Nz:((ps.zip us).reverse.map (·.1)).Nodup:=by
  rw[List.map_reverse]
  have hs:List.Sublist ((ps.zip us).map (·.1)) ps:=by
   clear h1 h2 hm nd
   induction ps generalizing us with
   |nil=>simp
   |cons a r ih=>
    cases us with
    |nil=>simp
    |cons b t=>simpa using ih
  exact(List.reverse_perm _).nodup_iff.mpr (nd.sublist hs)
 generalize hl:(ps.zip us).reverse=l at hm Nz
 clear hl h1 h2 nd
 induction l with
 |nil=>simp at hm
 |cons q r ih=>
  obtain⟨y,w⟩:=q
  rw[List.map_cons,List.nodup_cons] at Nz
  rcases List.mem_cons.mp hm with e|LL
  ·cases e
   simp[List.lookup]
  ·have lF:x≠y:=fun z=>Nz.1 (by rw[<-z];exact List.mem_map.mpr ⟨(x,u),LL,rfl⟩)
   rw[List.lookup_cons]
   rw[show(x==y)=false by simpa using lF]
   exact ih LL Nz.2
section
variable {CX:mB}{P:Program}{w:World}{K:W.Frag}{mg:Str->Option Value}{base:Heap}{k:Nat}{f c:Addr}{name qual:Str}{params:Arguments}{body:List Stmt}{scope:Scope}{clos:List (Str×Addr)}{doc pm je:Value}{ps fs:List Str}{fvs:List V}{sp:Sp}
end
def lN(base:Heap)(L:List Addr)(a:Addr):Bool:=(base.get? a).isSome||L.contains a
def pM(h base:Heap)(L:List Addr):Heap:=PySem.W.hideAll h ((List.range h.objs.size).filter fun a=> !lN base L a)
theorem rB{h base:Heap}{L:List Addr}{b:Addr}{o:Obj}(e:h.get? b=some o)(k:lN base L b=true):(pM h base L).get? b=some o:=
 PySem.W.hideAll_get _ e fun z=>by
  have:=(List.mem_filter.mp z).2
  rw[k] at this
  exact absurd this (by decide)
theorem yy{h base:Heap}{L:List Addr}{b:Addr}{o:Obj}(e:(pM h base L).get? b=some o):h.get? b=some o/\lN base L b=true:=by
 have e1:=PySem.W.of_hideAll _ e
 refine⟨e1,?_⟩
 cases q:lN base L b with
 |true=>rfl
 |false=>
  have hm:b∈(List.range h.objs.size).filter fun a=> !lN base L a:=List.mem_filter.mpr ⟨List.mem_range.mpr (Heap.lt_size e1),by rw[q];rfl⟩
  rw[show(pM h base L).get? b=none from PySem.W.hideAll_none _ hm] at e
  cases e
def iE(H:Hp)(L:List Addr):Hp:=fun b=>if b∈L then none else H b
def pN(H' H:Hp)(L:List Addr):Hp:=fun b=>if b∈L then H b else H' b
theorem cy{H:Hp}{L:List Addr}{b:Addr}(h:b∉L):iE H L b=H b:=if_neg h
theorem qk{H:Hp}{L:List Addr}{b:Addr}(h:b∈L):iE H L b=none:=if_pos h
theorem du{H' H:Hp}{L:List Addr}{b:Addr}(h:b∉L):pN H' H L b=H' b:=if_neg h
theorem nW{H' H:Hp}{L:List Addr}{b:Addr}(h:b∈L):pN H' H L b=H b:=if_pos h
def Goes(X:Cx)(H:Hp)(b:Addr):Prop:=(∃φ,H b=some (.ext φ)) ∨ ∃x,X.env.cells.lookup x=some b/\X.fn x=true
section
variable {X:Cx}{pins:List (Addr×Obj)}{σ:L2.St}{H:Hp}{s:Shared}{L:List Addr}
theorem Goes.there(I:Inv X pins σ H s){b:Addr}(g:Goes X H b):∃o,s.heap.get? b=some o:=by
 rcases g with⟨φ,e⟩|⟨x,e,_⟩
 ·exact e6 (I.cx b _ e)
 ·obtain⟨v,o,h,_⟩:=I.cell x b e
  exact⟨o,h⟩
theorem Goes.yB(I:Inv X pins σ H s){b:Addr}(g:Goes X H b):b∉vP X.stack:=fun z=>by
 have hn:=I.tI b z
 rcases g with⟨φ,e⟩|⟨x,e,hf⟩
 ·rw[hn] at e;cases e
 ·rcases List.mem_cons.mp (I.wR b z) with q|q
  ·exact I.GJ x b e q
  ·obtain⟨_,o,ho,_⟩:=I.ok.lH.mem q
   exact absurd (Nat.lt_of_lt_of_le (Heap.lt_size ho) (I.ok.J0 x b hf e)) (Nat.lt_irrefl _)
theorem Goes.sH(g:∀b∈L,Goes X H b)(I:Inv X pins σ H s){b:Addr}{u:HO}(e:H b=some u)(n:∀φ,u≠ .ext φ):b∉L:=fun z=>by
 rcases g b z with⟨φ,q⟩|⟨x,q,_⟩
 ·rw[e] at q;cases q;exact n φ rfl
 ·rw[I.jP x b q] at e;cases e
theorem CS(I:Inv X pins σ H s)(g:∀b∈L,Goes X H b):pO X.prog X.w X.K X.mg (pM s.heap X.base L) X.A X.stack s (iE H L):=by
 have kb:∀b o,X.base.get? b=some o->(pM s.heap X.base L).get? b=some o:=fun b o e=>rB (I.bk b o e) (by unfold lN;rw[e];rfl)
 have nb:∀b,(pM s.heap X.base L).get? b=none ∨ (X.base.get? b).isSome=true ∨ b∈L:=fun b=>by
  cases q:(pM s.heap X.base L).get? b with
  |none=>exact .inl rfl
  |some o=>
   have:=(yy q).2
   unfold lN at this
   rw[Bool.or_eq_true] at this
   rcases this with z|z
   ·exact .inr (.inl z)
   ·exact .inr (.inr (by simpa using z))
 refine⟨I.ok.frames,⟨I.mod.HW.keeps kb,I.mod.glob.keeps kb,let ⟨mb,h1,h2⟩:=I.mod.blt;⟨mb,h1.keeps kb,h2⟩,I.mod.nolimit.keeps kb⟩,fun b o e=>?_,Nat.le_of_eq (PySem.W.hideAll_size _ _),?_,fun b hb=>?_,fun b u e=>?_,I.bare⟩
 ·obtain⟨e1,e2⟩:=yy e
  refine⟨e1,?_⟩
  by_cases hb:b∈L
  ·exact qk hb
  ·rw[cy hb]
   unfold lN at e2
   rw[Bool.or_eq_true] at e2
   rcases e2 with z|z
   ·obtain⟨o',q⟩:=Option.isSome_iff_exists.mp z
    exact(I.bs b o' q).2
   ·exact absurd (by simpa using z) hb
 ·have all:∀l:List Env,(∀b∈vP l,b∈vP X.stack)->s.heap.FunFrames X.base l->s.heap.FunFrames (pM s.heap X.base L) l:=by
   intro l
   induction l with
   |nil=>intro _ _;trivial
   |cons env r ih=>
    intro hs hl
    obtain⟨hk,⟨L',o,hf,hn,ho,hd⟩,hr⟩:=hl
    have hm:L'∈vP X.stack:=hs L' (by unfold vP;rw[List.filterMap_cons,hf];exact List.mem_cons_self)
    refine⟨hk,⟨L',o,hf,?_,ho,hd⟩,ih (fun b hb=>hs b (by unfold vP;rw[List.filterMap_cons,hf];exact List.mem_cons_of_mem _ hb)) hr⟩
    rcases nb L' with z|z|z
    ·exact z
    ·rw[hn] at z;cases z
    ·exact absurd hm ((g L' z).yB I)
  exact all X.stack (fun _ h=>h) I.stack
 ·unfold iE
  split
  ·rfl
  ·exact I.tI b hb
 ·have hb:b∉L:=fun z=>by rw[qk z] at e;cases e
  rw[cy hb] at e
  refine(I.cx b u e).lD (fun _ _ _ q=>q) (fun c q=>?_) fun c xs q=>?_
  ·rw[cy (Goes.sH g I q fun _ z=>by cases z)];exact q
  ·rw[cy (Goes.sH g I q fun _ z=>by cases z)];exact q
theorem AQ{Q:VK}{u:Value}{s':Shared}(I:Inv X pins σ H s)(g:∀b∈L,Goes X H b)(h:CE X.stack X.prog X.w (iE H L) s (fun v H'=>(∀b∈L,H' b=none)->Q v (pN H' H L)) u s'):EP X pins σ Q u s':=by
 obtain⟨v,H',os,bare,un,cx,r,q⟩:=h
 have gone:∀b∈L,H' b=none:=fun b hb=>by
  obtain⟨o,e⟩:=(g b hb).there I
  exact un.free b o e (qk hb) (by simp)
 have Od:∀b,H b=none->iE H L b=none:=fun b n=>by
  unfold iE
  split
  ·rfl
  ·exact n
 refine⟨v,pN H' H L,I.Mr (ch:=[]) os ⟨fun b o e n hb hx=>un.keep b o e (Od b n) hb hx,fun b o e n hb hx=>un.slot b o e (Od b n) hb hx,fun b o e n hx=>?_,un.there,fun b xs e=>?_,fun b o xs e=>?_,fun b qs e=>?_⟩ (fun b w e=>?_) bare fun b z=>absurd z (by simp),r,q gone⟩
 ·by_cases hb:b∈L
  ·rw[nW hb];exact n
  ·rw[du hb];exact un.free b o e (Od b n) hx
 ·have hb:=Goes.sH g I e fun _ z=>by cases z
  rw[du hb]
  exact un.cM b xs (by rw[cy hb];exact e)
 ·have hb:=Goes.sH g I e fun _ z=>by cases z
  rw[du hb]
  exact un.nH b o xs (by rw[cy hb];exact e)
 ·have hb:=Goes.sH g I e fun _ z=>by cases z
  rw[du hb]
  exact un.mI b qs (by rw[cy hb];exact e)
 ·by_cases hb:b∈L
  ·rw[nW hb] at e
   rcases g b hb with⟨φ,e'⟩|⟨x,e',_⟩
   ·rw[e] at e'
    cases e'
    obtain⟨p,⟨o,eo⟩,st⟩:=I.cx b _ e
    have k:=un.keep b o eo (qk hb) ((g b hb).yB I) (by simp)
    exact⟨st _ _ p fun o' q'=>by rw[eo] at q';cases q';exact k,⟨o,k⟩,st⟩
   ·rw[I.jP x b e'] at e;cases e
  ·rw[du hb] at e
   have nl:∀c y,H' c=some y->c∉L:=fun c y e z=>by rw[gone c z] at e;cases e
   exact(cx b w e).lD (fun _ _ _ q=>q) (fun c q=>by rw[du (nl c _ q)];exact q) fun c xs q=>by rw[du (nl c _ q)];exact q
end
def FV(P:Program)(w:World)(K:W.Frag)(mg:Str->Option Value)(base:Heap)(CX:mB)(k:Nat)(f:Addr)(ps:List Str)(sp:Sp):Prop:=
 ∃fd oc od sl,cg P w K mg base CX k f fd ps sp/\base.get? f=some ⟨oc,od,.func fd,sl⟩/\Binds K fd ps []
section
variable {X:Cx}{CX:mB}{k:Nat}{ps:List Str}{E:XK}{x:Str}{p pos:Pos}{e:Expr}{es:List Expr}{t:TA}
inductive SF(X:Cx)(CX:mB)(k:Nat)(ps:List Str)(E:XK)(i:Nat)(t:TA)(σ:L2.St)(H:Hp)(Q:VK):Prop where
 |mk(f:_)(sp:_)(c1:σ[i]? =some (some (.ref f)))(c2:FV X.prog X.w X.K X.mg X.base CX k f ps sp)(c3:t σ H fun vs H1=>sp vs H1 Q E)
def V7(X:Cx)(CX:mB)(k:Nat)(ps:List Str)(E:XK)(i:Nat)(t:TA):TE:=fun σ H Q=>SF X CX k ps E i t σ H Q
theorem KD(i:Nat)(hr:dr k X.A)(hx:Passes CX X E)(ha:PA X (e::es) t)(hN:X.N[i]? =some x:=by rfl)(hv:J1 X.env.scope x:=by first|exact Or.inl rfl|exact Or.inr (Or.inl rfl)|exact Or.inr (Or.inr rfl))
  (h:(e::es).all dD=true:=by rfl)(hd:(x==("__debug__":Str))=false:=by decide)(rQ:(x==("__classdict__":Str))=false:=by decide):PE X (.Call (.Name x p) (e::es) [] pos) (V7 X CX k ps E i t):=by
 intro pins s σ H Q I hw
 obtain⟨f,sp,hi,⟨fd,oc,od,sl,F,ho,hb⟩,hw⟩:=hw
 rw[List.all_cons,Bool.and_eq_true] at h
 have LH:PE X (.Name x p) (zG i):=BR hN hv hd rQ
 refine wpAny_Call_Name_kw (dB (LH pins s σ H (fun v H1=>v= .ref f/\H1=H) I ⟨_,hi,rfl,rfl⟩) fun u s1 ⟨v,H1,I1,rv,e1,e2⟩=>?_)
 subst e1 e2
 cases(show u=Value.ref f from rv)
 refine PySem.W.callWith_F (first:=[]) ⟨_,_,_,_,I1.bk _ _ ho⟩ (dB (ha pos pins s1 σ H1 _ I1 hw) fun us s2 ⟨vs,H2,I2,r,q⟩=>⟨⟨_,_,_,_,I2.bk _ _ ho⟩,?_⟩) (bP h.1) (eE h.2)
 exact tW F hr hb (dvs:=[]) (ds:=[]) .nil hx I2 r (by rw[List.append_nil];exact q)
end
section
variable {X:Cx}{CX:mB}{k:Nat}{ps:List Str}{E:XK}{x:Str}{p pos:Pos}{e:Expr}{es:List Expr}{t:TA}
def GB(P:Program)(w:World)(K:W.Frag)(mg:Str->Option Value)(base:Heap)(CX:mB)(k:Nat)(x:Str)(ps:List Str)(sp:Heap->Sp):Prop:=
 ∀cw,(∀b o,base.get? b=some o->cw.get? b=some o)->GF P w K mg cw CX k x ps (sp cw)
end
def M3(K:W.Frag)(a:Addr)(n:Nat):It:=
 ⟨fun i H=>i < n/\∃xs,bp K H a xs/\xs.length=n,fun i H x H'=>H'=H/\∀xs,bp K H a xs->xs.reverse[i]? =some x,fun i H=>n<=i⟩
theorem Bq{P:Program}{w:World}{K:W.Frag}{tg:Expr}(a it:Addr)(n:Nat):Turn P w K tg (M3 K a n) [it] it (fun i h=>i<=n/\h.IsRevIter it a ((n:Int) - 1 - (i:Int))) where
 mem:=by simp
 obj:=fun i h st b hb=>by
  have e:b=it:=by simpa using hb
  subst e
  obtain⟨_,o,e,c,d⟩:=st
  exact⟨o,e,fun v z=>by rw[d] at z;cases z⟩
 keep:=fun i h h' st k=>⟨st.1,st.2.at fun o e=>k it (by simp) o e⟩
 item:=by
  intro X hP hw hK hc i pins s σ H E I hf st hg
  subst hP hw hK
  obtain⟨hi,xs,hq,hn⟩:=hg
  obtain⟨aN,rv,p,hz⟩:=I.list hq
  have hx:xs.reverse[i]? =some (xs.reverse[i]'(by rw[List.length_reverse];omega)):=by simp[hi,hn]
  have ml:xs[n - 1 - i]? =some (xs.reverse[i]'(by rw[List.length_reverse];omega)):=by
   rw[<-hx,List.getElem?_reverse (by omega),hn]
  obtain⟨u,hu,ru⟩:=rv.get ml
  obtain⟨f0,f1,f2,f3,f4,f5⟩:=hf it (by simp)
  have e:(n:Int) - 1 - (i:Int)=((n - 1 - i:Nat):Int):=by omega
  have G9:=st.2
  rw[e] at G9
  refine wpAny_pyNext_rev_item G9 p.isList (x:=u) (by simpa using hu) fun h' D3 sb=>?_
  have I1:Inv X pins σ H {s with heap:=h'}:=I.turned (t':=s.toks) (fun b o hb e=>(sb.2 b hb).trans e) f0 f1 f3 f4 f5
  have e2:((n - 1 - i:Nat):Int) - 1=(n:Int) - 1 - ((i+1:Nat):Int):=by omega
  rw[e2] at D3
  obtain⟨o,eo,c,d⟩:=id D3
  exact⟨u,rfl,CJ (s:={s with heap:=h'}) eo c d (by decide) ⟨_,H,I1,ru,⟨rfl,fun ys hy=>by rw[I.kr hy hq];exact hx⟩,⟨by omega,D3⟩,fun b hb=>(hf b hb).1⟩⟩
 done:=by
  intro X hP hw hK hc i pins s σ H E I hf st hg
  subst hP hw hK
  have hni:n<=i:=hg
  obtain⟨f0,f1,f2,f3,f4,f5⟩:=hf it (by simp)
  have e:(n:Int) - 1 - (i:Int)= -1:=by have:=st.1;omega
  have G9:=st.2
  rw[e] at G9
  exact wpAny_pyNext_rev_end (I.ok.hd hc) G9 fun h' eb=>⟨rfl,I.turned (t':=s.toks) (fun b o hb e=>eb b o hb e) f0 f1 f3 f4 f5⟩
 self:=fun _ _ _ _ _ st h=>wpAny_pyIter_revIter st.2 h
section
variable {X:Cx}{tg:Expr}
inductive M9(K:W.Frag)(R:It->Hp->Prop)(vs:List V)(H1:Hp):Prop where
 |mk(a:_)(xs:_)(c1:vs=[.ref a])(c2:bp K H1 a xs)(c3:R (M3 K a xs.length) H1)
def PJ(K:W.Frag)(tl:TE):TI:=fun σ H R=>gC tl ot σ H fun vs H1=>M9 K R vs H1
theorem BQ{l:Expr}{tl:TE}{p pos:Pos}(hg:Gl X "reversed")(hm:X.mg "reversed"=none)(hl:PE X l tl)(h:dD l=true:=by rfl):PI X tg (.Call (.Name "reversed" p) [l] [] pos) (PJ X.K tl):=by
 intro pins s σ H R I hw
 have ha:PA X [l] (gC tl ot):=ak hl aj h
 refine wpAny_Call_Name_kw (iB I hg hm boot_reversed ?_)
 refine PyProof.Rows.callWith_type1 (dB (ha pos pins s σ H _ I hw) fun us s1 ⟨vs,H1,I1,r1,a,xs,e,hq,q1⟩=>?_) (bP h) rfl
 subst e
 obtain⟨u,rfl,ru⟩:=vals1 r1
 cases(show u=Value.ref a from ru)
 obtain⟨aN,rv,pl,hz⟩:=I1.list hq
 have hn:aN.toArray.size=xs.length:=by rw[List.size_toArray,rv.length]
 refine call_reversed_list pl.isList ?_
 have hit:(s1.heap.push (revObj a ((aN.toArray.size:Int) - 1))).IsRevIter s1.heap.objs.size a ((xs.length:Int) - 1 - ((0:Nat):Int)):=by
  refine⟨_,Heap.get?_push_size _ rfl,rfl,?_⟩
  rw[hn]
  show Data.fields #[Value.ref a,rawInt ((xs.length:Int) - 1)]=_
  rw[show(xs.length:Int) - 1 - ((0:Nat):Int)=(xs.length:Int) - 1 by omega]
 refine wpAny_pyIter_revIter (s:={s1 with heap:=s1.heap.push (revObj a ((aN.toArray.size:Int) - 1))}) hit ?_
 refine⟨s1.heap.objs.size,[s1.heap.objs.size],_,_,H1,rfl,I1.kept (t':=s1.toks) fun b o e=>Heap.get?_push_of_some _ e,Bq a _ xs.length,⟨Nat.zero_le _,hit⟩,fun b hb=>?_,q1⟩
 have e:b=s1.heap.objs.size:=by simpa using hb
 subst e
 exact I1.CN (Nat.le_refl _) (I1.cx.fresh (Nat.le_refl _))
end
theorem yV{K:W.Frag}{a:Addr}{xs:List V}{g:TG}{tb:TS}{D:Ends}{σ:L2.St}{H:Hp}(Pv:Nat->L2.St->Hp->Prop)(h0:Pv 0 σ H)(hl:∀i σ H,i<=xs.length->Pv i σ H->bp K H a xs)
  (hs:∀i x σ H,xs.reverse[i]? =some x->Pv i σ H->g x σ H fun σ2 H2=>tb {D with nx:=Pv (i+1),ct:=Pv (i+1),bk:=D.nx} σ2 H2)(hd:∀σ H,Pv xs.length σ H->D.nx σ H):
  ∃W:Nat->Nat->L2.St->Hp->Prop,(∃m,W 0 m σ H)/\∀i m σ H,W i m σ H->
   ((M3 K a xs.length).stop i H/\D.nx σ H) ∨ ((M3 K a xs.length).go i H/\∃N:L2.St->Hp->Prop,(∀σ' H',N σ' H'->∃m',m' < m/\W (i+1) m' σ' H')/\∀x H',(M3 K a xs.length).JH i H x H'->g x σ H' fun σ2 H2=>tb {D with nx:=N,ct:=N,bk:=D.nx} σ2 H2):=by
 refine⟨fun i m σ H=>m=xs.length - i/\i<=xs.length/\Pv i σ H,⟨xs.length,by simp,Nat.zero_le _,h0⟩,?_⟩
 rintro i m σ H ⟨rfl,hi,p⟩
 have q:=hl i σ H hi p
 by_cases eB:i < xs.length
 ·refine .inr ⟨⟨eB,xs,q,rfl⟩,Pv (i+1),fun σ' H' p'=>⟨xs.length - (i+1),by omega,rfl,eB,p'⟩,fun x H' y=>?_⟩
  obtain⟨e,y⟩:=y
  subst e
  exact hs i x σ _ (y xs q) p
 ·have e:i=xs.length:=by omega
  subst e
  exact .inl ⟨Nat.le_refl _,hd σ H p⟩
theorem gF{α β:Type}{F:α->β->Prop}:∀{xs:List α}{ys:List β},Paired F xs ys->Paired F xs.reverse ys.reverse
 |_,_,.nil=> .nil
 |_,_,.cons r p=>by rw[List.reverse_cons,List.reverse_cons];exact aJ r (gF p)
theorem xu:typeLookup (.type "list_reverseiterator") "__len__"=pure none:=by rw[typeLookup_type,builtinLookup_eq_fast];kernel_rfl
theorem Cj:typeLookup (.type "list_reverseiterator") "__length_hint__"=pure (some (.builtin "list_reverseiterator.__length_hint__")):=by rw[typeLookup_type,builtinLookup_eq_fast];kernel_rfl
section
variable {prog:Program}{w:World}{A:Around}{E:Value->Shared->Prop}{s:Shared}
theorem DY:isSubtype (.type "list_reverseiterator") (.type "list_reverseiterator")=pure true:=by rw[isSubtype_type];kernel_rfl
theorem Cz{it l:Addr}{i:Int}{Q:Bool->Shared->Prop}(hit:s.heap.IsRevIter it l i)(h:Q false s):wpAny (model prog w) A (Builtin.List.listLengthHint (.ref it)) Q E s:=by
 unfold Builtin.List.listLengthHint
 refine wpAny_bind (wpAny_specialOf hit.typeIs xu ?_)
 show wpAny _ _ (specialOf (Value.ref it) (Str.ofString "__length_hint__") >>= _) _ _ _
 refine wpAny_bind (wpAny_specialOf hit.typeIs Cj ?_)
 generalize UG:("list_reverseiterator.__length_hint__":String)=XM
 wp_delta
 rw[show splitId XM=some ("list_reverseiterator","__length_hint__") from by subst UG;decide+kernel]
 subst UG
 refine wpAny_bind (wpAny_isInstance (b:=true) hit.typeIs DY ?_)
 exact wpAny_pure h
theorem HQ:(Value.type "list_reverseiterator"==Value.type "list")=false:=by decide
theorem HP:(Value.type "list_reverseiterator"==Value.type "tuple")=false:=by decide
end
section
variable {prog:Program}{w:World}{A:Around}{s:Shared}{R:Result->Shared->Prop}{I l:Addr}{items:Array Value}
theorem E7(hh:A.handled=none)(lF:l≠I)(S:Addr)(res:Value)(c₀:Nat)(hit:s.heap.IsRevIter I l ((items.size:Int) - 1))(hl:s.heap.IsList l items)(L6:S≠I)(IM:S≠l)
  (hS:s.heap.get? S=some {cls:= .type "list",data:= .seq #[] c₀})
  (hR:∀s' jF c',Moved (S::[I]) (fun a b=>b=a) s s'->s'.heap.get? S=some {cls:= .type "list",dict:=none,data:= .seq jF c',slots:=#[]}->ItemsOf (fun i v=>items[items.size - 1 - i]? =some v) jF items.size->R (.ok (.ret res)) s')(hn:items.size<=sizeLine):
  wpAny (model prog w) A.in1 (Builtin.List.listExtendWith (.ref S) (.ref I) res)
   (fun fin s'=>match fin with| .done f=>R (.ok f) s'| .again c'=>c'.quiet=true/\codeAny (model prog w) A c' R s') (fun e s'=>R (.error e) s') s:=by
 have W:=(Walks.listRev (prog:=prog) (w:=w) (A:=A.in1) hh I l lF items).toS
 unfold Builtin.List.listExtendWith
 refine wpAny_bind (wpAny_typeOf hit.typeIs ?_)
 have h1:Builtin.List.listSameRef (.ref S) (.ref I)=false:=by simp[Builtin.List.listSameRef,L6]
 simp only[h1,HQ,HP,Bool.or_false,Bool.false_eq_true,if_false]
 refine wpAny_bind (wpAny_pyIter_revIter hit ?_)
 refine wpAny_bind (wpAny_holding (Cz hit ?_))
 rw[if_neg (by decide)]
 have YG:S∉[I,l]:=by simp[L6,IM]
 refine wpAny_pure ⟨plainId_quiet F.plain_extend_loop _,codeAny_extend_loopS W hn _ YG _ items.size 0 _ _ _ rfl (Nat.zero_le _) ⟨Nat.zero_le _,by simpa using hit,hl⟩ hS (ItemsOf.nil _) fun s' jF c' hm Gz AH=>?_⟩
 exact hR s' jF c' hm Gz AH
theorem Cs(hh:A.handled=none)(lF:l≠I)(S:Addr)(hit:s.heap.IsRevIter I l ((items.size:Int) - 1))(hl:s.heap.IsList l items)(L6:S≠I)(IM:S≠l)
  (hS:s.heap.get? S=some {cls:= .type "list",data:= .seq #[]})
  (hR:∀s' jF c',Moved (S::[I]) (fun a b=>b=a) s s'->s'.heap.get? S=some {cls:= .type "list",dict:=none,data:= .seq jF c',slots:=#[]}->ItemsOf (fun i v=>items[items.size - 1 - i]? =some v) jF items.size->R (.ok (.ret .none)) s')(hn:items.size<=sizeLine):
  wpAny (model prog w) A.in1 (Builtin.«list.__init__» ⟨[.ref S,.ref I],[]⟩)
   (fun fin s'=>match fin with| .done f=>R (.ok f) s'| .again c'=>c'.quiet=true/\codeAny (model prog w) A c' R s') (fun e s'=>R (.error e) s') s:=by
 show wpAny _ A.in1 (do let old <-Builtin.List.listItems (.ref S);Builtin.List.listUpdate (.ref S) (fun _=>#[]);letGo old.toList.reverse;Builtin.List.listExtendWith (.ref S) (.ref I) .none) _ _ s
 refine wpAny_bind ?_
 unfold Builtin.List.listItems
 refine wpAny_bind (wpAny_seqItems hS rfl (wpAny_pure ?_))
 show wpAny _ A.in1 (updateSeq S (fun _=>#[]) >>= fun _=>letGo (#[]:Array Value).toList.reverse >>= fun _=>Builtin.List.listExtendWith (.ref S) (.ref I) .none) _ _ s
 refine wpAny_bind (wpAny_updateSeq hS rfl ?_)
 have hS₂:=Heap.get?_update_self (Obj.mapSeq (fun _=>(#[]:Array Value))) hS rfl
 have sG:∀b o,b≠S->s.heap.get? b=some o->(s.heap.update S (Obj.mapSeq (fun _=>(#[]:Array Value)))).get? b=some o:=
  fun b o hb e=>(Heap.get?_update_other _ _ (Ne.symm hb)).trans e
 refine wpAny_bind (wpAny_letGo ?_)
 refine E7 hh lF S .none _ (hit.at fun o e=>sG I o L6.symm e) (hl.at fun o e=>sG l o IM.symm e) L6 IM hS₂ (fun s' jF c' hm Gz AH=>?_) hn
 exact hR s' jF c' (Moved.trans (fun _ _ _ h1 h2=>h2.trans h1) ((Moved.refl (wr:=S::[I]) (G:=fun a b=>b=a) (fun _=>rfl)).then_heap (Nat.le_refl _) fun b o hb e=>sG b o (fun h=>hb (by rw[h];exact List.mem_cons_self)) e) hm) Gz AH
end
section
variable {prog:Program}{w:World}{A:Around}{E:Value->Shared->Prop}{s:Shared}{I l:Addr}{items:Array Value}
theorem Ck{Q:Value->Shared->Prop}(hh:A.handled=none)(lF:l≠I)(hit:s.heap.IsRevIter I l ((items.size:Int) - 1))(hl:s.heap.IsList l items)
  (hQ:∀h' tk c',(∀b o,b≠I->s.heap.get? b=some o->h'.get? b=some o)->h'.get? s.heap.objs.size=some {cls:= .type "list",dict:=none,data:= .seq items.reverse c',slots:=#[]}->Q (.ref s.heap.objs.size) {s with heap:=h',toks:=tk})(hn:items.size<=sizeLine):
  wpAny (model prog w) A (call (.type "list") [.ref I]) Q E s:=by
 have lI:I < s.heap.objs.size:=by obtain⟨o,ho,_⟩:=hit;exact Heap.lt_size ho
 have ll:l < s.heap.objs.size:=by obtain⟨o,ho,_⟩:=hl;exact Heap.lt_size ho
 refine callType_codes (Q₁:=fun obj s₁=>obj= .ref s.heap.objs.size/\s₁={s with heap:=s.heap.push {cls:= .type "list",data:= .seq #[]}}) F.called_list (F.typeCall_list_1 _) F.entry_list_init
  (code_list_new _ ⟨rfl,rfl⟩) fun obj s₁ h₁=>?_
 obtain⟨rfl,rfl⟩:=h₁
 have hS:(s.heap.push {cls:= .type "list",data:= .seq #[]}).get? s.heap.objs.size=some {cls:= .type "list",data:= .seq #[]}:=Heap.get?_push_size _ rfl
 refine⟨⟨_,hS,rfl⟩,F.args_list_init_2 _ _,Cs (A:=A.in1) hh lF _ (hit.at fun o e=>Heap.get?_push_of_some _ e) (hl.at fun o e=>Heap.get?_push_of_some _ e) (Nat.ne_of_gt lI) (Nat.ne_of_gt ll) hS (fun s' jF c' hm Gz AH=>?_) hn⟩
 refine⟨rfl,?_⟩
 rw[Moved.eq_with hm]
 have ea:jF=items.reverse:=by
  apply Array.ext
  ·rw[AH.1,Array.size_reverse]
  ·intro j h1 h2
   have:=AH.2 j (jF[j]) (by simp)
   rw[Array.getElem_reverse]
   rw[Array.size_reverse] at h2
   rw[Array.getElem?_eq_getElem (by omega)] at this
   exact(Option.some.inj this).symm
 refine hQ s'.heap s'.toks c' (fun b o hb e=>hm.heap b o ?_ (Heap.get?_push_of_some _ e)) (ea ▸ Gz)
 intro AB
 rcases List.mem_cons.mp AB with e'|AB
 ·exact absurd (Heap.lt_size e) (by rw[e'];exact Nat.lt_irrefl _)
 ·exact hb (by simpa using AB)
end
section
variable {X:Cx}
inductive Jm(K:W.Frag)(vs:List V)(H1:Hp)(Q:VK):Prop where
 |mk(a:_)(xs:_)(c1:vs=[.ref a])(c2:bp K H1 a xs)(c3:∀p,H1 p=none->Q (.ref p) (upd H1 p (.lst xs.reverse)))
def Kf(K:W.Frag)(tl:TE):TE:=fun σ H Q=>gC tl ot σ H fun vs H1=>Jm K vs H1 Q
theorem Ek{l:Expr}{tl:TE}{p p2 pos BO:Pos}(hh:X.A.handled=none)(hg:Gl X "reversed")(hm:X.mg "reversed"=none)(QH:Gl X "list")(NH:X.mg "list"=none)(hl:PE X l tl)(h:dD l=true:=by rfl):
  PE X (.Call (.Name "list" p2) [.Call (.Name "reversed" p) [l] [] pos] [] BO) (Kf X.K tl):=by
 intro pins s σ H Q I hw
 have ha:PA X [l] (gC tl ot):=ak hl aj h
 refine wpAny_Call_Name_kw (iB I QH NH boot_list ?_)
 refine PyProof.Rows.callWith_type1 (e:= .Call (.Name "reversed" p) [l] [] pos) (rest:=[]) ?_ rfl rfl
 show wpAny _ _ (spliced ((false,eval (.Call (.Name "reversed" p) [l] [] pos) X.env)::backTo BO (starEach [] X.env))) _ _ s
 refine Calls.spliced_cons ?_
 refine wpAny_Call_Name_kw (iB I hg hm boot_reversed ?_)
 refine PyProof.Rows.callWith_type1 (dB (ha pos pins s σ H _ I hw) fun us s1 ⟨vs,H1,I1,r1,a,xs,e,hq,q1⟩=>?_) (bP h) rfl
 subst e
 obtain⟨u,rfl,ru⟩:=vals1 r1
 cases(show u=Value.ref a from ru)
 obtain⟨aN,rv,pl,hz⟩:=I1.list hq
 refine call_reversed_list pl.isList ?_
 refine wpAny_items_nil ?_
 have la:a < s1.heap.objs.size:=by obtain⟨o,ho,_⟩:=pl.isList;exact Heap.lt_size ho
 have hn:aN.toArray.size<=sizeLine:=by rw[List.size_toArray,<-rv.length];exact hz
 have hit:(s1.heap.push (revObj a ((aN.toArray.size:Int) - 1))).IsRevIter s1.heap.objs.size a ((aN.toArray.size:Int) - 1):=⟨_,Heap.get?_push_size _ rfl,rfl,rfl⟩
 have I2:Inv X pins σ H1 {s1 with heap:=s1.heap.push (revObj a ((aN.toArray.size:Int) - 1))}:=I1.kept (t':=s1.toks) fun b o e=>Heap.get?_push_of_some _ e
 refine Ck (s:={s1 with heap:=s1.heap.push (revObj a ((aN.toArray.size:Int) - 1))}) hh (Nat.ne_of_lt la) hit (pl.isList.at fun o e=>Heap.get?_push_of_some _ e) (fun h' tk c' kp e=>?_) hn
 obtain⟨f0,f1,f2,f3,f4,f5⟩:=I1.CN (b:=s1.heap.objs.size) (Nat.le_refl _) (I1.cx.fresh (Nat.le_refl _))
 have Qt:H1 (s1.heap.push (revObj a ((aN.toArray.size:Int) - 1))).objs.size=none:=I2.cx.fresh (Nat.le_refl _)
 have rr:Vals xs.reverse aN.reverse:=gF rv
 have I3:=I2.laid (a:=(s1.heap.push (revObj a ((aN.toArray.size:Int) - 1))).objs.size) (o:= .lst xs.reverse) (t':=s1.toks) (h':=(s1.heap.push (revObj a ((aN.toArray.size:Int) - 1))).push {cls:= .type "list",dict:=none,data:= .seq aN.toArray.reverse c',slots:=#[]})
  (fun b o e=>Heap.get?_push_of_some _ e) (Nat.le_refl _) ⟨by rw[List.length_reverse];exact hz,aN.reverse,c',rr,by rw[Heap.get?_push_size _ rfl];simp⟩
 have I4:=I3.turned (t':=tk) (it:=s1.heap.objs.size) (h':=h') (fun b o hb e'=>?_) ?_ f1 f3 f4 f5
 ·exact⟨.ref _,_,I4,rfl,q1 _ Qt⟩
 ·by_cases hD:b=(s1.heap.push (revObj a ((aN.toArray.size:Int) - 1))).objs.size
  ·subst hD
   rw[Heap.get?_push_size _ rfl] at e'
   rw[e,e']
  ·exact kp b o hb (by rw[Heap.get?_push_ne _ _ _ hD] at e';exact e')
 ·rw[aF]
  ·exact f0
  ·rw[Heap.size_push];exact Nat.ne_of_lt (Nat.lt_succ_self _)
end
def inDef(s:Stmt)(j:Nat):Stmt:=(bX s).getD j (.Pass ⟨0,0,0,0⟩)
def bA(s:Stmt):Pos:=match s with
 | .FunctionDef _ _ _ _ _ _ _ _ _ p=>p
 |_=>⟨0,0,0,0⟩
structure sj(K:W.Frag)(x qual:Str)(st:Stmt)(f:Addr)(fd:FuncData)(c0:Addr):Prop where
 ex:∃(oc:Value) (od:Option Addr) (kV doc pm:Value) (an:Option Addr) (ct:Value) (BY:Array (Option Value)),
  fd=PySem.W.fnOf x qual (cz st) (bX st) (aw st) .none kV doc pm an (.ref c0) ct/\K.lookup f=some ⟨oc,od,.func fd,BY⟩/\PySem.W.codeIn K (.ref c0) qual=true
theorem sj.ok{P:Program}{w:World}{K:W.Frag}{mg:Str->Option Value}{base:Heap}{x qual:Str}{st:Stmt}{f:Addr}{fd:FuncData}{c0:Addr}{N ps:List Str}{k:Nat}{sp:Sp}(F:sj K x qual st f fd c0)(S:a8 N ps (aw st))(len:∀vs H Q E,sp vs H Q E->vs.length=ps.length)
  (nD:∀(A:Around) (outer:List Env) (s:Shared) (H:Hp) (vs:List V) (Q:VK) (E:XK),dr k (A.deeper (envOfC qual (aw st) s.heap.objs.size f (.ref c0)))->sp vs H Q E->
   ∃t,nZ (xP bK P w K mg base N qual (aw st) f (.ref c0) A outer s H E).DG (bX st) t/\t {nx:=fun _ H'=>Q .d0 H',rt:=Q} (start N vs) H):cg P w K mg base bK (k+1) f fd ps sp:=by
 obtain⟨oc,od,kV,doc,pm,an,ct,BY,rfl,lk,rQ⟩:=F.ex
 refine GH lk rQ S len fun A outer s H vs Q E hr gx=>?_
 obtain⟨t,h,q⟩:=nD A outer s H vs Q E hr gx
 exact⟨t,h.DG,q⟩
theorem NL.trans{H H1 H2:Hp}(a:NL H H1)(b:NL H1 H2):NL H H2:=fun x o n h=>b x o n (a x o n h)
theorem NL.refl(H:Hp):NL H H:=fun _ _ _ h=>h
def GM(P:Program)(w:World)(K:W.Frag)(mg:Str->Option Value)(base:Heap)(CX:mB)(k:Nat)(C:Addr)(m:Str)(ps:List Str)(sp:Sp):Prop:=
 ∃f fd,cg P w K mg base CX k f fd ps sp/\Meth K C m f/\Binds K fd ps []
def GK(P:Program)(w:World)(K:W.Frag)(mg:Str->Option Value)(base:Heap)(CX:mB)(k:Nat)(C:Addr)(x:Str)(ps:List Str)(sp:Sp):Prop:=
 ∃f fd,cg P w K mg base CX k f fd ps sp/\Mk K C f/\mg x=some (.ref C)/\Binds K fd ps []
section
variable {X:Cx}{CX:mB}{k:Nat}{C:Addr}{m x:Str}{ps:List Str}{sp:Sp}{E:XK}{o e:Expr}{es:List Expr}{ta:TE}{t:TA}{apos pos p:Pos}
theorem vj{pl:Sem Bool}(he:PE X o ta)(c:wA X.K C)(G:GM X.prog X.w X.K X.mg X.base CX k C m ps sp)(hr:dr k X.A)(hx:Passes CX X E)(ha:PA X (e::es) t)(h:(e::es).all dD=true:=by rfl)
  (ht:eval (.Call (.Attribute o m apos) (e::es) [] pos) X.env=(do
   let ov <-eval o X.env
   standAt apos.atName
   let (f,first) <-holding [ov] (getMethod ov m pl)
   callWith pos f first (backTo pos (starEach (e::es) X.env)) (backToKw pos (keywordEach [] X.env))):=by rfl):PE X (.Call (.Attribute o m apos) (e::es) [] pos) (yh C m sp [] E ta t):=by
 obtain⟨f,fd,F,M,hb⟩:=G
 rw[List.all_cons,Bool.and_eq_true] at h
 exact Eh he c M F hr hb .nil hx ha (bP h.1) (eE h.2) ht
theorem BV(G:GK X.prog X.w X.K X.mg X.base CX k C x ps sp)(hr:dr (k+1) X.A)(hg:Gl X x)(hx:Passes CX X E)(ha:PA X (e::es) t)(h:(e::es).all dD=true:=by rfl)(vL:(x==("__debug__":Str))=false:=by decide):
  PE X (.Call (.Name x p) (e::es) [] pos) (FK C sp [] E t):=by
 obtain⟨f,fd,F,M,hm,hb⟩:=G
 rw[List.all_cons,Bool.and_eq_true] at h
 exact Ei M F hr hg hm hb .nil hx ha vL (bP h.1) (eE h.2)
end
theorem OZ{κ:Type}[DecidableEq κ](f:Nat->κ):∀(M:Nat) (l:List κ),l.Nodup->(∀k∈l,∃n:Nat,n < M/\k=f n)->l.length<=M
 |0,l,_,h=>by
  cases l with
  |nil=>exact Nat.le_refl _
  |cons k r=>
   obtain⟨n,hn,_⟩:=h k List.mem_cons_self
   exact absurd hn (Nat.not_lt_zero _)
 |M+1,l,nd,h=>by
  by_cases hm:f M∈l
  ·have q:=OZ f M (l.erase (f M)) (nd.erase _) fun k hk=>by
    obtain⟨lF,Ym⟩:=(nd.mem_erase_iff).mp hk
    obtain⟨n,hn,e⟩:=h k Ym
    refine⟨n,?_,e⟩
    have:n≠M:=fun z=>lF (by rw[e,z])
    omega
   rw[List.length_erase_of_mem hm] at q
   omega
  ·have q:=OZ f M l nd fun k hk=>by
    obtain⟨n,hn,e⟩:=h k hk
    refine⟨n,?_,e⟩
    have:n≠M:=fun z=>hm (by rw[<-z,<-e];exact hk)
    omega
   omega
theorem EN(M:Nat)(l:List Key)(nd:l.Nodup)(h:∀k∈l,∃n:Nat,n < M/\k= .inl (n:Int)):l.length<=M:=OZ (fun n=>(.inl (n:Int):Key)) M l nd h
theorem Al{P:Program}{w:World}{K:W.Frag}{mg mb:Str->Option Value}{k:Nat}{fa a:Addr}{fd:FuncData}{x:Str}{sp:Sp}{s₁:Shared}{vs:List Value}{ns:List Int}{tabs:List (Addr×Addr)}
  (KX:K.In s₁.heap)(Gm:s₁.heap.Ns mainGlobals mg)(hb:s₁.heap.Ns builtinsNs mb)(YB:∀x:Str,x≠"__name__"->mb x=bootBuiltins x)(QB:s₁.heap.NoLimit)(hg:s₁.gens=#[])(BB:fC s₁.heap mg)
  (ha:s₁.heap.get? a=some {cls:= .type "list",data:= .seq vs.toArray})(hi:IntsAre vs ns)(hl:ns.length<=sizeLine)(hr:dr k callerA)
  (DL:∀q∈tabs,PySem.W.codeHdIn K q.1 q.2=true)(IL:∀q∈tabs,K.lookup q.2=none)(IK:∀q∈tabs,s₁.heap.get? q.2=some (PySem.W.tabObj #[]))
  (F:∀base:Heap,K.In base->base.Ns mainGlobals mg->fC base mg->cg P w K mg base bK k fa fd [x] sp)(L3:∀(s:Shared) (u:Value),BindsTo s fd ⟨[u],[]⟩ [(x,u)])
  (gx:∀H:Hp,(∀q∈tabs,H q.2=some (.gu #[]))->bp K H a (ns.map V.int)->sp [.ref a] H (fun v _=>v= .bl true) fun _ _ _=>False):
  codeAny (model P w) callerA (.call (.ref fa) ⟨[.ref a],[]⟩) (fun r s'=>r= .ok (.ret (.bool true))/\OldK s₁.heap s'.heap/\s'.os=s₁.os/\AllBare s'.gens) s₁:=by
 have rv:=so hi
 have Pp:=hi.length
 have aT:∀q∈tabs,a≠q.2:=fun q hq z=>by
  have e:=IK q hq
  rw[<-z,ha] at e
  cases e
 have core:∀H:Hp,(∀q∈tabs,H q.2=some (.gu #[]))->bp K H a (ns.map V.int)->mz P w H s₁.heap->
   (∀b u,H b=some u->(b=a/\∃xs,u= .xI {cls:= .type "list",data:= .seq vs.toArray} (.lst xs)) ∨ ((∃q∈tabs,b=q.2)/\u= .gu #[]))->(H a≠none->K.lookup a=none)->
   codeAny (model P w) callerA (.call (.ref fa) ⟨[.ref a],[]⟩) (fun r s'=>r= .ok (.ret (.bool true))/\OldK s₁.heap s'.heap/\s'.os=s₁.os/\AllBare s'.gens) s₁:=by
  intro H hH hS cx hA hK
  have off:∀{b:Addr}{o:Obj},s₁.heap.get? b=some o->o.cls≠ .type "list"->o.cls≠ .none->H b=none:=fun {b o} e n1 n2=>by
   cases q:H b with
   |none=>rfl
   |some u=>
    rcases hA b u q with⟨z,_⟩|⟨⟨p,hp,z⟩,_⟩
    ·rw[z,ha] at e;cases e;exact absurd rfl n1
    ·rw[z,IK p hp] at e;cases e;exact absurd rfl n2
  have EE:∀{b:Addr}{o:Obj}{es:Array DictEntry}{ep:Nat},s₁.heap.get? b=some o->o.data= .dict es ep->H b=none:=fun {b o es ep} e d=>by
   cases q:H b with
   |none=>rfl
   |some u=>
    rcases hA b u q with⟨z,_⟩|⟨⟨p,hp,z⟩,_⟩
    ·rw[z,ha] at e;cases e;cases d
    ·rw[z,IK p hp] at e;cases e;cases d
  have Nv:∀{b:Addr}{m:Str->Option Value},s₁.heap.Ns b m->(uo s₁.heap H).Ns b m:=fun {b m} ⟨o,es,ep,e,d,r⟩=>⟨o,es,ep,ro e (EE e d),d,r⟩
  have UT:K.In (uo s₁.heap H):=fun b o e=>ro (KX b o e) (by
   cases q:H b with
   |none=>rfl
   |some u=>
    rcases hA b u q with⟨z,_⟩|⟨⟨p,hp,z⟩,_⟩
    ·subst z
     rw[hK (by rw[q];simp)] at e;cases e
    ·rw[z,IL p hp] at e;cases e)
  have YU:fC (uo s₁.heap H) mg:=by
   obtain⟨bm,ob,h1,h2,h3,h4,h5,h6⟩:=BB
   exact⟨bm,ob,h1,h2,ro h3 (off h3 (by rw[h4];decide) (by rw[h4];decide)),h4,h5,h6⟩
  have hM:Mod K mg (uo s₁.heap H):=⟨UT,Nv Gm,⟨mb,Nv hb,YB⟩,let ⟨mc,h1,h2⟩:=QB;⟨mc,Nv h1,h2⟩⟩
  have e0:pO P w K mg (uo s₁.heap H) callerA [] s₁ H:=⟨rfl,hM,fun b o e=>EC e,Nat.le_of_eq (AD _ _),trivial,fun b hb=>absurd (show b∈([]:List Addr) from hb) (by simp),cx,.of_eq hg⟩
  refine codeAny_mono ((F _ UT (Nv Gm) YU).run callerA [] s₁ H ⟨[.ref a],[]⟩ [.ref a] [.ref a] _ _ hr e0 (L3 s₁ (.ref a)) (.cons rfl .nil) (gx H hH hS)) fun r s' h=>?_
  cases r with
  |error e=>exact h.elim
  |ok fl=>
   cases fl with
   |next=>exact False.elim h
   |brk=>exact False.elim h
   |cont=>exact False.elim h
   |ret u=>
    obtain⟨v,H',os,bare,un,LG,r',q⟩:=h
    have q':v= .bl true:=q
    subst q'
    obtain rfl:u=Value.bool true:=r'
    refine⟨rfl,⟨fun b o e=>?_,fun b o e=>un.there b o e (by simp)⟩,os,bare⟩
    cases q:H b with
    |none=>exact .inl (un.keep b o e q (by intro z;exact absurd (show b∈([]:List Addr) from z) (by simp)) (by simp))
    |some u=>
     rcases hA b u q with⟨_,xs,z⟩|⟨⟨p,hp,z⟩,zu⟩
     ·subst z
      obtain⟨e1,_⟩:=cx b _ q
      obtain⟨e2,_⟩:=LG b _ (un.nH b _ _ q)
      rw[e] at e1;cases e1
      exact .inl e2
     ·subst zu
      obtain⟨more,z2⟩:=un.mI b _ q
      have e1:s₁.heap.get? b=some (PySem.W.tabObj #[]):=cx b _ q
      have e2:s'.heap.get? b=some (PySem.W.tabObj (#[]++more)):=LG b _ z2
      rw[e] at e1;cases e1
      have hc:=(PySem.W.codeHd_of_K KX (DL p hp)).tab (IK p hp)
      rw[<-z] at hc
      exact .inr (.inl ⟨hc.isCodeTable,rfl,#[],more,rfl,e2⟩)
 have FJ:∀b,(∃q∈tabs,b=q.2)->s₁.heap.get? b=some (PySem.W.tabObj #[]):=fun b ⟨q,hq,z⟩=>by rw[z];exact IK q hq
 classical
 cases hk:K.lookup a with
 |some o=>
  have e:=KX a o hk
  rw[ha] at e
  cases e
  refine core (fun b=>if (∃q∈tabs,b=q.2) then some (.gu #[]) else none) (fun q hq=>if_pos ⟨q,hq,rfl⟩) (.inr ⟨_,vs.toArray,_,hk,rfl,rfl,rfl,by rw[List.size_toArray,Pp];exact hl,by simpa using rv⟩) (fun b u z=>?_) (fun b u z=>?_) fun z=>absurd (if_neg fun⟨q,hq,e⟩=>aT q hq e) z
  ·by_cases hb:∃q∈tabs,b=q.2
   ·have z':=(if_pos hb).symm.trans z
    cases z'
    exact FJ b hb
   ·have z':=(if_neg hb).symm.trans z
    cases z'
  ·by_cases hb:∃q∈tabs,b=q.2
   ·have z':=(if_pos hb).symm.trans z
    cases z'
    exact .inr ⟨hb,rfl⟩
   ·have z':=(if_neg hb).symm.trans z
    cases z'
 |none=>
  have na:¬∃q∈tabs,a=q.2:=fun⟨q,hq,e⟩=>aT q hq e
  refine core (fun b=>if (∃q∈tabs,b=q.2) then some (.gu #[]) else if b=a then some (.xI {cls:= .type "list",data:= .seq vs.toArray} (.lst (ns.map V.int))) else none) (fun q hq=>if_pos ⟨q,hq,rfl⟩)
   (.inl (.inr ⟨{cls:= .type "list",data:= .seq vs.toArray},(if_neg na).trans (if_pos rfl)⟩)) (fun b u z=>?_) (fun b u z=>?_) fun _=>hk
  ·by_cases hb:∃q∈tabs,b=q.2
   ·have z':=(if_pos hb).symm.trans z
    cases z'
    exact FJ b hb
   ·have z:=(if_neg hb).symm.trans z
    by_cases IH:b=a
    ·have z':=(if_pos IH).symm.trans z
     cases z'
     subst IH
     exact⟨ha,by rw[List.length_map];exact hl,vs,_,rv,ha⟩
    ·have z':=(if_neg IH).symm.trans z
     cases z'
  ·by_cases hb:∃q∈tabs,b=q.2
   ·have z':=(if_pos hb).symm.trans z
    cases z'
    exact .inr ⟨hb,rfl⟩
   ·have z:=(if_neg hb).symm.trans z
    by_cases IH:b=a
    ·have z':=(if_pos IH).symm.trans z
     cases z'
     exact .inl ⟨IH,_,rfl⟩
    ·have z':=(if_neg IH).symm.trans z
     cases z'
theorem GS{l:PySem.W.OpenLaw}{k:Nat}{q:Program}{loose:List Str}{XP:(Str->Option Value)->Heap->Prop}{YP:World->Heap->Prop}{d:DefRec}{K:Params->W.Frag}{sp:W.Frag->Sp}{x:Str}{tabs:List (Addr×Addr)}
  (hn:l.most=some 63)(QO:d.params.defaults=[])(hr:dr k callerA)(hY:∀(w:World) (h:Heap),YP w h->(K w.params).In h)(YD:∀(w:World) (h:Heap),YP w h->∀q∈tabs,h.get? q.2=some (PySem.W.tabObj #[]))
  (DL:∀P,∀q∈tabs,PySem.W.codeHdIn (K P) q.1 q.2=true)(IL:∀P,∀q∈tabs,(K P).lookup q.2=none)
  (F:∀(w:World) (mg:Str->Option Value) (fa:Addr) (h:Heap),(K w.params).In h->h.Ns mainGlobals mg->mg d.name=some (.ref fa)->
   ∃fd:FuncData,(∀(s:Shared) (u:Value),BindsTo s fd ⟨[u],[]⟩ [(x,u)])/\
    ∀base:Heap,(K w.params).In base->base.Ns mainGlobals mg->fC base mg->cg l.prog w (K w.params) mg base bK k fa fd [x] (sp (K w.params)))
  (gx:∀(K:W.Frag) (H:Hp) (a:Addr) (ns:List Int),ns.length<=63->(∀q∈tabs,H q.2=some (.gu #[]))->bp K H a (ns.map V.int)->sp K [.ref a] H (fun v _=>v= .bl true) fun _ _ _=>False):
  PySem.W.WalkO q loose XP YP l.row.toRowW d [] (fun f vs=>PySem.call f vs):=by
 refine VU.v5 hn QO fun w s₀ s₁ mg mb fa o pm cd doc a vs ns G Y ho hd rQ LJ IC hints hlen hg=>?_
 have KX:=hY w _ Y
 obtain⟨fd,hb,hF⟩:=F w mg fa _ KX G.T.g LJ
 exact Al KX G.T.g G.T.b G.T.builtins G.T.nolimit hg G.T.bmain IC hints (Nat.le_trans hlen (by decide)) hr (DL _) (IL _) (YD w _ Y) hF hb fun H hO hS=>gx _ H a ns hlen hO hS
section
variable {prog:Program}{w:World}{A:Around}{R:Result->Shared->Prop}{s:Shared}
end
def IZ(X:Cx)(N:List Str)(scope:Scope)(C:Addr)(s:Shared)(H:Hp):Cx where
 prog:=X.prog
 w:=X.w
 K:=X.K
 mg:=X.mg
 base:=X.base
 A:=X.A
 N:=N
 s₀:=s
 H₀:=H
 env:=compEnv scope C X.env
 outer:=X.stack
 stack:=X.stack
 ex:=[]
 calm:=X.calm
 fn:=fun _=>false
 pn:=[]
 xe:=fun _ _=>False
def M0(K:W.Frag)(l1 l2:Addr):It:=
 ⟨fun i H=>∃xs ys x y,bp K H l1 xs/\bp K H l2 ys/\xs[i]? =some x/\ys[i]? =some y,
  fun i H v H'=>∃p x y,v= .ref p/\H p=none/\H'=upd H p (.tup [x,y])/\(∀xs,bp K H l1 xs->xs[i]? =some x)/\∀ys,bp K H l2 ys->ys[i]? =some y,
  fun i H=>∃xs ys,bp K H l1 xs/\bp K H l2 ys/\(xs.length<=i ∨ ys.length<=i)⟩
structure C8(z TI TO i1 i2:Addr):Prop where
 TIz:TI≠z
 TOz:TO≠z
 i1z:i1≠z
 i2z:i2≠z
 TITO:TI≠TO
 TIi1:TI≠i1
 TIi2:TI≠i2
 TOi1:TO≠i1
 TOi2:TO≠i2
 i12:i1≠i2
theorem dZ{h:Heap}{l b:Addr}{xs:Array Value}{o:Obj}(p:h.IsList l xs)(e:h.get? b=some o)(n:o.cls≠ .type "list"):l≠b:=fun z=>by
 obtain⟨o',e',c,_⟩:=p
 rw[z,e] at e'
 cases e'
 exact n c
def C7(z TI TO i1 i2 l1 l2:Addr)(i:Nat)(h:Heap):Prop:=IsZip h z TI TO .none/\IsPair h TI (.ref i1) (.ref i2)/\(∃a b,IsPair h TO a b)/\h.IsListIter i1 l1 i/\h.IsListIter i2 l2 i
theorem C7.apart{z TI TO i1 i2 l1 l2:Addr}{i:Nat}{h:Heap}{xs ys:Array Value}(D:C8 z TI TO i1 i2)(t:C7 z TI TO i1 i2 l1 l2 i h)(p1:h.IsList l1 xs)(p2:h.IsList l2 ys):ZipApart z TI TO i1 i2 l1 l2:=by
 obtain⟨hz,jB,⟨a,b,qh⟩,⟨o1,e1,c1,_⟩,⟨o2,e2,c2,_⟩⟩:=t
 have n1:o1.cls≠ .type "list":=by rw[c1];simp
 have n2:o2.cls≠ .type "list":=by rw[c2];simp
 exact⟨D.TIz,D.TOz,D.i1z,D.i2z,D.TITO,D.TIi1,D.TIi2,D.TOi1,D.TOi2,D.i12,dZ p1 hz (by simp),dZ p1 qh (by simp),dZ p1 e1 n1,dZ p1 e2 n2,dZ p2 hz (by simp),dZ p2 qh (by simp),dZ p2 e1 n1,dZ p2 e2 n2⟩
section
variable {X:Cx}{pins:List (Addr×Obj)}{σ:L2.St}{H:Hp}{s:Shared}{h':Heap}
theorem wL{t':Nat}{ch:List Addr}{p:Addr}{xs:List V}(I:Inv X pins σ H s)(hf:∀b∈ch,wz X pins H b)(k:∀b o,b∉ch->s.heap.get? b=some o->h'.get? b=some o)(hp:s.heap.objs.size<=p)(new:cK X.prog X.w (upd H p (.tup xs)) h' p (.tup xs)):
  Inv X pins σ (upd H p (.tup xs)) {s with heap:=h',toks:=t'}:=by
 have hn:=I.cx.fresh hp
 have Cf:∀b u,H b=some u->b∉ch:=fun b u e z=>by rw[(hf b z).1] at e;cases e
 refine I.step (g':=s.gens) (d':=s.drawn) (ch:=ch) (fun b hb=>?_) (fun b o _ _ hc e _=>k b o hc e) (fun b o _ _ hc e _=>⟨o.slots,k b o hc e⟩) (fun b o _ e n=>?_)
  (fun b o hc e=>⟨o,k b o hc e⟩) (fun b xs e=>by rw[aF (aY e hn)];exact e) (fun b o u e=>by rw[aF (aY e hn)];exact e) (fun b ps e=>⟨#[],by rw[aF (aY e hn),e];simp⟩) (fun m hm=>?_) (fun b u e=>?_) I.bare
 ·obtain⟨_,f1,f2,f3,f4,f5⟩:=hf b hb
  exact⟨f3,f1,f4,f5⟩
 ·rw[aF fun z=>by rw[z] at e;exact absurd (Nat.lt_of_lt_of_le (Heap.lt_size e) hp) (Nat.lt_irrefl _)]
  exact n
 ·obtain⟨o,es,ep,ho,r⟩:=hm
  exact⟨o,es,ep,k _ o (fun z=>(hf _ z).2.1 rfl) ho,r⟩
 ·by_cases hb:b=p
  ·subst hb
   rw[aH] at e
   cases e
   exact new
  ·rw[aF hb] at e
   refine(I.cx b u e).lD (fun c v hc q=>k c v ?_ q) (fun c q=>by rw[aF (aY q hn)];exact q) fun c xs q=>by rw[aF (aY q hn)];exact q
   rcases hc with z|z
   ·rw[z];exact Cf b u e
   ·exact Cf c _ z
theorem wM{t':Nat}{ch:List Addr}(I:Inv X pins σ H s)(hf:∀b∈ch,wz X pins H b)(k:∀b o,b∉ch->s.heap.get? b=some o->h'.get? b=some o):Inv X pins σ H {s with heap:=h',toks:=t'}:=by
 have Cf:∀b u,H b=some u->b∉ch:=fun b u e z=>by rw[(hf b z).1] at e;cases e
 refine I.step (g':=s.gens) (d':=s.drawn) (ch:=ch) (fun b hb=>?_) (fun b o _ _ hc e _=>k b o hc e) (fun b o _ _ hc e _=>⟨o.slots,k b o hc e⟩) (fun _ _ _ _ n=>n)
  (fun b o hc e=>⟨o,k b o hc e⟩) (fun _ _ e=>e) (fun _ _ _ e=>e) (fun b ps e=>⟨#[],by rw[e];simp⟩) (fun m hm=>?_) (fun b u e=>?_) I.bare
 ·obtain⟨_,f1,f2,f3,f4,f5⟩:=hf b hb
  exact⟨f3,f1,f4,f5⟩
 ·obtain⟨o,es,ep,ho,r⟩:=hm
  exact⟨o,es,ep,k _ o (fun z=>(hf _ z).2.1 rfl) ho,r⟩
 ·refine(I.cx b u e).lD (fun c v hc q=>k c v ?_ q) (fun _ q=>q) fun _ _ q=>q
  rcases hc with z|z
  ·rw[z];exact Cf b u e
  ·exact Cf c _ z
end
theorem Bp{P:Program}{w:World}{K:W.Frag}{elts:List Expr}{x1}{pos:Pos}{z TI TO i1 i2:Addr}(l1 l2:Addr)(D:C8 z TI TO i1 i2):
  Turn P w K (.Tuple elts x1 pos) (M0 K l1 l2) [z,TI,TO,i1,i2] z (C7 z TI TO i1 i2 l1 l2) where
 mem:=by simp
 obj:=fun i h st b hb=>by
  obtain⟨hz,jB,⟨a,c,qh⟩,⟨o1,e1,c1,d1⟩,⟨o2,e2,c2,d2⟩⟩:=st
  simp only[List.mem_cons,List.not_mem_nil,or_false] at hb
  rcases hb with rfl|rfl|rfl|rfl|rfl
  ·exact⟨_,hz,fun v q=>by have q':Data.fields _=Data.cell v:=q;cases q'⟩
  ·exact⟨_,jB,fun v q=>by have q':Data.seq _ _=Data.cell v:=q;cases q'⟩
  ·exact⟨_,qh,fun v q=>by have q':Data.seq _ _=Data.cell v:=q;cases q'⟩
  ·exact⟨_,e1,fun v q=>by rw[d1] at q;cases q⟩
  ·exact⟨_,e2,fun v q=>by rw[d2] at q;cases q⟩
 keep:=fun i h h' st k=>by
  obtain⟨hz,jB,⟨a,c,qh⟩,h1,h2⟩:=st
  exact⟨k z (by simp) _ hz,k TI (by simp) _ jB,⟨a,c,k TO (by simp) _ qh⟩,h1.at fun o e=>k i1 (by simp) o e,h2.at fun o e=>k i2 (by simp) o e⟩
 item:=by
  intro X hP hw hK hc i pins s σ H E I hf st hg
  subst hP hw hK
  obtain⟨xs,ys,x,y,q1,q2,hx,hy⟩:=hg
  obtain⟨Lh,Hh,p1,JO⟩:=I.list q1
  obtain⟨fF,Hg,p2,Gg⟩:=I.list q2
  obtain⟨u1,XW,OO⟩:=Hh.get hx
  obtain⟨u2,XU,ON⟩:=Hg.get hy
  have DA:=st.apart D p1.isList p2.isList
  obtain⟨hz,jB,⟨a,b,qh⟩,h1,h2⟩:=st
  refine wpAny_pyNext_zip_item DA hz jB qh h1 h2 p1.isList p2.isList (x:=u1) (y:=u2) (by simpa using XW) (by simpa using XU) fun h' a1 a2 a3 a4 a5 a6 a7=>?_
  have lt:∀{c o},s.heap.get? c=some o->s.heap.objs.size≠c:=fun e=>Nat.ne_of_gt (Heap.lt_size e)
  have Xb:=lt hz
  refine⟨_,rfl,wpAny_letOwnedTupleGo_zip a1 fun GC PK Bd=>?_⟩
  have k:∀b o,b∉[z,TI,TO,i1,i2]->s.heap.get? b=some o->GC.get? b=some o:=fun b o hb e=>by
   simp only[List.mem_cons,List.not_mem_nil,or_false,not_or] at hb
   exact Bd.extBut _ _ hb.1 (a7 b o hb.1 hb.2.2.1 hb.2.2.2.1 hb.2.2.2.2 e)
  have I2:Inv X pins σ (upd H s.heap.objs.size (.tup [x,y])) {s with heap:=GC,toks:=s.toks}:=wL I hf k (Nat.le_refl _) ⟨by show 2<=sizeLine;exact az (by decide),[u1,u2],.cons OO (.cons ON .nil),⟨_,Bd.extBut _ _ Xb a5,rfl,_,rfl⟩⟩
  have hn:=I.cx.fresh (Nat.le_refl _)
  refine⟨.ref s.heap.objs.size,_,I2,rfl,⟨_,x,y,rfl,hn,rfl,fun zs hz=>by rw[I.kr hz q1];exact hx,fun zs hz=>by rw[I.kr hz q2];exact hy⟩,⟨PK,Bd.extBut _ _ D.TIz (a7 _ _ D.TIz D.TITO D.TIi1 D.TIi2 jB),⟨_,_,Bd.extBut _ _ D.TOz a2⟩,a3.extBut Bd.extBut D.i1z,a4.extBut Bd.extBut D.i2z⟩,fun b hb=>?_⟩
  rw[aF ?_]
  ·exact(hf b hb).1
  ·obtain⟨o1,e1,_⟩:=h1
   obtain⟨o2,e2,_⟩:=h2
   simp only[List.mem_cons,List.not_mem_nil,or_false] at hb
   rcases hb with rfl|rfl|rfl|rfl|rfl
   ·exact(lt hz).symm
   ·exact(lt jB).symm
   ·exact(lt qh).symm
   ·exact(lt e1).symm
   ·exact(lt e2).symm
 done:=by
  intro X hP hw hK hc i pins s σ H E I hf st hg
  subst hP hw hK
  obtain⟨xs,ys,q1,q2,IE⟩:=hg
  obtain⟨Lh,Hh,p1,JO⟩:=I.list q1
  obtain⟨fF,Hg,p2,Gg⟩:=I.list q2
  have DA:=st.apart D p1.isList p2.isList
  obtain⟨hz,jB,⟨a,b,qh⟩,h1,h2⟩:=st
  have l1':=Hh.length
  have l2':=Hg.length
  refine wpAny_pyNext_zip_end (I.ok.hd hc) DA hz jB qh h1 h2 p1.isList p2.isList ?_ fun h' k=>⟨rfl,wM (t':=s.toks) I hf fun b o hb e=>?_⟩
  ·rcases IE with h|h
   ·exact .inl (by simp;omega)
   ·exact .inr (by simp;omega)
  ·simp only[List.mem_cons,List.not_mem_nil,or_false,not_or] at hb
   exact k b o hb.1 hb.2.2.1 hb.2.2.2.1 hb.2.2.2.2 e
 self:=fun _ _ _ _ _ st h=>wpAny_pyIter_zip st.1 h
section
variable {X:Cx}
inductive M8(K:W.Frag)(R:It->Hp->Prop)(vs:List V)(H1:Hp):Prop where
 |mk(l1:_)(l2:_)(xs:_)(ys:_)(c1:vs=[.ref l1,.ref l2])(c2:bp K H1 l1 xs)(c3:bp K H1 l2 ys)(c4:R (M0 K l1 l2) H1)
def PH(K:W.Frag)(ta:TA):TI:=fun σ H R=>ta σ H fun vs H1=>M8 K R vs H1
theorem Hq{elts:List Expr}{x1}{GZ:Pos}{a b:Expr}{ta:TA}{p pos:Pos}(hg:Gl X "zip")(hm:X.mg "zip"=none)(ha:PA X [a,b] ta)(h:[a,b].all dD=true:=by rfl):
  PI X (.Tuple elts x1 GZ) (.Call (.Name "zip" p) [a,b] [] pos) (PH X.K ta):=by
 intro pins s σ H R I hw
 rw[List.all_cons,Bool.and_eq_true] at h
 refine wpAny_Call_Name_kw (iB I hg hm boot_zip ?_)
 refine PyProof.Rows.callWith_type1 (dB (ha pos pins s σ H _ I hw) fun us s1 ⟨vs,H1,I1,r1,l1,l2,xs,ys,e,q1,q2,q⟩=>?_) (bP h.1) (eE h.2)
 subst e
 obtain⟨u,v,rfl,ru,rv⟩:=vals2 r1
 cases(show u=Value.ref l1 from ru)
 cases(show v=Value.ref l2 from rv)
 obtain⟨Lh,Hh,p1,JO⟩:=I1.list q1
 obtain⟨fF,Hg,p2,Gg⟩:=I1.list q2
 refine call_zip_2 p1.isList p2.isList fun h' a1 a2 a3 a4 a5 a6 a7=>wpAny_pyIter_zip a1 ?_
 have I2:Inv X pins σ H1 {s1 with heap:=h',toks:=s1.toks}:=I1.kept a7
 refine⟨_,_,_,_,H1,rfl,I2,Bp l1 l2 ⟨?_,?_,?_,?_,?_,?_,?_,?_,?_,?_⟩,⟨a1,a2,⟨_,_,a3⟩,a4,a5⟩,fun b hb=>?_,q⟩
 all_goals first| (show(_:Nat)≠_;omega)|skip
 have og:s1.heap.objs.size<=b:=by
  simp only[List.mem_cons,List.not_mem_nil,or_false] at hb
  rcases hb with rfl|rfl|rfl|rfl|rfl
  ·exact Nat.le_add_right _ _
  ·exact Nat.le_add_right _ _
  ·exact Nat.le_add_right _ _
  ·exact Nat.le_refl _
  ·exact Nat.le_add_right _ _
 exact I1.CN og (I1.cx.fresh og)
end
def NU(X:Cx)(N:List Str)(scope:Scope)(C:Addr)(s:Shared)(H:Hp)(fp:List Addr):Cx:={IZ X N scope C s H with ex:=fp}
def qc(e:Expr):Arguments:=match e with
 | .Lambda a _ _ _=>a
 |_=>cz (.Pass ⟨0,0,0,0⟩)
def qb(e:Expr):Expr:=match e with
 | .Lambda _ b _ _=>b
 |x=>x
def iV(e:Expr):Scope:=match e with
 | .Lambda _ _ s _=>s
 |_=>aw (.Pass ⟨0,0,0,0⟩)
def bz(e:Expr):Pos:=match e with
 | .Lambda _ _ _ p=>p
 |_=>⟨0,0,0,0⟩
def BH(s:Stmt)(i j:Nat):Expr:=match (bX s).getD i (.Pass ⟨0,0,0,0⟩) with
 | .Return (some (.Call f es _ _)) _=>es.getD j f
 |_=> .Name "" ⟨0,0,0,0⟩
def jI(f c:Addr)(qual:Str)(params:Arguments)(body:Expr)(scope:Scope)(clos:List (Str×Addr)):HO:= .ext fun h=>∃pm je,h.get? f=some (PySem.W.kla_obj "<lambda>" qual params body scope clos pm c je)
theorem sO{P:Program}{w:World}{H:Hp}{h:Heap}{f c:Addr}{qual:Str}{params:Arguments}{body:Expr}{scope:Scope}{clos:List (Str×Addr)}{pm je:Value}
  (x:h.get? f=some (PySem.W.kla_obj "<lambda>" qual params body scope clos pm c je)):cK P w H h f (jI f c qual params body scope clos):=
 ⟨⟨pm,je,x⟩,⟨_,x⟩,fun _ _ ⟨p,t,e⟩ k=>⟨p,t,k _ e⟩⟩
section
variable {X:Cx}{pins:List (Addr×Obj)}{σ:L2.St}{H:Hp}{s:Shared}
def Ou(P:Addr)(pos:Pos)(qual:Str)(params:Arguments)(body:Expr)(scope:Scope)(clos:List (Str×Addr)):TE:=fun _ H Q=>
 jb H P pos qual/\∀f c H',H f=none->cI H H'->jb H' P pos qual->H' c=some (dA c qual)->H' f=some (jI f c qual params body scope clos)->
  (∀Q:Addr,Q≠P->∀ps,H Q=some (.gu ps)->H' Q=some (.gu ps))->Q (.ref f) H'
theorem BU{qual:Str}{params:Arguments}{body:Expr}{scope:Scope}{pos:Pos}{c0 P:Addr}{clos:List (Str×Addr)}(vM:X.env.code= .ref c0)(hC:PySem.W.codeHdIn X.K c0 P=true)(BB:fC X.base X.mg)
  (sf:closureFor scope X.env=pure clos)(hq:X.env.qual++"<lambda>"=qual)(QP:defaultsOf params X.env=([],[]):=by rfl):
  PE X (.Lambda params body scope pos) (Ou P pos qual params body scope clos):=by
 intro pins s σ H Q I h
 obtain⟨ht,k⟩:=h
 refine PySem.W.kla_eval QP ?_
 rw[hq]
 have hg:s.heap.Ns mainGlobals X.mg:=I.mod.glob.keeps I.bk
 have CH:PySem.W.CodeHd s.heap c0 P:=PySem.W.codeHd_of_K I.nu hC
 obtain⟨bm,ob,b1,b2,b3,b4,b5,b6⟩:=BB
 have FG:∃ps,H P=some (.gu ps):=by
  rcases ht with t|⟨c,t,_⟩
  ·exact⟨_,t⟩
  ·exact⟨_,t⟩
 have nP:∀b o,X.base.get? b=some o->b≠P:=fun b o e z=>by
  obtain⟨ps,t⟩:=FG
  rw[z] at e
  rw[(I.bs P o e).2] at t
  cases t
 have QG:mainGlobals≠P:=by
  obtain⟨o,es,ep,e,_⟩:=I.mod.glob
  exact nP _ _ e
 have QW:bm≠mainGlobals:=fun q=>by
  obtain⟨o,es,ep,e,hd,_⟩:=I.mod.glob
  rw[q,e] at b3
  cases b3
  rw[hd] at b6
  cases b6
 have hB:s.heap.BuiltinsAt X.mg P:=⟨bm,ob,b1,b2,QW,nP _ _ b3,I.bk _ _ b3,b4,b5,b6⟩
 rcases ht with t|⟨c,t,tc⟩
 ·-- the first time
  have hP:s.heap.get? P=some (PySem.W.tabObj #[]):=tH I t
  refine PySem.W.kla_makeFunction (mg:=X.mg) sf I.ok.glob hg vM CH hP True.intro rfl QG hB fun c' je h' tk Av yQ eB Iz Lw=>?_
  have Km:s.heap.objs.size<=h'.objs.size:=Nat.le_trans yQ (Nat.le_of_lt eB)
  have qR:∀b o,b≠P->s.heap.get? b=some o->(h'.push (PySem.W.kla_obj "<lambda>" qual params body scope clos ((X.mg "__name__").getD .none) c' je)).get? b=some o:=fun b o n e=>Heap.get?_push_of_some _ (Av b o n e)
  have nc:∀b o,s.heap.get? b=some o->b≠c':=fun b o e=>Nat.ne_of_lt (Nat.lt_of_lt_of_le (Heap.lt_size e) yQ)
  have nf:∀b o,s.heap.get? b=some o->b≠h'.objs.size:=fun b o e=>Nat.ne_of_lt (Nat.lt_of_lt_of_le (Heap.lt_size e) Km)
  have tr:∀b u,H b=some u->∃o,s.heap.get? b=some o:=fun b u e=>e6 (I.cx b u e)
  have QT:c'≠h'.objs.size:=Nat.ne_of_lt eB
  have wx:∀b o,b≠P->(∃ob,s.heap.get? b=some ob)->H b=o->(upd (upd (upd H P (.gu #[rawInt pos.line,rawInt pos.col,.ref c'])) c' (dA c' qual)) h'.objs.size (jI h'.objs.size c' qual params body scope clos)) b=o:=fun b o n ⟨ob,e⟩ q=>by
   rw[aF (nf b ob e),aF (nc b ob e),aF n,q]
  have mZ:∀b,H b=none->b≠P:=fun b n z=>by rw[z,t] at n;cases n
  have eP:(upd (upd (upd H P (.gu #[rawInt pos.line,rawInt pos.col,.ref c'])) c' (dA c' qual)) h'.objs.size (jI h'.objs.size c' qual params body scope clos)) P=some (.gu #[rawInt pos.line,rawInt pos.col,.ref c']):=by
   rw[aF (nf P _ hP),aF (nc P _ hP),aH]
  have eC:(upd (upd (upd H P (.gu #[rawInt pos.line,rawInt pos.col,.ref c'])) c' (dA c' qual)) h'.objs.size (jI h'.objs.size c' qual params body scope clos)) c'=some (dA c' qual):=by
   rw[aF QT,aH]
  have I':Inv X pins σ (upd (upd (upd H P (.gu #[rawInt pos.line,rawInt pos.col,.ref c'])) c' (dA c' qual)) h'.objs.size (jI h'.objs.size c' qual params body scope clos))
    {s with heap:=h'.push (PySem.W.kla_obj "<lambda>" qual params body scope clos ((X.mg "__name__").getD .none) c' je),toks:=tk}:=by
   refine I.step (g':=s.gens) (d':=s.drawn) (ch:=[]) (fun _ z=>nomatch z) (fun b o _ _ _ e n=>qR b o (mZ b n) e) (fun b o _ _ _ e n=>⟨o.slots,qR b o (mZ b n) e⟩) (fun b o _ e n=>wx b none (mZ b n) ⟨o,e⟩ n)
    (fun b o _ e=>?_) (fun b xs e=>wx b _ (fun z=>by rw[z,t] at e;cases e) (tr b _ e) e) (fun b ob u e=>wx b _ (fun z=>by rw[z,t] at e;cases e) (tr b _ e) e) (fun b qs e=>?_) (fun m hm=>?_) (fun b u e=>?_) I.bare
   ·by_cases hb:b=P
    ·subst hb
     exact⟨_,Heap.get?_push_of_some _ Lw⟩
    ·exact⟨o,qR b o hb e⟩
   ·by_cases hb:b=P
    ·subst hb
     rw[t] at e
     cases e
     exact⟨#[rawInt pos.line,rawInt pos.col,.ref c'],by rw[eP];simp⟩
    ·exact⟨#[],by rw[wx b _ hb (tr b _ e) e];simp⟩
   ·obtain⟨o,es,ep,e,r⟩:=hm
    exact⟨o,es,ep,qR _ o (mZ _ I.free) e,r⟩
   ·by_cases h1:b=h'.objs.size
    ·subst h1
     rw[aH] at e
     cases e
     exact sO (Heap.get?_push_size _ rfl)
    ·rw[aF h1] at e
     by_cases h2:b=c'
     ·subst h2
      rw[aH] at e
      cases e
      exact vX (Iz.keeps fun b o q=>Heap.get?_push_of_some _ q)
     ·rw[aF h2] at e
      by_cases h3:b=P
      ·subst h3
       rw[aH] at e
       cases e
       show(h'.push _).get? _=some _
       exact Heap.get?_push_of_some _ Lw
      ·rw[aF h3] at e
       refine(I.cx b u e).lD (fun d v hd q=>qR d v ?_ q) (fun d q=>wx d _ (fun z=>by rw[z,t] at q;cases q) (tr d _ q) q) fun d xs q=>wx d _ (fun z=>by rw[z,t] at q;cases q) (tr d _ q) q
       rcases hd with rfl|hd
       ·exact h3
       ·intro z;rw[z,t] at hd;cases hd
  refine⟨.ref h'.objs.size,_,I',rfl,k h'.objs.size c' _ (I.cx.fresh Km) (fun b o n q=>?_) (.inr ⟨c',eP,eC⟩) eC aH fun Q hQ qs q=>?_⟩
  ·exact wx b _ (fun z=>by rw[z,t] at q;cases q;exact n _ rfl) (tr b _ q) q
  ·exact wx Q _ hQ (tr Q _ q) q
 ·-- its code is there
  have hP:s.heap.get? P=some (PySem.W.tabObj #[rawInt pos.line,rawInt pos.col,.ref c]):=tH I t
  refine PySem.W.kla_makeFunctionHit (mg:=X.mg) (cv:= .ref c) sf I.ok.glob hg vM CH hP (by exact True.intro) (sY pos _) hB fun je h' tk hk hsz=>?_
  have LV:H h'.objs.size=none:=I.cx.fresh hsz
  have I':Inv X pins σ (upd H h'.objs.size (jI h'.objs.size c qual params body scope clos)) {s with heap:=h'.push (PySem.W.kla_obj "<lambda>" qual params body scope clos ((X.mg "__name__").getD .none) c je),toks:=tk}:=
   I.laid (fun b o e=>Heap.get?_push_of_some _ (hk b o e)) hsz (sO (Heap.get?_push_size _ rfl))
  have sm:aQ H (upd H h'.objs.size (jI h'.objs.size c qual params body scope clos)):=bZ LV
  exact⟨.ref h'.objs.size,_,I',rfl,k h'.objs.size c _ LV (.of sm) (.inr ⟨c,sm _ _ t,sm _ _ tc⟩) (sm _ _ tc) aH fun Q _ qs q=>sm _ _ q⟩
end
theorem Ae{H H':Hp}{P:Addr}{pos:Pos}{qual:Str}(sx:cI H H')(tp:jb H' P pos qual)(sG:∀Q:Addr,Q≠P->∀ps,H Q=some (.gu ps)->H' Q=some (.gu ps)){b:Addr}(n:H' b=none):H b=none:=by
 rcases sx.free n with e|⟨ps,e⟩
 ·exact e
 ·by_cases hb:b=P
  ·subst hb
   rcases tp with t|⟨c,t,_⟩
   ·rw[n] at t;cases t
   ·rw[n] at t;cases t
  ·have:=sG b hb ps e
   rw[n] at this;cases this
section
variable {CX:mB}{P:Program}{w:World}{K:W.Frag}{mg:Str->Option Value}{base:Heap}{k:Nat}{f c:Addr}{name qual:Str}{params:Arguments}{body:List Stmt}{zl:Expr}{scope:Scope}{clos:List (Str×Addr)}{doc pm je:Value}{ps fs:List Str}{fvs:List V}{sp:Sp}
theorem zg{A:Around}{outer:List Env}{s:Shared}{H:Hp}{E:XK}{h₁:Heap}{us:List Value}{vs:List V}{tk:Tok}(S:gX ps fs scope)(hc:uQ base clos fs fvs)
  (vN:∀x c,clos.lookup x=some c->x∈fs)(inj:∀x y c,clos.lookup x=some c->clos.lookup y=some c->x=y)(hl:vs.length=ps.length)(hr:A.handled=none)(e0:pO P w K mg base A outer s H)(r:Vals vs us)
  (Gm:h₁.Ns s.heap.objs.size (fun x=>(ps.zip us).reverse.lookup x))(hk:∀b o,s.heap.get? b=some o->h₁.get? b=some o):
  Inv (sQ CX P w K mg base (ps++fs) qual scope f (.ref c) clos A outer s H E) [] ((vs++fvs).map some) H {s with heap:=h₁,toks:=tk}:=by
 have Ny:ps.Nodup:=(List.nodup_append.mp S.nd).1
 have EE:∀b:Addr,b∉([]:List Addr):=fun b z=>absurd z (by simp)
 have cellIn:∀x c,clos.lookup x=some c->∃u,base.IsCell c (some u):=fun x c e=>by
  obtain⟨i,hi,ex⟩:=List.getElem_of_mem (vN x c e)
  obtain⟨v,_,c',u,e1,e2,_⟩:=cm hc (show fs[i]? =some x by simp[hi,ex])
  rw[e] at e1
  cases e1
  exact⟨u,e2⟩
 refine⟨⟨e0.mod,S.kind,rfl,rfl,Nat.le_refl _,inj,fun y hy=>?_,fun y c h=>(nomatch h),fun _=>hr,Around.frames_deeper e0.frames,.inr ⟨rfl,rfl⟩,fun b z=>absurd z (EE b),e0.bs,e0.Bh,fun b _ _=>EE b,fun b z=>absurd z (EE b),e0.lH,e0.DM⟩,
  rfl,e0.bare,Un.kept hk,⟨_,Gm,fun i y v h1 h2 h3=>?_⟩,fun y c h=>?_,e0.cx.fresh (Nat.le_refl _),fun y c h=>?_,fun p hp=>absurd (show p∈([]:List (Addr×Obj)) from hp) (by simp),e0.cx.kept hk,?_⟩
 ·have Ik:scope.names.lookup y=some .cell ∨ scope.names.lookup y=some .free:=hy
  rcases Ik with Ik|Ik
  ·exact absurd rfl (S.xo _ (PySem.mem_of_lookup Ik))
  ·have hm:=S.all _ (PySem.mem_of_lookup Ik) rfl
   obtain⟨i,hi,ex⟩:=List.getElem_of_mem hm
   obtain⟨v,_,c',u,e1,_⟩:=cm hc (show fs[i]? =some y by simp[hi,ex])
   exact⟨c',e1⟩
 ·have h1:(ps++fs)[i]? =some y:=h1
  by_cases hi:i < ps.length
  ·rw[List.getElem?_append_left hi] at h1
   rw[List.getElem?_map,List.getElem?_append_left (by omega)] at h2
   obtain⟨v',ev,e2⟩:∃v',vs[i]? =some v'/\some v'=some v:=by
    cases q:vs[i]? with
    |none=>rw[q] at h2;cases h2
    |some v'=>rw[q] at h2;exact⟨v',rfl,Option.some.inj h2⟩
   cases e2
   obtain⟨u,eu,ru⟩:=r.get ev
   exact⟨u,ru,.inl ⟨S.par y (List.mem_of_getElem? h1),uX Ny h1 eu⟩⟩
  ·rw[List.getElem?_append_right (by omega)] at h1
   rw[List.getElem?_map,List.getElem?_append_right (by omega)] at h2
   obtain⟨v',ev,c',u,e1,e2,e3⟩:=cm hc h1
   rw[hl,ev] at h2
   cases(Option.some.inj h2)
   exact⟨u,e3,.inr ⟨.inr (S.YX y (List.mem_of_getElem? h1)),c',e1,e2.keeps fun b o e=>hk b o (e0.bs b o e).1⟩⟩
 ·obtain⟨u,o,e,d⟩:=cellIn y c h
  exact⟨some u,o,hk _ _ (e0.bs _ _ e).1,d⟩
 ·obtain⟨u,o,e,d⟩:=cellIn y c h
  exact(e0.bs _ _ e).2
 ·show((vs++fvs).map some).length=(ps++fs).length
  rw[List.length_map,List.length_append,List.length_append,hl,Paired.length hc]
theorem yX(ho:base.get? f=some (ky name qual params body scope clos doc pm c je))(S:gX ps fs scope)(hc:uQ base clos fs fvs)
  (vN:∀x c,clos.lookup x=some c->x∈fs)(inj:∀x y c,clos.lookup x=some c->clos.lookup y=some c->x=y)
  (len:∀vs H Q E,sp vs H Q E->vs.length=ps.length)(rQ:∀vs H Q E,sp vs H Q E->H c=some (dA c qual))
  (nD:∀(A:Around) (outer:List Env) (s:Shared) (H:Hp) (vs:List V) (Q:VK) (E:XK),dr k (A.deeper (PySem.W.envX qual scope s.heap.objs.size f (.ref c) clos))->sp vs H Q E->
   ∃t,nZ (sQ CX P w K mg base (ps++fs) qual scope f (.ref c) clos A outer s H E) body t/\t {nx:=fun _ H'=>Q .d0 H',rt:=Q} ((vs++fvs).map some) H):
  cg P w K mg base CX (k+1) f (PySem.W.fnX name qual params body scope clos .none .none doc pm none (.ref c) je) ps sp:=by
 refine⟨len,fun A outer s H args us vs Q E hr e0 hb r gx=>?_⟩
 have hl:=len _ _ _ _ gx
 have lim:s.heap.NoLimit:=e0.mod.nolimit.keeps fun b o e=>(e0.bs b o e).1
 have QR:s.heap.CodeRec (.ref c) qual:=(e0.cx c _ (rQ _ _ _ _ gx)).1
 refine PySem.codeAny_call_def (fd:=PySem.W.fnX name qual params body scope clos .none .none doc pm none (.ref c) je) (body:=body) (binds:=ps.zip us) hr.depth (e0.bs _ _ ho).1 rfl lim QR rfl hb S.xo
  (fun y hy=>S.par y.1 (List.of_mem_zip hy).1) (fun h₁ Gm hk=>?_) S.co S.gen S.kind
 obtain⟨t,ht,hq⟩:=nD A outer s H vs Q E (hr.deeper _) gx
 have I:Inv (sQ CX P w K mg base (ps++fs) qual scope f (.ref c) clos A outer s H E) [] ((vs++fvs).map some) H {s with heap:=h₁,toks:=s.toks+(ps.zip us).length}:=zg S hc vN inj hl hr.hd e0 r Gm hk
 refine wpAny_mono (ht [] _ _ H _ I hq) (fun fl s' hs=>?_) fun e s' hs=>hs
 have fin:∀{σ':L2.St}{H':Hp}{v:V}{u:Value},Inv (sQ CX P w K mg base (ps++fs) qual scope f (.ref c) clos A outer s H E) [] σ' H' s'->RelV v u->Q v H'->CE outer P w H s Q u s':=
  fun {σ' H' v u} J rv q=>⟨v,H',J.os,J.bare,J.base,J.cx,rv,q⟩
 cases fl with
 |ret u=>
  obtain⟨v,σ',H',J,rv,q⟩:=hs
  exact fin J rv q
 |next=>
  obtain⟨σ',H',J,q⟩:=hs
  exact fin (v:=V.d0) (u:=Value.none) J rfl q
 |brk=>
  obtain⟨_,_,_,q⟩:=hs
  exact False.elim q
 |cont=>
  obtain⟨_,_,_,q⟩:=hs
  exact False.elim q
theorem yW(ho:base.get? f=some (PySem.W.kla_obj "<lambda>" qual params zl scope clos pm c je))(S:gX ps fs scope)(hc:uQ base clos fs fvs)
  (vN:∀x c,clos.lookup x=some c->x∈fs)(inj:∀x y c,clos.lookup x=some c->clos.lookup y=some c->x=y)
  (len:∀vs H Q E,sp vs H Q E->vs.length=ps.length)(rQ:∀vs H Q E,sp vs H Q E->H c=some (dA c qual))
  (nD:∀(A:Around) (outer:List Env) (s:Shared) (H:Hp) (vs:List V) (Q:VK) (E:XK),dr k (A.deeper (PySem.W.envX qual scope s.heap.objs.size f (.ref c) clos))->sp vs H Q E->
   ∃t,PE (sQ CX P w K mg base (ps++fs) qual scope f (.ref c) clos A outer s H E) zl t/\t ((vs++fvs).map some) H Q):
  cg P w K mg base CX (k+1) f (PySem.W.kla_fn "<lambda>" qual params zl scope clos pm (.ref c) je) ps sp:=by
 refine⟨len,fun A outer s H args us vs Q E hr e0 hb r gx=>?_⟩
 have hl:=len _ _ _ _ gx
 have lim:s.heap.NoLimit:=e0.mod.nolimit.keeps fun b o e=>(e0.bs b o e).1
 have QR:s.heap.CodeRec (.ref c) qual:=(e0.cx c _ (rQ _ _ _ _ gx)).1
 refine PySem.W.kla_callFunE hr.depth (e0.bs _ _ ho).1 rfl S.co S.gen rfl QR (hb _ _ _ _ ?_)
 refine wpAny_newFunctionEnv S.xo (fun y hy=>S.par y.1 (List.of_mem_zip hy).1) (fun h₁ Gm Ut=>⟨lim.fresh _ Ut,?_⟩) S.kind
 have hk:∀b o,s.heap.get? b=some o->h₁.get? b=some o:=fun b o e=>Ut.extBut b o (Nat.ne_of_lt (Heap.lt_size e)) (Heap.get?_push_of_some _ e)
 obtain⟨t,ht,hq⟩:=nD A outer s H vs Q E (hr.deeper _) gx
 have I:Inv (sQ CX P w K mg base (ps++fs) qual scope f (.ref c) clos A outer s H E) [] ((vs++fvs).map some) H {s with heap:=h₁,toks:=s.toks+(ps.zip us).length}:=zg S hc vN inj hl hr.hd e0 r Gm hk
 show codeAny _ _ (.expr zl (PySem.W.envX qual scope s.heap.objs.size f (.ref c) clos)) _ _
 refine PySem.W.kla_codeExpr (wpAny_mono (ht [] _ _ H _ I hq) (fun u s' hs=>?_) fun e s' hs=>hs)
 obtain⟨v,H',J,rv,q⟩:=hs
 exact⟨v,H',J.os,J.bare,J.base,J.cx,rv,q⟩
end
structure Dq(K:W.Frag)(mg:Str->Option Value)(base cw:Heap):Prop where
 get:∀b o,base.get? b=some o->cw.get? b=some o
 sz:base.objs.size<=cw.objs.size
 mod:Mod K mg base
theorem FV.HS{P:Program}{w:World}{K:W.Frag}{mg:Str->Option Value}{base cw:Heap}{CX:mB}{k:Nat}{f:Addr}{ps:List Str}{sp:Sp}(F:FV P w K mg base CX k f ps sp)(L:Dq K mg base cw):FV P w K mg cw CX k f ps sp:=by
 obtain⟨fd,oc,od,sl,F,ho,hb⟩:=F
 refine⟨fd,oc,od,sl,⟨F.len,fun A outer s H args us vs Q E hr e0=>F.run A outer s H args us vs Q E hr ⟨e0.frames,L.mod,fun b o e=>e0.bs b o (L.get b o e),Nat.le_trans L.sz e0.Bh,?_,e0.DM,e0.cx,e0.bare⟩⟩,L.get _ _ ho,hb⟩
 have all:∀l:List Env,s.heap.FunFrames cw l->s.heap.FunFrames base l:=by
  intro l
  induction l with
  |nil=>intro _;trivial
  |cons env r ih=>
   intro hl
   obtain⟨hk,⟨L',o,hf,hn,ho,hd⟩,hr⟩:=hl
   refine⟨hk,⟨L',o,hf,?_,ho,hd⟩,ih hr⟩
   cases q:base.get? L' with
   |none=>rfl
   |some u=>rw[L.get _ _ q] at hn;cases hn
 exact all outer e0.lH
section
variable {X:Cx}{CX:mB}{k:Nat}{ps:List Str}{E:XK}{x:Str}{p pos:Pos}{e:Expr}{es:List Expr}{t:TA}
inductive MJ(X:Cx)(CX:mB)(k:Nat)(E:XK)(i:Nat)(t:TA)(σ:L2.St)(H:Hp)(Q:VK):Prop where
 |mk(f:_)(ps:_)(sp:_)(c1:σ[i]? =some (some (.ref f)))(c2:FV X.prog X.w X.K X.mg X.base CX k f ps sp)(c3:t σ H fun vs H1=>sp vs H1 Q E)
def Ov(X:Cx)(CX:mB)(k:Nat)(E:XK)(i:Nat)(t:TA):TE:=fun σ H Q=>MJ X CX k E i t σ H Q
theorem xh(i:Nat)(hr:dr k X.A)(hx:Passes CX X E)(ha:PA X (e::es) t)(hN:X.N[i]? =some x:=by rfl)(hv:J1 X.env.scope x:=by first|exact Or.inl rfl|exact Or.inr (Or.inl rfl)|exact Or.inr (Or.inr rfl))
  (h:(e::es).all dD=true:=by rfl)(hd:(x==("__debug__":Str))=false:=by decide)(rQ:(x==("__classdict__":Str))=false:=by decide):PE X (.Call (.Name x p) (e::es) [] pos) (Ov X CX k E i t):=by
 intro pins s σ H Q I hw
 obtain⟨f,ps,sp,hi,hF,hw⟩:=hw
 exact KD (ps:=ps) i hr hx ha hN hv h hd rQ pins s σ H Q I ⟨f,sp,hi,hF,hw⟩
def wy(X:Cx)(H:Hp)(b:Addr):Prop:=(∃φ,H b=some (.ext φ)/\∀h,φ h->∃o fd,h.get? b=some o/\o.data= .func fd) ∨ ∃x,X.env.cells.lookup x=some b/\X.fn x=true
theorem wy.Q9{H:Hp}{b:Addr}(g:wy X H b):Goes X H b:=by
 rcases g with⟨φ,e,_⟩|g
 ·exact .inl ⟨φ,e⟩
 ·exact .inr g
theorem yT{H:Hp}{f c:Addr}{name qual:Str}{params:Arguments}{body:List Stmt}{scope:Scope}{clos:List (Str×Addr)}(h:H f=some (oa f c name qual params body scope clos)):wy X H f:=
 .inl ⟨_,h,fun _ ⟨_,_,_,e⟩=>⟨_,_,e,rfl⟩⟩
theorem vO{H:Hp}{f c:Addr}{qual:Str}{params:Arguments}{body:Expr}{scope:Scope}{clos:List (Str×Addr)}(h:H f=some (jI f c qual params body scope clos)):wy X H f:=
 .inl ⟨_,h,fun _ ⟨_,_,e⟩=>⟨_,_,e,rfl⟩⟩
structure Lg(X:Cx)(σ:L2.St)(H:Hp)(L:List Addr)(cw:Heap):Prop where
 lg:Dq X.K X.mg X.base cw
 ext:∀b∈L,∀φ,H b=some (.ext φ)->φ cw
 cell:∀(i:Nat) (y:Str) (v:V) (c:Addr),X.N[i]? =some y->σ[i]? =some (some v)->X.env.scope.names.lookup y=some .cell->X.env.cells.lookup y=some c->c∈L->∃u,cw.IsCell c (some u)/\RelV v u
 only:∀b∈L,∀o,H b=some o->∃φ,o= .ext φ
 ju:∀b∈L,∀q,H b≠some (dA b q)
inductive SG(X:Cx)(sp:Heap->Sp)(E:XK)(σ:L2.St)(vs:List V)(H1:Hp)(Q:VK):Prop where
 |mk(L:_)(c1:(∀b∈L,wy X H1 b))(c2:∀cw,Lg X σ H1 L cw->sp cw vs (iE H1 L) (fun v H'=>(∀b∈L,H' b=none)->Q v (pN H' H1 L)) E)
def V8(X:Cx)(sp:Heap->Sp)(E:XK)(t:TA):TE:=fun σ H Q=>t σ H fun vs H1=>SG X sp E σ vs H1 Q
theorem yu{sp:Heap->Sp}(G:GB X.prog X.w X.K X.mg X.base CX k x ps sp)(hr:dr k X.A)(hg:Gl X x)(hx:∀(L:List Addr) (pins:List (Addr×Obj)) (σ:L2.St) (H:Hp) (s:Shared) (e:Value) (s':Shared),Inv X pins σ H s->CX X.stack (iE H L) s E e s'->X.xe e s')
  (ha:PA X (e::es) t)(h:(e::es).all dD=true:=by rfl)(vL:(x==("__debug__":Str))=false:=by decide):PE X (.Call (.Name x p) (e::es) [] pos) (V8 X sp E t):=by
 intro pins s σ H Q I hw
 rw[List.all_cons,Bool.and_eq_true] at h
 obtain⟨f,fd0,F0,hm,hk,hb0⟩:=G X.base fun _ _ e=>e
 refine wpAny_Call_Name_kw (p8 I hg hm ?_ vL)
 refine PySem.W.callWith_K (h₀:=X.base) I.ok.mod.HW hk (dB (ha pos pins s σ H _ I hw) fun us s1 ⟨vs,H1,I1,r,q⟩=>⟨I1.nu,?_⟩) (bP h.1) (eE h.2)
 obtain⟨L,g2,q⟩:=q
 have g:∀b∈L,Goes X H1 b:=fun b hb=>(g2 b hb).Q9
 have kb:∀b o,X.base.get? b=some o->(pM s1.heap X.base L).get? b=some o:=fun b o e=>rB (I1.bk b o e) (by unfold lN;rw[e];rfl)
 have Uh:∀b o,b∈L->s1.heap.get? b=some o->(pM s1.heap X.base L).get? b=some o:=fun b o hb e=>rB e (by unfold lN;rw[show L.contains b=true by simpa using hb,Bool.or_true])
 obtain⟨f',fd,F,LL,hk',hb⟩:=G _ kb
 rw[hm] at LL
 cases LL
 have hs:=q (pM s1.heap X.base L) ⟨⟨kb,by rw[show(pM s1.heap X.base L).objs.size=s1.heap.objs.size from PySem.W.hideAll_size _ _];exact Nat.le_trans I1.ok.Bh I1.sz,I1.ok.mod⟩,fun b hb φ e=>by
  obtain⟨p,⟨o,eo⟩,st⟩:=I1.cx b _ e
  exact st _ _ p fun o' q'=>Uh b o' hb q',fun i y v c h1 h2 h3 h4 hc=>by
  obtain⟨m,hn,hl⟩:=I1.loc
  obtain⟨u,ru,lk⟩:=hl i y v h1 h2 (.inr (.inl h3))
  rcases lk with⟨z,_⟩|⟨_,c',e1,o,e2,e3⟩
  ·have z':X.env.scope.names.lookup y=some .local:=z
   rw[h3] at z';cases z'
  ·rw[h4] at e1
   cases e1
   exact⟨u,⟨o,Uh c o hc e2,e3⟩,ru⟩,fun b hb o e=>by
  cases o with
  |ext φ=>exact⟨φ,rfl⟩
  |_=>exact absurd hb (Goes.sH g I1 e fun _ z=>by cases z),fun b hb q e=>by
  rcases g2 b hb with⟨φ,e',h'⟩|⟨y,e',_⟩
  ·rw[e] at e'
   have hφ:φ=fun h=>h.CodeRec (.ref b) q:=(HO.ext.inj (Option.some.inj e')).symm
   obtain⟨p,_,_⟩:=I1.cx b _ e
   have p:s1.heap.CodeRec (.ref b) q:=p
   obtain⟨o,fd,e1,e2⟩:=h' s1.heap (by rw[hφ];exact p)
   obtain⟨c,o',vs,t,a1,a2,a3,a4⟩:=p
   cases a1
   rw[e1] at a2
   cases a2
   rw[e2] at a3
   cases a3
  ·rw[I1.jP y b e'] at e;cases e⟩
 have hl:us.length=ps.length:=by rw[<-r.length];exact F.len _ _ _ _ hs
 have Ve:=hb s1 us I1.nu (by rw[List.append_nil];exact hl)
 rw[List.append_nil] at Ve
 refine wpAny_call (codeAny_mono (F.run X.A X.stack s1 (iE H1 L) ⟨us,[]⟩ us vs _ E hr (CS I1 g) Ve r hs) fun r' s' hq=>?_)
 cases r' with
 |error e=>exact hx L pins σ H1 s1 e s' I1 hq
 |ok fl=>
  cases fl with
  |ret u=>exact AQ I1 g hq
  |next=>exact False.elim hq
  |brk=>exact False.elim hq
  |cont=>exact False.elim hq
end
theorem mG{H:Hp}{L:List Addr}(h:∀b∈L,∀o,H b=some o->∃φ,o= .ext φ):bY H (iE H L):=fun b xs e=>by
 rw[cy fun z=>by obtain⟨φ,q⟩:=h b z _ e;cases q]
 exact e
theorem vg{H H':Hp}{L:List Addr}(s:aQ (iE H L) H'):aQ H (pN H' H L):=fun b o e=>by
 by_cases hb:b∈L
 ·rw[nW hb];exact e
 ·rw[du hb];exact s b o (by rw[cy hb];exact e)
theorem mH{H H':Hp}{L:List Addr}(g:∀b∈L,H' b=none):bY H' (pN H' H L):=fun b xs e=>by
 rw[du fun z=>by rw[g b z] at e;cases e]
 exact e
abbrev cS:=List (Addr×Pos×Str)
def TO(L:cS)(H:Hp):Prop:=∀x∈L,jb H x.1 x.2.1 x.2.2
def xW(L:cS):Prop:=∀x∈L,∀y∈L,x.1=y.1->x=y
theorem DT{L:cS}(h:(L.map (·.1)).Nodup):xW L:=by
 induction L with
 |nil=>intro x hx;cases hx
 |cons a r ih=>
  rw[List.map_cons,List.nodup_cons] at h
  intro x hx y hy e
  rcases List.mem_cons.mp hx with h1|h1
  ·rcases List.mem_cons.mp hy with h2|h2
   ·rw[h1,h2]
   ·exact absurd (List.mem_map.mpr ⟨y,h2,by rw[<-e,h1]⟩) h.1
  ·rcases List.mem_cons.mp hy with h2|h2
   ·exact absurd (List.mem_map.mpr ⟨x,h1,by rw[e,h2]⟩) h.1
   ·exact ih h.2 x h1 y h2 e
def uM(H H':Hp):Prop:=∀b o,(∀xs,o≠ .lst xs)->(∀ps,o≠ .gu ps)->H b=some o->H' b=some o
def si(L:List Addr)(H H':Hp):Prop:=∀Q:Addr,Q∉L->∀ps,H Q=some (.gu ps)->H' Q=some (.gu ps)
theorem si.of_same{L:List Addr}{H H':Hp}(s:aQ H H'):si L H H':=fun _ _ _ e=>s _ _ e
theorem si.trans{L:List Addr}{H H1 H2:Hp}(a:si L H H1)(b:si L H1 H2):si L H H2:=fun Q n ps e=>b Q n ps (a Q n ps e)
theorem si.HB{L:List Addr}{H H':Hp}{P:Addr}(o:∀Q:Addr,Q≠P->∀ps,H Q=some (.gu ps)->H' Q=some (.gu ps))(m:P∈L):si L H H':=fun Q n ps e=>o Q (fun z=>n (by rw[z];exact m)) ps e
structure ST(L:cS)(H H':Hp):Prop where
 sx:cI H H'
 to:TO L H'
section
variable {L:cS}{H H1 H2 H':Hp}{D:List Addr}
theorem TO.same(t:TO L H)(s:aQ H H'):TO L H':=fun x hx=>(t x hx).same s
theorem TO.nl(t:TO L H)(s:NL H H'):TO L H':=fun x hx=>(t x hx).nl s
theorem TO.made{P:Addr}{pos:Pos}{q:Str}(t:TO L H)(xO:xW L)(m:(P,pos,q)∈L)(sx:cI H H')(tp:jb H' P pos q)(sG:∀Q:Addr,Q≠P->∀ps,H Q=some (.gu ps)->H' Q=some (.gu ps)):TO L H':=fun x hx=>by
 by_cases hP:x.1=P
 ·have e:=xO x hx (P,pos,q) m hP
  rw[e]
  exact tp
 ·rcases t x hx with a|⟨c,a,b⟩
  ·exact .inl (sG _ hP _ a)
  ·exact .inr ⟨c,sG _ hP _ a,sx _ _ (fun _ z=>by cases z) b⟩
theorem TO.del(t:TO L H)(only:∀b∈D,∀o,H b=some o->∃φ,o= .ext φ)(ju:∀b∈D,∀q,H b≠some (dA b q)):TO L (iE H D):=fun x hx=>by
 have nt:∀ps,H x.1=some (.gu ps)->x.1∉D:=fun ps e z=>by obtain⟨φ,q⟩:=only _ z _ e;cases q
 rcases t x hx with a|⟨c,a,b⟩
 ·exact .inl (by rw[cy (nt _ a)];exact a)
 ·exact .inr ⟨c,by rw[cy (nt _ a)];exact a,by rw[cy fun z=>ju c z _ b];exact b⟩
theorem TO.add(t:TO L H')(gone:∀b∈D,H' b=none):TO L (pN H' H D):=fun x hx=>by
 have nd:∀b o,H' b=some o->b∉D:=fun b o e z=>by rw[gone b z] at e;cases e
 rcases t x hx with a|⟨c,a,b⟩
 ·exact .inl (by rw[du (nd _ _ a)];exact a)
 ·exact .inr ⟨c,by rw[du (nd _ _ a)];exact a,by rw[du (nd _ _ b)];exact b⟩
theorem cI.AR(s:cI (iE H D) H'):cI H (pN H' H D):=fun b o n e=>by
 by_cases hb:b∈D
 ·rw[nW hb];exact e
 ·rw[du hb];exact s b o n (by rw[cy hb];exact e)
theorem ST.refl(t:TO L H):ST L H H:=⟨.refl _,t⟩
theorem ST.trans(a:ST L H H1)(b:ST L H1 H2):ST L H H2:=⟨a.sx.trans b.sx,b.to⟩
theorem ST.of_same(t:TO L H)(s:aQ H H'):ST L H H':=⟨.of s,t.same s⟩
theorem ST.same(a:ST L H H1)(s:aQ H1 H2):ST L H H2:=a.trans (.of_same a.to s)
theorem ST.cM(a:ST L H H'):bY H H':=a.sx.cM
theorem ST.AR(a:ST L (iE H D) H')(gone:∀b∈D,H' b=none):ST L H (pN H' H D):=⟨a.sx.AR,a.to.add gone⟩
theorem uM.refl(H:Hp):uM H H:=fun _ _ _ _ h=>h
theorem uM.trans(a:uM H H1)(b:uM H1 H2):uM H H2:=fun x o n m h=>b x o n m (a x o n m h)
theorem uM.KO(n:NL H H'):uM H H':=fun b o a _ h=>n b o a h
theorem uM.of_same(s:aQ H H'):uM H H':=fun b o _ _ h=>s b o h
theorem uM.vx(s:cI H H'):uM H H':=fun b o _ m h=>s b o m h
theorem uM.of_keep{l:Addr}{xs:List V}(k:bh [l] H H')(h:H l=some (.lst xs)):uM H H':= .KO (.of_keep k h)
end
def KA(A:List Addr)(H H':Hp):Prop:=∀b o,b∉A->(∀ps,o≠ .gu ps)->H b=some o->H' b=some o
section
variable {A D:List Addr}{L:cS}{H H1 H2 H':Hp}{p:Addr}
theorem KA.refl(A:List Addr)(H:Hp):KA A H H:=fun _ _ _ _ h=>h
theorem KA.trans(a:KA A H H1)(b:KA A H1 H2):KA A H H2:=fun x o n m h=>b x o n m (a x o n m h)
theorem KA.of_same(s:aQ H H'):KA A H H':=fun b o _ _ h=>s b o h
theorem KA.vx(s:cI H H'):KA A H H':=fun b o _ m h=>s b o m h
theorem KA.sx(a:KA [] H H'):cI H H':=fun b o m h=>a b o (by simp) m h
theorem KA.AR(s:KA A (iE H D) H'):KA A H (pN H' H D):=fun b o n m e=>by
 by_cases hb:b∈D
 ·rw[nW hb];exact e
 ·rw[du hb];exact s b o n m (by rw[cy hb];exact e)
theorem KA.keep(a:KA A H H1)(k:bh [p] H1 H2)(n:H p=none):KA A H H2:=fun b o nb m h=>k b o (fun z=>by rw[List.mem_singleton.mp z,n] at h;cases h) (a b o nb m h)
def Dp(A:List Addr)(H:Hp):Prop:=∀b∈A,∃ba,H b=some (.dK ba)
theorem KA.lst(a:KA A H H')(d:Dp A H){b:Addr}{xs:List V}(h:H b=some (.lst xs)):H' b=some (.lst xs):=a b _ (fun z=>by obtain⟨_,q⟩:=d b z;rw[h] at q;cases q) (fun _ z=>by cases z) h
theorem KA.cM(a:KA A H H')(d:Dp A H):bY H H':=fun b xs h=>a b _ (fun z=>by obtain⟨_,q⟩:=d b z;rw[h] at q;cases q) (fun _ z=>by cases z) h
theorem EF(gone:∀b∈D,H' b=none):uM H' (pN H' H D):=fun b o _ _ h=>by
 rw[du fun z=>by rw[gone b z] at h;cases h]
 exact h
theorem yD(s:cI H H1)(sx:cI H1 H2)(n:∀b∈D,H1 b=none):uM H (iE H2 D):=fun b o _ m h=>by
 have e:=s b o m h
 rw[cy fun z=>by rw[n b z] at e;cases e]
 exact sx b o m e
end
inductive Jy(L:List Addr)(H:Hp)(v:V)(p:List Int):Prop where
 |mk(l:_)(c1:v= .ref l)(c2:l∉L)(c3:H l=some (.lst (p.map V.int)))
def jd(L:List Addr)(H:Hp)(v:V)(p:List Int):Prop:=Jy L H v p
inductive Jz(L:List Addr)(H:Hp)(v:V)(q:Tm×List Int):Prop where
 |mk(a:_)(tv:_)(pv:_)(c1:v= .ref a)(c2:H a=some (.tup [tv,pv]))(c3:au H tv q.1)(c4:jd L H pv q.2)
def jR(L:List Addr)(H:Hp)(v:V)(q:Tm×List Int):Prop:=Jz L H v q
def GN(L:List Addr)(H:Hp):Prop:=∀x∈L,∃ys,H x=some (.lst ys)
theorem fM{H:Hp}{f d:Addr}{xs ys:List V}(h1:H f=some (.lst xs))(h2:H d=some (.lst ys)):GN [f,d] H:=fun x hx=>by
 rcases List.mem_cons.mp hx with e|hx
 ·exact⟨xs,e ▸ h1⟩
 ·exact⟨ys,List.mem_singleton.mp hx ▸ h2⟩
theorem jd.keep{L:List Addr}{H H':Hp}{v:V}{p:List Int}(h:jd L H v p)(k:bh L H H'):jd L H' v p:=let ⟨l,e,n,q⟩:=h;⟨l,e,n,k _ _ n q⟩
theorem jR.keep{L:List Addr}{H H':Hp}{v:V}{q:Tm×List Int}(h:jR L H v q)(k:bh L H H')(hL:GN L H):jR L H' v q:=
 let ⟨a,tv,pv,e,h1,h2,h3⟩:=h
 ⟨a,tv,pv,e,k.cM hL _ _ h1,h2.mono (k.cM hL),h3.keep k⟩
theorem jd.path{L:List Addr}{H:Hp}{v:V}{p:List Int}(h:jd L H v p):lQ H v p:=let ⟨l,e,_,q⟩:=h;⟨l,e,q⟩
def pend(aN:List (Tm×List Int)):List (List Int):=aN.reverse.flatMap fun q=>under q.2 q.1
theorem gv(aN:List (Tm×List Int))(q:Tm×List Int):pend (aN++[q])=under q.2 q.1++pend aN:=by
 unfold pend
 rw[List.reverse_append]
 rfl
def eF(aN:List (Tm×List Int)):Nat:=(aN.map fun q=>q.1.size).sum
theorem fH(aN:List (Tm×List Int))(q:Tm×List Int):eF (aN++[q])=eF aN+q.1.size:=by
 unfold eF
 rw[List.map_append,List.sum_append]
 simp
theorem sJ:∀aN:List (Tm×List Int),aN.length<=eF aN
 |[]=>Nat.le_refl _
 |q::r=>by
  have:=sJ r
  have h:=q.1.size_pos
  show r.length+1<=q.1.size+eF r
  omega
theorem tX{K:W.Frag}{σ:L2.St}{H:Hp}{Q:VK}{i2 i4 i5:Nat}{d a l:Addr}{ys xs:List V}{bv:V}{j c:Int}{p:List Int}(h2:σ[i2]? =some (some (.ref d)))(h4:σ[i4]? =some (some (.ref a)))(h5:σ[i5]? =some (some (.ref l)))
  (ha:H a=some (.tup ys))(hj:uU ys j=some bv)(hl:H l=some (.lst (p.map V.int)))(hd:H d=some (.lst xs))(hx:xs.length<=900000)(hp:p.length<=900000)
  (cont:∀b8 b9 gz,bh [d] H gz->gz d=some (.lst (xs++[.ref b9]))->H b9=none->H b8=none->gz b9=some (.tup [bv,.ref b8])->gz b8=some (.lst ((p++[c]).map V.int))->Q .d0 gz):
  Kk K (zG i2) (S0 (gC (JK (Kv K) (zG i4) (tC (.int j))) (gC (JK Td (zG i5) (S3 (gC (tC (.int c)) ot))) ot))) σ H Q:=by
 refine⟨_,h2,Or.inl ⟨rfl,_,bp.of hd⟩,_,h4,_,_,_,_,rfl,rfl,aS.of ha,hj,_,h5,az (by show 1<=1000000;decide),fun b7 H7 n7 s7 h7=>?_⟩
 refine⟨_,_,_,_,rfl,rfl,s7 _ _ hl,h7,az (by rw[List.length_map];show p.length+1<=_;omega),fun b8 H8 n8 s8 h8=>⟨az (by show 2<=1000000;decide),fun b9 H9 n9 s9 h9=>?_⟩⟩
 have S9:aQ H H9:=(s7.trans s8).trans s9
 refine⟨_,_,_,rfl,rfl,S9 _ _ hd,small (by omega),fun gz iX AI=>?_⟩
 have WQ:b8≠d:=(aY (s7 _ _ hd) n8).symm
 refine cont b8 b9 gz ((bh.of_same S9).trans iX) AI ((s7.trans s8).free n9) (s7.free n8) (iX.dS (S9 _ _ hd) _ _ h9) ?_
 have q:=iX.at (s9 _ _ h8) WQ
 rw[List.map_append]
 exact q
inductive Fv(H:Hp)(v:V)(q:Tm×Nat):Prop where
 |mk(a:_)(tv:_)(c1:v= .ref a)(c2:H a=some (.tup [tv,.int (q.2:Int)]))(c3:au H tv q.1)
def bB(H:Hp)(v:V)(q:Tm×Nat):Prop:=Fv H v q
theorem bB.mono{H H':Hp}{v:V}{q:Tm×Nat}(h:bB H v q)(k:bY H H'):bB H' v q:=let ⟨a,tv,e,h1,h2⟩:=h;⟨a,tv,e,k _ _ h1,h2.mono k⟩
def pe(aN:List (Tm×Nat)):List (Tm×Nat):=aN.reverse.flatMap fun q=>q.1.parts q.2
theorem jo(aN:List (Tm×Nat))(q:Tm×Nat):pe (aN++[q])=q.1.parts q.2++pe aN:=by
 unfold pe
 rw[List.reverse_append]
 rfl
def pf(aN:List (Tm×Nat)):List (Tm×Nat):=aN.reverse.flatMap fun q=>q.1.bq q.2
theorem jq(aN:List (Tm×Nat))(q:Tm×Nat):pf (aN++[q])=q.1.bq q.2++pf aN:=by
 unfold pf
 rw[List.reverse_append]
 rfl
def bG(aN:List (Tm×Nat)):Nat:=(aN.map fun q=>q.1.size).sum
theorem bF(aN:List (Tm×Nat))(q:Tm×Nat):bG (aN++[q])=bG aN+q.1.size:=by
 unfold bG
 rw[List.map_append,List.sum_append]
 simp
theorem mj:∀aN:List (Tm×Nat),aN.length<=bG aN
 |[]=>Nat.le_refl _
 |q::r=>by
  have:=mj r
  have h:=q.1.size_pos
  show r.length+1<=q.1.size+bG r
  omega
def LT(H H':Hp):Prop:=(∀b xs,H b=some (.lst xs)->H' b=some (.lst xs))/\bY H H'
theorem LT.refl(H:Hp):LT H H:=⟨fun _ _ h=>h,fun _ _ h=>h⟩
theorem LT.trans{H H1 H2:Hp}(a:LT H H1)(b:LT H1 H2):LT H H2:=⟨fun x xs h=>b.1 _ _ (a.1 _ _ h),fun x xs h=>b.2 _ _ (a.2 _ _ h)⟩
theorem LT.of{H H':Hp}(s:aQ H H'):LT H H':=⟨fun b xs h=>s _ _ h,fun b xs h=>s _ _ h⟩
def jK:Tm->Dt
 | .name w=> .tup [.str "name",.str w]
 | .place n=> .tup [.str "place",.int n]
 | .aa b=> .tup [.str "form",jK b]
 | .call a b=> .tup [.str "call",jK a,jK b]
theorem iL{K:W.Frag}{H:Hp}{v:V}{t:Tm}(h:au H v t):rT K H (jK t) v:=by
 induction h with
 |name h=>exact⟨_,_,rfl,aS.of h,_,_,rfl,rfl,_,_,rfl,rfl,rfl⟩
 |place h=>exact⟨_,_,rfl,aS.of h,_,_,rfl,rfl,_,_,rfl,rfl,rfl⟩
 |aa h _ ih=>exact⟨_,_,rfl,aS.of h,_,_,rfl,rfl,_,_,rfl,ih,rfl⟩
 |call h _ _ XJ XI=>exact⟨_,_,rfl,aS.of h,_,_,rfl,rfl,_,_,rfl,XJ,_,_,rfl,XI,rfl⟩
theorem gB:∀(t:Tm) (n:Nat),t.deep<=n->Dt.wG n (jK t)
 | .name _,n+1,_=>⟨by unfold Dt.wG;trivial,by unfold Dt.wG;trivial,trivial⟩
 | .place _,n+1,_=>⟨by unfold Dt.wG;trivial,by unfold Dt.wG;trivial,trivial⟩
 | .aa b,n+1,h=>⟨by unfold Dt.wG;trivial,gB b n (by have h':b.deep+1<=n+1:=h;omega),trivial⟩
 | .call a b,n+1,h=>by
  have h':max a.deep b.deep+1<=n+1:=h
  exact⟨by unfold Dt.wG;trivial,gB a n (by omega),gB b n (by omega),trivial⟩
 | .name _,0,h=>by have h':1<=0:=h;omega
 | .place _,0,h=>by have h':1<=0:=h;omega
 | .aa b,0,h=>by have h':b.deep+1<=0:=h;omega
 | .call a b,0,h=>by have h':max a.deep b.deep+1<=0:=h;omega
theorem au.ref{H:Hp}{v:V}{t:Tm}(h:au H v t):∃a,v= .ref a:=let ⟨a,_,_,e,_⟩:=h.tup;⟨a,e⟩
theorem fc{K:W.Frag}{H H':Hp}{a:Addr}{xs:List V}(h:bp K H a xs)(s:aQ H H'):bp K H' a xs:=by
 rcases h with(h|⟨o,h⟩)|h
 ·exact .inl (.inl (s _ _ h))
 ·exact .inl (.inr ⟨o,s _ _ h⟩)
 ·exact .inr h
theorem Fb{H:Hp}{p:Addr}{ns:List Int}(lo hi:Nat)(h:H p=some (.lst (mr (ns.map V.int) (some (lo:Int)) (some (hi:Int))))):∃ms:List Int,H p=some (.lst (ms.map V.int))/\ms.length<=hi - lo:=by
 refine⟨(ns.drop (HT.fD (ns.map V.int).length 0 (some (lo:Int)))).take (HT.fD (ns.map V.int).length (ns.map V.int).length (some (hi:Int)) - HT.fD (ns.map V.int).length 0 (some (lo:Int))),?_,?_⟩
 ·rw[h]
  unfold mr
  rw[List.map_take,List.map_drop]
 ·rw[List.length_take,HT.yn,HT.yn]
  omega
section
variable {X:Cx}
end
def Its(x:Str):It:=⟨fun i _=>i < x.cps.size,fun i H v H'=>H'=H/\∃c,x.cps[i]? =some c/\v= .str ⟨#[c]⟩,fun i _=>x.cps.size<=i⟩
section
variable {X:Cx}{tg:Expr}
end
section
variable {X:Cx}{CX:mB}{k:Nat}{C:Addr}{m:Str}{ps:List Str}{sp:Sp}{E:XK}{o:Expr}{ta:TE}{apos pos:Pos}
theorem iz{pl:Sem Bool}(he:PE X o ta)(c:wA X.K C)(G:GM X.prog X.w X.K X.mg X.base CX k C m ps sp)(hr:dr k X.A)(hx:Passes CX X E)
  (ht:eval (.Call (.Attribute o m apos) [] [] pos) X.env=(do
   let ov <-eval o X.env
   standAt apos.atName
   let (f,first) <-holding [ov] (getMethod ov m pl)
   callWith pos f first (backTo pos (starEach [] X.env)) (backToKw pos (keywordEach [] X.env))):=by rfl):PE X (.Call (.Attribute o m apos) [] [] pos) (yh C m sp [] E ta ot):=by
 obtain⟨f,fd,F,M,hb⟩:=G
 exact BS he c M F hr hb .nil hx ht
end
section
variable {X:Cx}{o e:Expr}{to te:TE}{apos fG:Pos}
inductive SN(x:V)(vs:List V)(H:Hp)(Q:VK):Prop where
 |mk(l:_)(b:_)(xs:_)(zs:_)(c1:x= .ref l)(c2:vs=[.ref b])(c3:H l=some (.lst xs))(c4:H b=some (.lst zs))(c5:xs.length+zs.length<=sizeLine)(c6:∀H',bh [l] H H'->H' l=some (.lst (xs++zs))->Q .d0 H')
def Tc:V->List V->Hp->VK->Prop:=fun x vs H Q=>SN x vs H Q
theorem K1:Bi X "list.extend" Tc:=Bi.imp Ac fun _ _ _ _ ⟨l,b,xs,zs,e1,e2,h1,h2,h3,q⟩=>⟨l,b,xs,zs,e1,e2,h1,h2,h3,q _ (rf (by simp)) aH⟩
theorem O0(ho:PE X o to)(he:PE X e te)(h:dD e=true:=by rfl)(nE:attributeBase o "extend" X.env (eval o X.env)=eval o X.env:=by rfl)(nC:(apos.endLine==fG.line)=true:=by rfl):
  PE X (.Call (.Attribute o "extend" apos) [e] [] fG) (Oy X.K "list" Tc to (gC te ot)):=
 FY PySem.F.plainAttrs_list PySem.F.slot_list_extend PySem.F.type_list_extend K1 ho (ak he aj h) nE (by
  rw[qB (es:=[e]) (by simp[h])]
  rfl) nC (bP h) rfl
end
theorem cps_append(a b:Str):(a++b).cps.toList=a.cps.toList++b.cps.toList:=by
 show(a.cps++b.cps).toList=_
 simp
section
variable {X:Cx}{pins:List (Addr×Obj)}{σ:L2.St}{H1:Hp}{s1:Shared}
end
section
variable {P:Program}{w:World}{K:W.Frag}{mg:Str->Option Value}{base:Heap}{N:List Str}{qual:Str}{scope:Scope}{f:Addr}{cd:Value}{A:Around}{outer:List Env}{s:Shared}{H:Hp}{E:XK}
structure JF(x:Str)(C:Addr)(mg:Str->Option Value)(h:Heap):Prop where
 own:OwnCls x C [.type "ValueError",.type "Exception",.type "BaseException",.type "object"] "ValueError.__new__" mg h
theorem JF.keeps{x:Str}{C:Addr}{h h':Heap}(O:JF x C mg h)(k:∀b o,h.get? b=some o->h'.get? b=some o):JF x C mg h':=⟨O.own.keeps k⟩
end
def ExcAt(x D:Addr)(h:Heap):Prop:=∃o,h.get? x=some o/\o.cls= .ref D/\PySem.W.notCls o=true
section
variable {prog:Program}{w:World}{A:Around}{E:Value->Shared->Prop}{s:Shared}{K:W.Frag}{x D:Addr}
theorem ExcAt.type{M:Model}{h:Heap}(I:ExcAt x D h):PySem.W.Looks M h (typeOf (.ref x)) (.ref D):=by
 obtain⟨o,h1,h2,_⟩:=I
 exact h2 ▸ (PySem.W.Looks.ld h1).andThen .now
open PySem.W Builtin.ObjectAttr in
open PySem.W PySem.Calls Builtin Builtin.ObjectAttr Builtin.Getset_descriptor in
open PySem.W PySem.Calls Builtin.ObjectAttr in
open PySem.W PySem.Calls in
open PySem.W in
end
section
variable {X:Cx}{pins:List (Addr×Obj)}{σ:L2.St}{H1 H2:Hp}{s1 s2:Shared}
def _root_.L2.Cx.Qu(X:Cx)(ea:Addr)(l:List (Addr×Obj)):Cx:={X with A:=X.A.mark (some (.ref ea)),calm:=false,pn:=l++X.pn,xe:=fun _ _=>False}
section
variable {i:Nat}{x cn n:Str}{CH:Addr}{e:Expr}{t:XK->TE}{ts:TS}{b₀:Stmt}{bs:List Stmt}{p1 p2 p3 p4 p5:Pos}
end
end
section
variable {P:Program}{w:World}{K:W.Frag}{mg:Str->Option Value}{base:Heap}
end
end NC
namespace NC
section
variable {W:Type}
inductive Fm(W:Type) where
 |aa
 |one (t:T W)
 |other (t:T W)
def cZ:Fm W->T W->T W
 | .aa,t=> .aa t
 | .one u,t=> .call t u
 | .other u,t=> .call u t
def bu:List (Fm W)->T W->T W
 |[],t=>t
 |f::S,t=>bu S (cZ f t)
def gm:T W->Int->Bool
 | .call _ _,n=>decide (n=0)||decide (n=1)
 | .aa _,n=>decide (n=0)
 |_,_=>false
def child:T W->Int->T W
 | .aa b,_=>b
 | .call a b,n=>if n=0 then a else b
 |t,_=>t
def frame:T W->Int->Fm W
 | .call a b,n=>if n=0 then .one b else .other a
 |_,_=> .aa
def Fm.D7:Fm W->Nat
 | .aa=>0
 | .one t=>t.size
 | .other t=>t.size
def dR:T W->List Int->List (Fm W)->Option (T W×List (Fm W))
 |t,[],S=>some (t,S)
 |t,n::ps,S=>if gm t n=true then dR (child t n) ps (frame t n::S) else none
def e7:Option (T W×List (Fm W))->Option (T W)
 |some (.call (.aa b) u,S)=>some (bu S (b.fill u))
 |_=>none
def stepT(t:T W)(ps:List Int):Option (T W):=e7 (dR t ps [])
theorem rG:∀(t:T W) (n:Int),(child t n).size<=t.size
 | .name _,_=>Nat.le_refl _
 | .place _,_=>Nat.le_refl _
 | .aa b,_=>by show b.size<=b.size+1;omega
 | .call a b,n=>by
  show(if n=0 then a else b).size<=a.size+b.size+1
  split<;>omega
theorem AJ:∀(t:T W) (n:Int),(frame t n).D7<=t.size
 | .name _,_=>Nat.zero_le _
 | .place _,_=>Nat.zero_le _
 | .aa b,_=>Nat.zero_le _
 | .call a b,n=>by
  show(if n=0 then Fm.one b else Fm.other a).D7<=a.size+b.size+1
  split
  ·show b.size<=_;omega
  ·show a.size<=_;omega
def Small(m:Nat)(S:List (Fm W)):Prop:=∀f∈S,f.D7<=m
theorem Small.cons{m:Nat}{f:Fm W}{S:List (Fm W)}(h:f.D7<=m)(s:Small m S):Small m (f::S):=fun g hg=>by
 rcases List.mem_cons.mp hg with e|e
 ·rw[e];exact h
 ·exact s g e
theorem Small.tail{m:Nat}{f:Fm W}{S:List (Fm W)}(s:Small m (f::S)):Small m S:=fun g hg=>s g (List.mem_cons_of_mem _ hg)
theorem Small.head{m:Nat}{f:Fm W}{S:List (Fm W)}(s:Small m (f::S)):f.D7<=m:=s f List.mem_cons_self
def Fm.sP:Fm W->Nat
 | .aa=>0
 | .one t=>t.deep
 | .other t=>t.deep
theorem xf:∀(t:T W) (n:Int),gm t n=true->cZ (frame t n) (child t n)=t
 | .name _,_,h=>by cases h
 | .place _,_,h=>by cases h
 | .aa b,_,_=>rfl
 | .call a b,n,_=>by
  show cZ (if n=0 then Fm.one b else Fm.other a) (if n=0 then a else b)=_
  split<;>rfl
end
end NC
namespace NC
section
variable {W:Type}
def aV:T W->List Int->Option (T W)
 | .call (.aa b) u,[]=>some (b.fill u)
 | .aa b,n::p=>if n=0 then (aV b p).map .aa else none
 | .call a b,n::p=>if n=0 then (aV a p).map (.call · b) else if n=1 then (aV b p).map (.call a ·) else none
 |_,_=>none
theorem cR(f:Fm W):∀(ps:List Int) (t:T W) (S:List (Fm W)),e7 (dR t ps S)=(e7 (dR t ps [])).map (bu S)
 |[],t,S=>by
  show e7 (some (t,S))=(e7 (some (t,[]))).map _
  cases t with
  |name _=>rfl
  |place _=>rfl
  |aa _=>rfl
  |call a u=>cases a<;>rfl
 |n::ps,t,S=>by
  unfold dR
  split
  ·rw[cR f ps (child t n) (frame t n::S),cR f ps (child t n) [frame t n]]
   cases e7 (dR (child t n) ps [])<;>rfl
  ·rfl
theorem dX:∀(ps:List Int) (t:T W),stepT t ps=aV t ps
 |[],t=>by
  cases t with
  |name _=>rfl
  |place _=>rfl
  |aa _=>rfl
  |call a u=>cases a<;>rfl
 |n::ps,t=>by
  show e7 (if gm t n=true then dR (child t n) ps [frame t n] else none)=_
  cases t with
  |name _=>rfl
  |place _=>rfl
  |aa b=>
   show e7 (if decide (n=0)=true then dR b ps [Fm.aa] else none)=if n=0 then (aV b ps).map T.aa else none
   by_cases h:n=0
   ·rw[if_pos h,if_pos (decide_eq_true h),cR .aa,<-dX ps b]
    rfl
   ·rw[if_neg h,if_neg (by simpa using h)]
    rfl
  |call a b=>
   show e7 (if (decide (n=0)||decide (n=1))=true then dR (if n=0 then a else b) ps [if n=0 then Fm.one b else Fm.other a] else none)=_
   have e:aV (.call a b) (n::ps)=if n=0 then (aV a ps).map (.call · b) else if n=1 then (aV b ps).map (.call a ·) else none:=by
    cases a<;>rfl
   rw[e]
   by_cases h:n=0
   ·rw[if_pos h,if_pos h,if_pos h,if_pos (by simp[h]),cR .aa,<-dX ps a]
    rfl
   ·by_cases h1:n=1
    ·rw[if_neg h,if_neg h,if_neg h,if_pos h1,if_pos (by simp[h1]),cR .aa,<-dX ps b]
     rfl
    ·rw[if_neg h,if_neg h,if_neg h,if_neg h1,if_neg (by simp[h,h1])]
     rfl
def aG(n:Int)(ps:List (List Int)):List (List Int):=ps.filterMap fun q=>match q with
 |[]=>none
 |m::r=>if m=n then some r else none
theorem aW{n:Int}{ps:List (List Int)}{r:List Int}:r∈aG n ps↔n::r∈ps:=by
 unfold aG
 rw[List.mem_filterMap]
 constructor
 ·rintro⟨q,hq,e⟩
  cases q with
  |nil=>cases e
  |cons m r'=>
   dsimp only at e
   split at e
   ·rename_i h
    cases e
    rw[<-h]
    exact hq
   ·cases e
 ·intro h
  exact⟨n::r,h,by simp⟩
def dv:T W->List (List Int)->T W
 | .name w,_=> .name w
 | .place n,_=> .place n
 | .aa b,P=> .aa (dv b (aG 0 P))
 | .call a b,P=>if []∈P then (match dv a (aG 0 P) with| .aa c=>c.fill (dv b (aG 1 P))|a'=> .call a' (dv b (aG 1 P))) else .call (dv a (aG 0 P)) (dv b (aG 1 P))
theorem eV:∀t:T W,dv t []=t
 | .name _=>rfl
 | .place _=>rfl
 | .aa b=>by show T.aa (dv b [])=_;rw[eV b]
 | .call a b=>by
  show(if []∈([]:List (List Int)) then _ else T.call (dv a []) (dv b []))=_
  rw[if_neg (by simp),eV a,eV b]
theorem df:∀(t:T W) (P P':List (List Int)),(∀q,q∈P↔q∈P')->dv t P=dv t P'
 | .name _,_,_,_=>rfl
 | .place _,_,_,_=>rfl
 | .aa b,P,P',h=>by
  show T.aa _=T.aa _
  rw[df b (aG 0 P) (aG 0 P') fun q=>by rw[aW,aW];exact h _]
 | .call a b,P,P',h=>by
  have e1:=df a (aG 0 P) (aG 0 P') fun q=>by rw[aW,aW];exact h _
  have e2:=df b (aG 1 P) (aG 1 P') fun q=>by rw[aW,aW];exact h _
  show(if []∈P then _ else _)=(if []∈P' then _ else _)
  rw[e1,e2]
  by_cases hn:[]∈P
  ·rw[if_pos hn,if_pos ((h []).mp hn)]
  ·rw[if_neg hn,if_neg fun z=>hn ((h []).mpr z)]
def uz:T W->List (List Int)->Nat
 | .name _,_=>2
 | .place _,_=>2
 | .aa b,P=>uz b (aG 0 P)+1
 | .call a b,P=>if []∈P then uz a (aG 0 P)*uz b (aG 1 P) else uz a (aG 0 P)+uz b (aG 1 P)
def ud:T W->List (List Int)->Nat
 | .name _,_=>1
 | .place _,_=>1
 | .aa b,P=>ud b (aG 0 P)+1
 | .call a b,P=>if []∈P then ud a (aG 0 P)+ud b (aG 1 P) else max (ud a (aG 0 P)) (ud b (aG 1 P))+1
theorem tw:∀(t:T W) (P:List (List Int)),2<=uz t P
 | .name _,_=>Nat.le_refl _
 | .place _,_=>Nat.le_refl _
 | .aa b,P=>Nat.le_succ_of_le (tw b _)
 | .call a b,P=>by
  have h1:=tw a (aG 0 P)
  have h2:=tw b (aG 1 P)
  show 2<=if []∈P then uz a (aG 0 P)*uz b (aG 1 P) else uz a (aG 0 P)+uz b (aG 1 P)
  split
  ·have:=Nat.mul_le_mul h1 h2
   omega
  ·omega
theorem tE:∀(t:T W) (P:List (List Int)),1<=ud t P
 | .name _,_=>Nat.le_refl _
 | .place _,_=>Nat.le_refl _
 | .aa b,P=>Nat.le_succ_of_le (tE b _)
 | .call a b,P=>by
  have h1:=tE a (aG 0 P)
  show 1<=if []∈P then ud a (aG 0 P)+ud b (aG 1 P) else max (ud a (aG 0 P)) (ud b (aG 1 P))+1
  split<;>omega
theorem mN:∀(t:T W) (P:List (List Int)),t.size+1<=uz t P
 | .name _,_=>Nat.le_refl _
 | .place _,_=>Nat.le_refl _
 | .aa b,P=>Nat.succ_le_succ (mN b _)
 | .call a b,P=>by
  have h1:=mN a (aG 0 P)
  have h2:=mN b (aG 1 P)
  have h3:=a.size_pos
  have h4:=b.size_pos
  show a.size+b.size+1+1<=if []∈P then uz a (aG 0 P)*uz b (aG 1 P) else uz a (aG 0 P)+uz b (aG 1 P)
  split
  ·have h5:=Nat.mul_le_mul h1 h2
   rw[Nat.add_mul,Nat.mul_add,Nat.one_mul,Nat.mul_one] at h5
   have h6:=Nat.mul_le_mul h3 h4
   omega
  ·omega
theorem nM:∀(t:T W) (P:List (List Int)),t.deep<=ud t P
 | .name _,_=>Nat.le_refl _
 | .place _,_=>Nat.le_refl _
 | .aa b,P=>Nat.succ_le_succ (nM b _)
 | .call a b,P=>by
  have h1:=nM a (aG 0 P)
  have h2:=nM b (aG 1 P)
  have h3:=tE a (aG 0 P)
  have h4:=tE b (aG 1 P)
  show max a.deep b.deep+1<=if []∈P then ud a (aG 0 P)+ud b (aG 1 P) else max (ud a (aG 0 P)) (ud b (aG 1 P))+1
  split<;>omega
structure FC(t:T W)(ps:List (List Int)):Prop where
 sub:∀p∈ps,p∈t.ao
 nd:ps.Nodup
 desc:ps.Pairwise fun a b=>b.length<=a.length
theorem dw{b:T W}{p:List Int}:p∈(T.aa b).ao↔∃q,p=0::q/\q∈b.ao:=by
 show p∈b.ao.map (0::·)↔_
 rw[List.mem_map]
 exact⟨fun⟨q,h,e⟩=>⟨q,e.symm,h⟩,fun⟨q,e,h⟩=>⟨q,h,e.symm⟩⟩
theorem bD{a b:T W}{p:List Int}:p∈(T.call a b).ao↔(p=[]/\a.bx=true) ∨ (∃q,p=0::q/\q∈a.ao) ∨ ∃q,p=1::q/\q∈b.ao:=by
 show p∈(if a.bx then [[]] else [])++(a.ao.map (0::·)++b.ao.map (1::·))↔_
 rw[List.mem_append,List.mem_append,List.mem_map,List.mem_map]
 constructor
 ·rintro(h|⟨q,h,e⟩|⟨q,h,e⟩)
  ·split at h
   ·rename_i hf
    exact .inl ⟨List.mem_singleton.mp h,hf⟩
   ·cases h
  ·exact .inr (.inl ⟨q,e.symm,h⟩)
  ·exact .inr (.inr ⟨q,e.symm,h⟩)
 ·rintro(⟨e,hf⟩|⟨q,e,h⟩|⟨q,e,h⟩)
  ·rw[if_pos hf,e]
   exact .inl (List.mem_singleton.mpr rfl)
  ·exact .inr (.inl ⟨q,h,e.symm⟩)
  ·exact .inr (.inr ⟨q,h,e.symm⟩)
theorem jt{n:Int}{ps:List (List Int)}(h:ps.Nodup):(aG n ps).Nodup:=by
 unfold aG List.Nodup
 refine List.Pairwise.filterMap (R:=(·≠·)) (S:=(·≠·)) _ (fun a a' lF b hb b' og e=>lF ?_) h
 cases a with
 |nil=>cases hb
 |cons m r=>
  cases a' with
  |nil=>cases og
  |cons m' r'=>
   dsimp only at hb og
   split at hb
   ·rename_i h1
    split at og
    ·rename_i h2
     cases hb
     cases og
     rw[h1,h2,e]
    ·cases og
   ·cases hb
theorem lq{n:Int}{ps:List (List Int)}(h:ps.Pairwise fun a b=>b.length<=a.length):(aG n ps).Pairwise fun a b=>b.length<=a.length:=by
 unfold aG
 refine List.Pairwise.filterMap (R:=fun a b:List Int=>b.length<=a.length) _ (fun a a' hle b hb b' og=>?_) h
 cases a with
 |nil=>cases hb
 |cons m r=>
  cases a' with
  |nil=>cases og
  |cons m' r'=>
   dsimp only at hb og
   split at hb
   ·split at og
    ·cases hb
     cases og
     exact Nat.le_of_succ_le_succ hle
    ·cases og
   ·cases hb
theorem bJ{n:Int}{p:List Int}{ps:List (List Int)}:aG n ((n::p)::ps)=p::aG n ps:=by
 unfold aG
 rw[List.filterMap_cons]
 simp
theorem gZ{m n:Int}{p:List Int}{ps:List (List Int)}(h:m≠n):aG n ((m::p)::ps)=aG n ps:=by
 unfold aG
 rw[List.filterMap_cons]
 simp[h]
theorem fv:∀(t:T W) (p:List Int) (ps:List (List Int)),FC t (p::ps)->∃t',aV t p=some t'/\FC t' ps/\dv t' ps=dv t (p::ps)/\uz t' ps<=uz t (p::ps)/\ud t' ps<=ud t (p::ps)/\(p≠[]->t.bx=t'.bx)
 | .name _,p,ps,h=>nomatch h.sub p List.mem_cons_self
 | .place _,p,ps,h=>nomatch h.sub p List.mem_cons_self
 | .aa b,p,ps,h=>by
  obtain⟨q,rfl,hq⟩:=dw.mp (h.sub p List.mem_cons_self)
  have hd:FC b (q::aG 0 ps):=by
   have h1:=jt (n:=0) h.nd
   have h2:=lq (n:=0) h.desc
   rw[bJ] at h1 h2
   refine⟨fun r hr=>?_,h1,h2⟩
   rw[<-bJ] at hr
   obtain⟨r',e,h3⟩:=dw.mp (h.sub _ (aW.mp hr))
   cases e
   exact h3
  obtain⟨b',h1,h2,h3,h4,h5,_⟩:=fv b q (aG 0 ps) hd
  refine⟨.aa b',?_,⟨fun r hr=>?_,(List.nodup_cons.mp h.nd).2,(List.pairwise_cons.mp h.desc).2⟩,?_,?_,?_,fun _=>rfl⟩
  ·show(if (0:Int)=0 then (aV b q).map T.aa else none)=_
   rw[if_pos rfl,h1]
   rfl
  ·obtain⟨r',e,h6⟩:=dw.mp (h.sub r (List.mem_cons_of_mem _ hr))
   refine dw.mpr ⟨r',e,h2.sub r' (aW.mpr ?_)⟩
   rw[<-e]
   exact hr
  ·show T.aa _=T.aa _
   rw[bJ,h3]
  ·show uz b' _+1<=uz b _+1
   rw[bJ]
   exact Nat.succ_le_succ h4
  ·show ud b' _+1<=ud b _+1
   rw[bJ]
   exact Nat.succ_le_succ h5
 | .call a b,p,ps,h=>by
  have wC:∀r∈ps,r∈(T.call a b).ao:=fun r hr=>h.sub r (List.mem_cons_of_mem _ hr)
  have Qu:=(List.nodup_cons.mp h.nd).2
  have Gv:=(List.pairwise_cons.mp h.desc).2
  rcases bD.mp (h.sub p List.mem_cons_self) with⟨rfl,hf⟩|⟨q,rfl,hq⟩|⟨q,rfl,hq⟩
  ·have e0:ps=[]:=by
    cases ps with
    |nil=>rfl
    |cons r BN=>
     have h1:=(List.pairwise_cons.mp h.desc).1 r List.mem_cons_self
     have h2:r=[]:=List.eq_nil_of_length_eq_zero (Nat.le_zero.mp h1)
     exact absurd (by rw[h2];exact List.mem_cons_self) (List.nodup_cons.mp h.nd).1
   subst e0
   cases a with
   |name _=>cases hf
   |place _=>cases hf
   |call _ _=>cases hf
   |aa c=>
    refine⟨c.fill b,rfl,⟨(fun r hr=>nomatch hr),List.nodup_nil,List.Pairwise.nil⟩,?_,?_,?_,fun z=>absurd rfl z⟩
    ·rw[eV]
     show _=if ([]:List Int)∈[[]] then (match T.aa (dv c []) with| .aa c=>c.fill (dv b [])|a'=> .call a' (dv b [])) else _
     rw[if_pos (List.mem_singleton.mpr rfl),eV,eV]
    ·have h1:=kJ (c.fill b)
     have h2:(c.fill b).size<=c.size*b.size:=i6 b c 0
     have h3:uz (.call (.aa c) b) [[]]=(uz c []+1)*uz b []:=by
      show(if ([]:List Int)∈[[]] then _ else _)=_
      rw[if_pos (List.mem_singleton.mpr rfl)]
      rfl
     have h4:=mN c []
     have h5:=mN b []
     rw[h1,h3]
     have h6:(c.size+1+1)*(b.size+1)<=(uz c []+1)*uz b []:=Nat.mul_le_mul (by omega) h5
     rw[Nat.add_mul,Nat.add_mul,Nat.mul_add] at h6
     omega
    ·have h1:=tF (c.fill b)
     have h2:(c.fill b).deep<=c.deep+b.deep:=i7 b c 0
     have h3:ud (.call (.aa c) b) [[]]=(ud c []+1)+ud b []:=by
      show(if ([]:List Int)∈[[]] then _ else _)=_
      rw[if_pos (List.mem_singleton.mpr rfl)]
      rfl
     have h4:=nM c []
     have h5:=nM b []
     rw[h1,h3]
     omega
  ·have hd:FC a (q::aG 0 ps):=by
    have h1:=jt (n:=0) h.nd
    have h2:=lq (n:=0) h.desc
    rw[bJ] at h1 h2
    refine⟨fun r hr=>?_,h1,h2⟩
    rw[<-bJ] at hr
    rcases bD.mp (h.sub _ (aW.mp hr)) with⟨e,_⟩|⟨r',e,h3⟩|⟨r',e,h3⟩
    ·cases e
    ·cases e;exact h3
    ·injection e with e _;exact absurd e (by decide)
   obtain⟨a',h1,h2,h3,h4,h5,h6⟩:=fv a q (aG 0 ps) hd
   have qf:([]:List Int)∈(0::q)::ps↔([]:List Int)∈ps:=by simp
   have CB:a.bx=true->a'.bx=true:=fun hf=>by
    have lF:q≠[]:=fun z=>by
     rw[z] at hq
     cases a with
     |name _=>cases hf
     |place _=>cases hf
     |call _ _=>cases hf
     |aa c=>
      obtain⟨r,e,_⟩:=dw.mp hq
      cases e
    rw[<-h6 lF]
    exact hf
   refine⟨.call a' b,?_,⟨fun r hr=>?_,Qu,Gv⟩,?_,?_,?_,fun _=>rfl⟩
   ·have e:aV (.call a b) (0::q)=(aV a q).map (.call · b):=by cases a<;>rfl
    rw[e,h1]
    rfl
   ·rcases bD.mp (wC r hr) with⟨e,hf⟩|⟨r',e,h7⟩|⟨r',e,h7⟩
    ·exact bD.mpr (.inl ⟨e,CB hf⟩)
    ·exact bD.mpr (.inr (.inl ⟨r',e,h2.sub r' (aW.mpr (by rw[<-e];exact hr))⟩))
    ·exact bD.mpr (.inr (.inr ⟨r',e,h7⟩))
   ·show(if []∈ps then _ else _)=(if []∈(0::q)::ps then _ else _)
    rw[bJ,gZ (by decide),h3]
    by_cases hn:([]:List Int)∈ps
    ·rw[if_pos hn,if_pos (qf.mpr hn)]
    ·rw[if_neg hn,if_neg fun z=>hn (qf.mp z)]
   ·show(if []∈ps then _ else _)<=(if []∈(0::q)::ps then _ else _)
    rw[bJ,gZ (by decide)]
    by_cases hn:([]:List Int)∈ps
    ·rw[if_pos hn,if_pos (qf.mpr hn)]
     exact Nat.mul_le_mul_right _ h4
    ·rw[if_neg hn,if_neg fun z=>hn (qf.mp z)]
     omega
   ·show(if []∈ps then _ else _)<=(if []∈(0::q)::ps then _ else _)
    rw[bJ,gZ (by decide)]
    by_cases hn:([]:List Int)∈ps
    ·rw[if_pos hn,if_pos (qf.mpr hn)]
     omega
    ·rw[if_neg hn,if_neg fun z=>hn (qf.mp z)]
     omega
  ·have hd:FC b (q::aG 1 ps):=by
    have h1:=jt (n:=1) h.nd
    have h2:=lq (n:=1) h.desc
    rw[bJ] at h1 h2
    refine⟨fun r hr=>?_,h1,h2⟩
    rw[<-bJ] at hr
    rcases bD.mp (h.sub _ (aW.mp hr)) with⟨e,_⟩|⟨r',e,h3⟩|⟨r',e,h3⟩
    ·cases e
    ·injection e with e _;exact absurd e (by decide)
    ·cases e;exact h3
   obtain⟨b',h1,h2,h3,h4,h5,h6⟩:=fv b q (aG 1 ps) hd
   have qf:([]:List Int)∈(1::q)::ps↔([]:List Int)∈ps:=by simp
   refine⟨.call a b',?_,⟨fun r hr=>?_,Qu,Gv⟩,?_,?_,?_,fun _=>rfl⟩
   ·have e:aV (.call a b) (1::q)=(aV b q).map (.call a ·):=by cases a<;>rfl
    rw[e,h1]
    rfl
   ·rcases bD.mp (wC r hr) with⟨e,hf⟩|⟨r',e,h7⟩|⟨r',e,h7⟩
    ·exact bD.mpr (.inl ⟨e,hf⟩)
    ·exact bD.mpr (.inr (.inl ⟨r',e,h7⟩))
    ·exact bD.mpr (.inr (.inr ⟨r',e,h2.sub r' (aW.mpr (by rw[<-e];exact hr))⟩))
   ·show(if []∈ps then _ else _)=(if []∈(1::q)::ps then _ else _)
    rw[bJ,gZ (by decide),h3]
    by_cases hn:([]:List Int)∈ps
    ·rw[if_pos hn,if_pos (qf.mpr hn)]
    ·rw[if_neg hn,if_neg fun z=>hn (qf.mp z)]
   ·show(if []∈ps then _ else _)<=(if []∈(1::q)::ps then _ else _)
    rw[bJ,gZ (by decide)]
    by_cases hn:([]:List Int)∈ps
    ·rw[if_pos hn,if_pos (qf.mpr hn)]
     exact Nat.mul_le_mul_left _ h4
    ·rw[if_neg hn,if_neg fun z=>hn (qf.mp z)]
     omega
   ·show(if []∈ps then _ else _)<=(if []∈(1::q)::ps then _ else _)
    rw[bJ,gZ (by decide)]
    by_cases hn:([]:List Int)∈ps
    ·rw[if_pos hn,if_pos (qf.mpr hn)]
     omega
    ·rw[if_neg hn,if_neg fun z=>hn (qf.mp z)]
     omega
where
 kJ:∀t:T W,uz t []=t.size+1
  | .name _=>rfl
  | .place _=>rfl
  | .aa b=>by show uz b []+1=b.size+1+1;rw[kJ b]
  | .call a b=>by
   show(if ([]:List Int)∈[] then _ else uz a []+uz b [])=a.size+b.size+1+1
   rw[if_neg (by simp),kJ a,kJ b]
   omega
 tF:∀t:T W,ud t []=t.deep
  | .name _=>rfl
  | .place _=>rfl
  | .aa b=>by show ud b []+1=b.deep+1;rw[tF b]
  | .call a b=>by
   show(if ([]:List Int)∈[] then _ else max (ud a []) (ud b [])+1)=max a.deep b.deep+1
   rw[if_neg (by simp),tF a,tF b]
theorem ow{t:T W}{p:List Int}(h:p∈t.ao):∃r,aV t p=some r:=by
 obtain⟨t',e,_⟩:=fv t p [] ⟨fun q hq=>by rw[List.mem_singleton.mp hq];exact h,by simp,by simp⟩
 exact⟨t',e⟩
def wU:T W->List (List Int)->Option (T W)
 |t,[]=>some t
 |t,p::ps=>(aV t p).bind (wU · ps)
theorem y9:∀(ps:List (List Int)) (t:T W),FC t ps->wU t ps=some (dv t ps)
 |[],t,_=>by show some t=_;rw[eV]
 |p::ps,t,h=>by
  obtain⟨t',h1,h2,h3,_⟩:=fv t p ps h
  show(aV t p).bind _=_
  rw[h1,<-h3]
  exact y9 ps t' h2
def cX(m:Nat)(S:List (Fm W)):Prop:=∀f∈S,f.sP<=m
theorem cX.cons{m:Nat}{f:Fm W}{S:List (Fm W)}(h:f.sP<=m)(s:cX m S):cX m (f::S):=fun g hg=>by
 rcases List.mem_cons.mp hg with e|e
 ·rw[e];exact h
 ·exact s g e
theorem cX.tail{m:Nat}{f:Fm W}{S:List (Fm W)}(s:cX m (f::S)):cX m S:=fun g hg=>s g (List.mem_cons_of_mem _ hg)
theorem cX.head{m:Nat}{f:Fm W}{S:List (Fm W)}(s:cX m (f::S)):f.sP<=m:=s f List.mem_cons_self
theorem xS:∀(t:T W) (n:Int),(child t n).deep<=t.deep
 | .name _,_=>Nat.le_refl _
 | .place _,_=>Nat.le_refl _
 | .aa b,_=>by show b.deep<=b.deep+1;omega
 | .call a b,n=>by
  show(if n=0 then a else b).deep<=max a.deep b.deep+1
  split<;>omega
theorem xJ:∀(t:T W) (n:Int),(frame t n).sP<=t.deep
 | .name _,_=>Nat.zero_le _
 | .place _,_=>Nat.zero_le _
 | .aa b,_=>Nat.zero_le _
 | .call a b,n=>by
  show(if n=0 then Fm.one b else Fm.other a).sP<=max a.deep b.deep+1
  split
  ·show b.deep<=_;omega
  ·show a.deep<=_;omega
end
end NC
namespace NC
section
variable {W:Type}
theorem p6(c k:Nat):∀(t:T W) (d e:Nat),d<=e->e<=c+d->(t.ae (aO c) d).ae (aO k) e=t.ae (aO (k+c)) d
 | .name _,_,_,_,_=>rfl
 | .place n,d,e,h1,h2=>by
  show T.ae (aO k) e (if d<=n then T.place (n+c) else T.place n:T W)=(if d<=n then T.place (n+(k+c)) else T.place n)
  by_cases h:d<=n
  ·rw[if_pos h,if_pos h]
   show(if e<=n+c then T.place (n+c+k) else T.place (n+c):T W)=_
   rw[if_pos (by omega),show n+c+k=n+(k+c) by omega]
  ·rw[if_neg h,if_neg h]
   show(if e<=n then T.place (n+k) else T.place n:T W)=_
   rw[if_neg (by omega)]
 | .aa b,d,e,h1,h2=>by
  show T.aa _=T.aa _
  rw[p6 c k b (d+1) (e+1) (by omega) (by omega)]
 | .call a b,d,e,h1,h2=>by
  show T.call _ _=T.call _ _
  rw[p6 c k a d e h1 h2,p6 c k b d e h1 h2]
theorem kU(j m k:Nat):∀(t:T W) (c:Nat),(t.ae (aO j) c).ae (aO m) (k+j+c)=(t.ae (aO m) (k+c)).ae (aO j) c
 | .name _,_=>rfl
 | .place n,c=>by
  show T.ae (aO m) (k+j+c) (if c<=n then T.place (n+j) else T.place n:T W)=T.ae (aO j) c (if k+c<=n then T.place (n+m) else T.place n:T W)
  by_cases h:c<=n
  ·rw[if_pos h]
   show(if k+j+c<=n+j then T.place (n+j+m) else T.place (n+j):T W)=_
   by_cases h2:k+c<=n
   ·rw[if_pos (by omega),if_pos h2]
    show _=(if c<=n+m then T.place (n+m+j) else T.place (n+m):T W)
    rw[if_pos (by omega),show n+j+m=n+m+j by omega]
   ·rw[if_neg (by omega),if_neg h2]
    show _=(if c<=n then T.place (n+j) else T.place n:T W)
    rw[if_pos h]
  ·rw[if_neg h,if_neg (by omega)]
   show(if k+j+c<=n then T.place (n+m) else T.place n:T W)=(if c<=n then T.place (n+j) else T.place n)
   rw[if_neg (by omega),if_neg h]
 | .aa b,c=>by
  show T.aa _=T.aa _
  rw[show k+j+c+1=k+j+(c+1) by omega,kU j m k b (c+1)]
  rfl
 | .call a b,c=>by
  show T.call _ _=T.call _ _
  rw[kU j m k a c,kU j m k b c]
theorem jw(m k:Nat)(u:T W):∀(t:T W) (j:Nat),(t.ae (aK u) j).ae (aO m) (k+j)=(t.ae (aO m) (k+1+j)).ae (aK (u.ae (aO m) k)) j
 | .name _,_=>rfl
 | .place n,j=>by
  show T.ae (aO m) (k+j) (if n < j then T.place n else if n=j then u.lift j else T.place (n - 1):T W)=T.ae (aK (u.ae (aO m) k)) j (if k+1+j<=n then T.place (n+m) else T.place n:T W)
  by_cases h1:n < j
  ·rw[if_pos h1,if_neg (by omega)]
   show(if k+j<=n then T.place (n+m) else T.place n:T W)=(if n < j then T.place n else _)
   rw[if_neg (by omega),if_pos h1]
  ·rw[if_neg h1]
   by_cases h2:n=j
   ·rw[if_pos h2,if_neg (by omega)]
    show(u.ae (aO j) 0).ae (aO m) (k+j)=(if n < j then T.place n else if n=j then (u.ae (aO m) k).lift j else T.place (n - 1):T W)
    rw[if_neg h1,if_pos h2]
    exact kU j m k u 0
   ·rw[if_neg h2]
    show(if k+j<=n - 1 then T.place (n - 1+m) else T.place (n - 1):T W)=_
    by_cases h3:k+1+j<=n
    ·rw[if_pos (by omega),if_pos h3]
     show _=(if n+m < j then T.place (n+m) else if n+m=j then _ else T.place (n+m - 1):T W)
     rw[if_neg (by omega),if_neg (by omega),show n - 1+m=n+m - 1 by omega]
    ·rw[if_neg (by omega),if_neg h3]
     show _=(if n < j then T.place n else if n=j then _ else T.place (n - 1):T W)
     rw[if_neg h1,if_neg h2]
 | .aa b,j=>by
  show T.aa _=T.aa _
  rw[show k+j+1=k+(j+1) by omega,jw m k u b (j+1)]
  rfl
 | .call a b,j=>by
  show T.call _ _=T.call _ _
  rw[jw m k u a j,jw m k u b j]
theorem lj(k:Nat)(v:T W):∀(t:T W) (c e:Nat),c<=e->e<=k+c->(t.ae (aO (k+1)) c).ae (aK v) e=t.ae (aO k) c
 | .name _,_,_,_,_=>rfl
 | .place n,c,e,h1,h2=>by
  show T.ae (aK v) e (if c<=n then T.place (n+(k+1)) else T.place n:T W)=(if c<=n then T.place (n+k) else T.place n)
  by_cases h:c<=n
  ·rw[if_pos h,if_pos h]
   show(if n+(k+1) < e then T.place (n+(k+1)) else if n+(k+1)=e then _ else T.place (n+(k+1) - 1):T W)=_
   rw[if_neg (by omega),if_neg (by omega),show n+(k+1) - 1=n+k by omega]
  ·rw[if_neg h,if_neg h]
   show(if n < e then T.place n else _:T W)=_
   rw[if_pos (by omega)]
 | .aa b,c,e,h1,h2=>by
  show T.aa _=T.aa _
  rw[lj k v b (c+1) (e+1) (by omega) (by omega)]
 | .call a b,c,e,h1,h2=>by
  show T.call _ _=T.call _ _
  rw[lj k v a c e h1 h2,lj k v b c e h1 h2]
theorem qi(j k:Nat)(w:T W):∀(t:T W) (c:Nat),(t.ae (aO j) c).ae (aK w) (k+j+c)=(t.ae (aK w) (k+c)).ae (aO j) c
 | .name _,_=>rfl
 | .place n,c=>by
  show T.ae (aK w) (k+j+c) (if c<=n then T.place (n+j) else T.place n:T W)=T.ae (aO j) c (if n < k+c then T.place n else if n=k+c then w.lift (k+c) else T.place (n - 1):T W)
  by_cases h:c<=n
  ·rw[if_pos h]
   show(if n+j < k+j+c then T.place (n+j) else if n+j=k+j+c then w.lift (k+j+c) else T.place (n+j - 1):T W)=_
   by_cases h2:n < k+c
   ·rw[if_pos (by omega),if_pos h2]
    show _=(if c<=n then T.place (n+j) else T.place n:T W)
    rw[if_pos h]
   ·rw[if_neg (by omega),if_neg h2]
    by_cases h3:n=k+c
    ·rw[if_pos (by omega),if_pos h3]
     show w.ae (aO (k+j+c)) 0=(w.ae (aO (k+c)) 0).ae (aO j) c
     rw[p6 (k+c) j w 0 c (by omega) (by omega),show j+(k+c)=k+j+c by omega]
    ·rw[if_neg (by omega),if_neg h3]
     show _=(if c<=n - 1 then T.place (n - 1+j) else T.place (n - 1):T W)
     rw[if_pos (by omega),show n - 1+j=n+j - 1 by omega]
  ·rw[if_neg h,if_pos (by omega)]
   show(if n < k+j+c then T.place n else _:T W)=(if c<=n then T.place (n+j) else T.place n)
   rw[if_pos (by omega),if_neg h]
 | .aa b,c=>by
  show T.aa _=T.aa _
  rw[show k+j+c+1=k+j+(c+1) by omega,qi j k w b (c+1)]
  rfl
 | .call a b,c=>by
  show T.call _ _=T.call _ _
  rw[qi j k w a c,qi j k w b c]
theorem jC(k:Nat)(v w:T W):∀(t:T W) (j:Nat),(t.ae (aK v) j).ae (aK w) (k+j)=(t.ae (aK w) (k+1+j)).ae (aK (v.ae (aK w) k)) j
 | .name _,_=>rfl
 | .place n,j=>by
  show T.ae (aK w) (k+j) (if n < j then T.place n else if n=j then v.lift j else T.place (n - 1):T W)=T.ae (aK (v.ae (aK w) k)) j (if n < k+1+j then T.place n else if n=k+1+j then w.lift (k+1+j) else T.place (n - 1):T W)
  by_cases h1:n < j
  ·rw[if_pos h1,if_pos (by omega)]
   show(if n < k+j then T.place n else _:T W)=(if n < j then T.place n else _)
   rw[if_pos (by omega),if_pos h1]
  ·rw[if_neg h1]
   by_cases h2:n=j
   ·rw[if_pos h2,if_pos (by omega)]
    show(v.ae (aO j) 0).ae (aK w) (k+j)=(if n < j then T.place n else if n=j then (v.ae (aK w) k).lift j else T.place (n - 1):T W)
    rw[if_neg h1,if_pos h2]
    exact qi j k w v 0
   ·rw[if_neg h2]
    show(if n - 1 < k+j then T.place (n - 1) else if n - 1=k+j then w.lift (k+j) else T.place (n - 1 - 1):T W)=_
    by_cases h3:n < k+1+j
    ·rw[if_pos (by omega),if_pos h3]
     show _=(if n < j then T.place n else if n=j then _ else T.place (n - 1):T W)
     rw[if_neg h1,if_neg h2]
    ·rw[if_neg (by omega),if_neg h3]
     by_cases h4:n=k+1+j
     ·rw[if_pos (by omega),if_pos h4]
      show w.ae (aO (k+j)) 0=(w.ae (aO (k+1+j)) 0).ae (aK (v.ae (aK w) k)) j
      rw[show k+1+j=(k+j)+1 by omega,lj (k+j) _ w 0 j (by omega) (by omega)]
     ·rw[if_neg (by omega),if_neg h4]
      show _=(if n - 1 < j then T.place (n - 1) else if n - 1=j then _ else T.place (n - 1 - 1):T W)
      rw[if_neg (by omega),if_neg (by omega)]
 | .aa b,j=>by
  show T.aa _=T.aa _
  rw[show k+j+1=k+(j+1) by omega,jC k v w b (j+1)]
  rfl
 | .call a b,j=>by
  show T.call _ _=T.call _ _
  rw[jC k v w a j,jC k v w b j]
end
end NC
namespace NM
inductive T(W:Type) where
 |name (w:W)
 |place (n:Nat)
 |aa (b:T W)
 |call (m:Bool) (a b:T W)
section
variable {W:Type}
def T.un:T W->NC.T W
 | .name w=> .name w
 | .place n=> .place n
 | .aa b=> .aa b.un
 | .call _ a b=> .call a.un b.un
def um:NC.T W->T W
 | .name w=> .name w
 | .place n=> .place n
 | .aa b=> .aa (um b)
 | .call a b=> .call false (um a) (um b)
theorem mE:∀t:NC.T W,(um t).un=t
 | .name _=>rfl
 | .place _=>rfl
 | .aa b=>congrArg NC.T.aa (mE b)
 | .call a b=>by show NC.T.call _ _=_;rw[mE a,mE b]
def T.size(t:T W):Nat:=t.un.size
def T.deep(t:T W):Nat:=t.un.deep
theorem T.size_pos(t:T W):1<=t.size:=t.un.size_pos
theorem T.fw(t:T W):t.deep<=t.size:=NC.T.fw t.un
def T.ae(g:T W->Nat->T W):Nat->T W->T W
 |k,.name w=>g (.name w) k
 |k,.place n=>g (.place n) k
 |k,.aa b=> .aa (b.ae g (k+1))
 |k,.call m a b=> .call m (a.ae g k) (b.ae g k)
def aO(Jb:Nat):T W->Nat->T W
 | .place n,k=>if k<=n then .place (n+Jb) else .place n
 |t,_=>t
def T.lift(Jb:Nat)(t:T W):T W:=t.ae (aO Jb) 0
def aK(u:T W):T W->Nat->T W
 | .place n,k=>if n < k then .place n else if n=k then u.lift k else .place (n - 1)
 |t,_=>t
def T.fill(t u:T W):T W:=t.ae (aK u) 0
theorem pS(m:Nat):∀(t:T W) (k:Nat),(t.ae (aO m) k).un=t.un.ae (NC.aO m) k
 | .name _,_=>rfl
 | .place n,k=>by
  show(if k<=n then T.place (n+m) else T.place n:T W).un=(if k<=n then NC.T.place (n+m) else NC.T.place n)
  split<;>rfl
 | .aa b,k=>congrArg NC.T.aa (pS m b (k+1))
 | .call _ a b,k=>by show NC.T.call _ _=NC.T.call _ _;rw[pS m a k,pS m b k]
theorem mF(u:T W):∀(t:T W) (k:Nat),(t.ae (aK u) k).un=t.un.ae (NC.aK u.un) k
 | .name _,_=>rfl
 | .place n,k=>by
  show(if n < k then T.place n else if n=k then u.lift k else T.place (n - 1):T W).un=(if n < k then NC.T.place n else if n=k then u.un.lift k else NC.T.place (n - 1))
  split
  ·rfl
  ·split
   ·exact pS k u 0
   ·rfl
 | .aa b,k=>congrArg NC.T.aa (mF u b (k+1))
 | .call _ a b,k=>by show NC.T.call _ _=NC.T.call _ _;rw[mF u a k,mF u b k]
theorem DQ(t u:T W):(t.fill u).un=t.un.fill u.un:=mF u t 0
def wm:T W->Prop
 | .name _=>True
 | .place _=>True
 | .aa b=>wm b
 | .call m a b=>wm a/\wm b/\(m=true->∃c,a= .aa c)
def fd:T W->NC.T W
 | .name w=> .name w
 | .place n=> .place n
 | .aa b=> .aa (fd b)
 | .call true (.aa c) b=>(fd c).fill (fd b)
 | .call _ a b=> .call (fd a) (fd b)
theorem gN(a b:T W):fd (.call false a b)= .call (fd a) (fd b):=by cases a<;>rfl
theorem pR(m:Nat):∀(t:T W) (k:Nat),wm t->wm (t.ae (aO m) k)
 | .name _,_,_=>trivial
 | .place n,k,_=>by
  show wm (if k<=n then T.place (n+m) else T.place n:T W)
  split<;>trivial
 | .aa b,k,h=>pR m b (k+1) h
 | .call mk a b,k,h=>⟨pR m a k h.1,pR m b k h.2.1,fun e=>by
  obtain⟨c,rfl⟩:=h.2.2 e
  exact⟨_,rfl⟩⟩
theorem mC(u:T W)(hu:wm u):∀(t:T W) (k:Nat),wm t->wm (t.ae (aK u) k)
 | .name _,_,_=>trivial
 | .place n,k,_=>by
  show wm (if n < k then T.place n else if n=k then u.lift k else T.place (n - 1):T W)
  split
  ·trivial
  ·split
   ·exact pR k u 0 hu
   ·trivial
 | .aa b,k,h=>mC u hu b (k+1) h
 | .call mk a b,k,h=>⟨mC u hu a k h.1,mC u hu b k h.2.1,fun e=>by
  obtain⟨c,rfl⟩:=h.2.2 e
  exact⟨_,rfl⟩⟩
theorem lp(m:Nat):∀(t:T W) (k:Nat),wm t->fd (t.ae (aO m) k)=(fd t).ae (NC.aO m) k
 | .name _,_,_=>rfl
 | .place n,k,_=>by
  show fd (if k<=n then T.place (n+m) else T.place n:T W)=(if k<=n then NC.T.place (n+m) else NC.T.place n)
  split<;>rfl
 | .aa b,k,h=>congrArg NC.T.aa (lp m b (k+1) h)
 | .call false a b,k,h=>by
  show fd (T.call false _ _)=_
  rw[gN,gN,lp m a k h.1,lp m b k h.2.1]
  rfl
 | .call true (.aa c) b,k,h=>by
  show(fd (c.ae (aO m) (k+1))).fill (fd (b.ae (aO m) k))=NC.T.ae (NC.aO m) k ((fd c).fill (fd b))
  rw[lp m c (k+1) h.1,lp m b k h.2.1]
  exact(NC.jw m k (fd b) (fd c) 0).symm
 | .call true (.name _) b,k,h=>by obtain⟨c,e⟩:=h.2.2 rfl;cases e
 | .call true (.place _) b,k,h=>by obtain⟨c,e⟩:=h.2.2 rfl;cases e
 | .call true (.call _ _ _) b,k,h=>by obtain⟨c,e⟩:=h.2.2 rfl;cases e
theorem i8(u:T W)(hu:wm u):∀(t:T W) (k:Nat),wm t->fd (t.ae (aK u) k)=(fd t).ae (NC.aK (fd u)) k
 | .name _,_,_=>rfl
 | .place n,k,_=>by
  show fd (if n < k then T.place n else if n=k then u.lift k else T.place (n - 1):T W)=(if n < k then NC.T.place n else if n=k then (fd u).lift k else NC.T.place (n - 1))
  split
  ·rfl
  ·split
   ·exact lp k u 0 hu
   ·rfl
 | .aa b,k,h=>congrArg NC.T.aa (i8 u hu b (k+1) h)
 | .call false a b,k,h=>by
  show fd (T.call false _ _)=_
  rw[gN,gN,i8 u hu a k h.1,i8 u hu b k h.2.1]
  rfl
 | .call true (.aa c) b,k,h=>by
  show(fd (c.ae (aK u) (k+1))).fill (fd (b.ae (aK u) k))=NC.T.ae (NC.aK (fd u)) k ((fd c).fill (fd b))
  rw[i8 u hu c (k+1) h.1,i8 u hu b k h.2.1]
  exact(NC.jC k (fd b) (fd u) (fd c) 0).symm
 | .call true (.name _) b,k,h=>by obtain⟨c,e⟩:=h.2.2 rfl;cases e
 | .call true (.place _) b,k,h=>by obtain⟨c,e⟩:=h.2.2 rfl;cases e
 | .call true (.call _ _ _) b,k,h=>by obtain⟨c,e⟩:=h.2.2 rfl;cases e
open NC (aG aW)
def dv:T W->List (List Int)->T W
 | .name w,_=> .name w
 | .place n,_=> .place n
 | .aa b,P=> .aa (dv b (aG 0 P))
 | .call m a b,P=>if []∈P then (match dv a (aG 0 P) with| .aa c=>c.fill (dv b (aG 1 P))|a'=> .call m a' (dv b (aG 1 P))) else .call m (dv a (aG 0 P)) (dv b (aG 1 P))
def mk:T W->List (List Int)->T W
 | .name w,_=> .name w
 | .place n,_=> .place n
 | .aa b,P=> .aa (mk b (aG 0 P))
 | .call m a b,P=> .call (m||decide ([]∈P)) (mk a (aG 0 P)) (mk b (aG 1 P))
def marks:T W->List (List Int)
 | .name _=>[]
 | .place _=>[]
 | .aa b=>(marks b).map (0::·)
 | .call m a b=>(if m=true then [[]] else [])++((marks a).map (0::·)++(marks b).map (1::·))
theorem o9:∀(t:T W) (P:List (List Int)),(mk t P).un=t.un
 | .name _,_=>rfl
 | .place _,_=>rfl
 | .aa b,P=>congrArg NC.T.aa (o9 b _)
 | .call _ a b,P=>by show NC.T.call _ _=NC.T.call _ _;rw[o9 a,o9 b]
theorem u9:∀(t:T W) (P:List (List Int)),(dv t P).un=NC.dv t.un P
 | .name _,_=>rfl
 | .place _,_=>rfl
 | .aa b,P=>congrArg NC.T.aa (u9 b _)
 | .call m a b,P=>by
  show(if []∈P then (match dv a (aG 0 P) with| .aa c=>c.fill (dv b (aG 1 P))|a'=> .call m a' (dv b (aG 1 P))) else .call m (dv a (aG 0 P)) (dv b (aG 1 P)):T W).un=(if []∈P then (match NC.dv a.un (aG 0 P) with| .aa c=>c.fill (NC.dv b.un (aG 1 P))|a'=> .call a' (NC.dv b.un (aG 1 P))) else .call (NC.dv a.un (aG 0 P)) (NC.dv b.un (aG 1 P)))
  rw[<-u9 a,<-u9 b]
  split
  ·cases dv a (aG 0 P) with
   |aa c=>exact DQ c _
   |_=>rfl
  ·rfl
theorem kc{b:NC.T W}{P:List (List Int)}(h:∀p∈P,p∈(NC.T.aa b).ao):∀p∈aG 0 P,p∈b.ao:=fun p hp=>by
 obtain⟨q,e,hq⟩:=NC.dw.mp (h _ (aW.mp hp))
 cases e
 exact hq
theorem sub_one{a b:NC.T W}{P:List (List Int)}(h:∀p∈P,p∈(NC.T.call a b).ao):∀p∈aG 0 P,p∈a.ao:=fun p hp=>by
 rcases NC.bD.mp (h _ (aW.mp hp)) with⟨e,_⟩|⟨q,e,hq⟩|⟨q,e,hq⟩
 ·cases e
 ·cases e;exact hq
 ·injection e with e _;exact absurd e (by decide)
theorem ou{a b:NC.T W}{P:List (List Int)}(h:∀p∈P,p∈(NC.T.call a b).ao):∀p∈aG 1 P,p∈b.ao:=fun p hp=>by
 rcases NC.bD.mp (h _ (aW.mp hp)) with⟨e,_⟩|⟨q,e,hq⟩|⟨q,e,hq⟩
 ·cases e
 ·injection e with e _;exact absurd e (by decide)
 ·cases e;exact hq
theorem yU{a:T W}{b:NC.T W}{P:List (List Int)}(h:∀p∈P,p∈(NC.T.call a.un b).ao)(hn:([]:List Int)∈P):∃c,a= .aa c:=by
 rcases NC.bD.mp (h [] hn) with⟨_,hf⟩|⟨q,e,_⟩|⟨q,e,_⟩
 ·cases a with
  |aa c=>exact⟨c,rfl⟩
  |_=>cases hf
 ·cases e
 ·cases e
theorem sk:∀(t:T W) (P:List (List Int)),wm t->(∀p∈P,p∈t.un.ao)->wm (mk t P)
 | .name _,_,_,_=>trivial
 | .place _,_,_,_=>trivial
 | .aa b,P,h,hs=>sk b _ h (kc hs)
 | .call m a b,P,h,hs=>⟨sk a _ h.1 (sub_one hs),sk b _ h.2.1 (ou hs),fun e=>by
  rcases Bool.or_eq_true_iff.mp e with e|e
  ·obtain⟨c,rfl⟩:=h.2.2 e
   exact⟨_,rfl⟩
  ·obtain⟨c,rfl⟩:=yU hs (of_decide_eq_true e)
   exact⟨_,rfl⟩⟩
theorem u3:∀t:NC.T W,wm (um t)
 | .name _=>trivial
 | .place _=>trivial
 | .aa b=>u3 b
 | .call a b=>⟨u3 a,u3 b,fun e=>nomatch e⟩
theorem qr:∀(t:T W) (P:List (List Int)),wm t->wm (dv t P)
 | .name _,_,_=>trivial
 | .place _,_,_=>trivial
 | .aa b,P,h=>qr b _ h
 | .call m a b,P,h=>by
  have h1:=qr a (aG 0 P) h.1
  have h2:=qr b (aG 1 P) h.2.1
  have hm:m=true->∃c,dv a (aG 0 P)= .aa c:=fun e=>by
   obtain⟨c,rfl⟩:=h.2.2 e
   exact⟨_,rfl⟩
  show wm (if []∈P then (match dv a (aG 0 P) with| .aa c=>c.fill (dv b (aG 1 P))|a'=> .call m a' (dv b (aG 1 P))) else .call m (dv a (aG 0 P)) (dv b (aG 1 P)):T W)
  split
  ·cases hd:dv a (aG 0 P) with
   |aa c=>
    rw[hd] at h1
    exact mC _ h2 c 0 h1
   |name w=>exact⟨trivial,h2,fun e=>by rw[hd] at hm;obtain⟨c,z⟩:=hm e;cases z⟩
   |place n=>exact⟨trivial,h2,fun e=>by rw[hd] at hm;obtain⟨c,z⟩:=hm e;cases z⟩
   |call m' x y=>exact⟨by rw[hd] at h1;exact h1,h2,fun e=>by rw[hd] at hm;obtain⟨c,z⟩:=hm e;cases z⟩
  ·exact⟨h1,h2,hm⟩
theorem yY:∀(t:T W) (P:List (List Int)),wm t->(∀p∈P,p∈t.un.ao)->fd (dv t P)=fd (mk t P)
 | .name _,_,_,_=>rfl
 | .place _,_,_,_=>rfl
 | .aa b,P,h,hs=>congrArg NC.T.aa (yY b _ h (kc hs))
 | .call m a b,P,h,hs=>by
  have e2:=yY b (aG 1 P) h.2.1 (ou hs)
  show fd (if []∈P then (match dv a (aG 0 P) with| .aa c=>c.fill (dv b (aG 1 P))|a'=> .call m a' (dv b (aG 1 P))) else .call m (dv a (aG 0 P)) (dv b (aG 1 P)):T W)=fd (.call (m||decide ([]∈P)) (mk a (aG 0 P)) (mk b (aG 1 P)))
  have e1:=yY a (aG 0 P) h.1 (sub_one hs)
  by_cases hn:([]:List Int)∈P
  ·rw[if_pos hn,decide_eq_true hn,Bool.or_true]
   obtain⟨c,rfl⟩:=yU hs hn
   show fd ((dv c (aG 0 (aG 0 P))).fill (dv b (aG 1 P)))=(fd (mk c (aG 0 (aG 0 P)))).fill (fd (mk b (aG 1 P)))
   have e1:NC.T.aa (fd (dv c (aG 0 (aG 0 P))))=NC.T.aa (fd (mk c (aG 0 (aG 0 P)))):=e1
   injection e1 with e1
   rw[<-e1,<-e2]
   exact i8 _ (qr b _ h.2.1) _ 0 (qr c _ h.1)
  ·rw[if_neg hn,decide_eq_false hn,Bool.or_false]
   cases m with
   |false=>rw[gN,gN,e1,e2]
   |true=>
    obtain⟨c,rfl⟩:=h.2.2 rfl
    have e1:NC.T.aa (fd (dv c (aG 0 (aG 0 P))))=NC.T.aa (fd (mk c (aG 0 (aG 0 P)))):=e1
    injection e1 with e1
    show(fd (dv c (aG 0 (aG 0 P)))).fill (fd (dv b (aG 1 P)))=(fd (mk c (aG 0 (aG 0 P)))).fill (fd (mk b (aG 1 P)))
    rw[e1,e2]
theorem kq{b:T W}{p:List Int}:p∈aG 0 (marks (.aa b))↔p∈marks b:=by
 rw[aW]
 show 0::p∈(marks b).map (0::·)↔_
 rw[List.mem_map]
 exact⟨fun⟨q,h,e⟩=>by injection e with _ e;rw[<-e];exact h,fun h=>⟨p,h,rfl⟩⟩
theorem fL{m:Bool}{a b:T W}{p:List Int}:p∈marks (.call m a b)↔(p=[]/\m=true) ∨ (∃q,p=0::q/\q∈marks a) ∨ ∃q,p=1::q/\q∈marks b:=by
 show p∈(if m=true then [[]] else [])++((marks a).map (0::·)++(marks b).map (1::·))↔_
 rw[List.mem_append,List.mem_append,List.mem_map,List.mem_map]
 constructor
 ·rintro(h|⟨q,h,e⟩|⟨q,h,e⟩)
  ·split at h
   ·rename_i hf
    exact .inl ⟨List.mem_singleton.mp h,hf⟩
   ·cases h
  ·exact .inr (.inl ⟨q,e.symm,h⟩)
  ·exact .inr (.inr ⟨q,e.symm,h⟩)
 ·rintro(⟨e,hf⟩|⟨q,e,h⟩|⟨q,e,h⟩)
  ·rw[if_pos hf,e]
   exact .inl (List.mem_singleton.mpr rfl)
  ·exact .inr (.inl ⟨q,h,e.symm⟩)
  ·exact .inr (.inr ⟨q,h,e.symm⟩)
theorem lM{m:Bool}{a b:T W}{p:List Int}:p∈aG 0 (marks (.call m a b))↔p∈marks a:=by
 rw[aW,fL]
 constructor
 ·rintro(⟨e,_⟩|⟨q,e,h⟩|⟨q,e,h⟩)
  ·cases e
  ·cases e;exact h
  ·injection e with e _;exact absurd e (by decide)
 ·exact fun h=> .inr (.inl ⟨p,rfl,h⟩)
theorem jM{m:Bool}{a b:T W}{p:List Int}:p∈aG 1 (marks (.call m a b))↔p∈marks b:=by
 rw[aW,fL]
 constructor
 ·rintro(⟨e,_⟩|⟨q,e,h⟩|⟨q,e,h⟩)
  ·cases e
  ·injection e with e _;exact absurd e (by decide)
  ·cases e;exact h
 ·exact fun h=> .inr (.inr ⟨p,rfl,h⟩)
theorem gO:∀t:T W,wm t->NC.dv t.un (marks t)=fd t
 | .name _,_=>rfl
 | .place _,_=>rfl
 | .aa b,h=>by
  show NC.T.aa (NC.dv b.un (aG 0 (marks (.aa b))))=NC.T.aa (fd b)
  rw[NC.df b.un _ (marks b) fun q=>kq,gO b h]
 | .call false a b,h=>by
  have hn:([]:List Int)∉marks (T.call false a b):=fun z=>by
   rcases fL.mp z with⟨_,e⟩|⟨q,e,_⟩|⟨q,e,_⟩<;>cases e
  show(if []∈marks (T.call false a b) then _ else NC.T.call (NC.dv a.un (aG 0 (marks (T.call false a b)))) (NC.dv b.un (aG 1 (marks (T.call false a b)))))=_
  rw[if_neg hn,NC.df a.un _ (marks a) fun q=>lM,NC.df b.un _ (marks b) fun q=>jM,gO a h.1,gO b h.2.1,gN]
 | .call true (.aa c) b,h=>by
  have hn:([]:List Int)∈marks (T.call true (.aa c) b):=fL.mpr (.inl ⟨rfl,rfl⟩)
  show(if []∈marks (T.call true (.aa c) b) then (NC.dv c.un (aG 0 (aG 0 (marks (T.call true (.aa c) b))))).fill (NC.dv b.un (aG 1 (marks (T.call true (.aa c) b)))) else _)=(fd c).fill (fd b)
  rw[if_pos hn,NC.df c.un _ (marks c) (fun q=>by rw[aW,lM,<-aW];exact kq),NC.df b.un _ (marks b) fun q=>jM,gO c h.1,gO b h.2.1]
 | .call true (.name _) b,h=>by obtain⟨c,e⟩:=h.2.2 rfl;cases e
 | .call true (.place _) b,h=>by obtain⟨c,e⟩:=h.2.2 rfl;cases e
 | .call true (.call _ _ _) b,h=>by obtain⟨c,e⟩:=h.2.2 rfl;cases e
theorem hW:∀t:T W,wm t->∀p∈marks t,p∈t.un.ao
 | .name _,_,p,hp=>nomatch hp
 | .place _,_,p,hp=>nomatch hp
 | .aa b,h,p,hp=>by
  obtain⟨q,hq,rfl⟩:=List.mem_map.mp (show p∈(marks b).map (0::·) from hp)
  exact NC.dw.mpr ⟨q,rfl,hW b h q hq⟩
 | .call m a b,h,p,hp=>by
  rcases fL.mp hp with⟨e,hm⟩|⟨q,e,hq⟩|⟨q,e,hq⟩
  ·obtain⟨c,rfl⟩:=h.2.2 hm
   exact NC.bD.mpr (.inl ⟨e,rfl⟩)
  ·exact NC.bD.mpr (.inr (.inl ⟨q,e,hW a h.1 q hq⟩))
  ·exact NC.bD.mpr (.inr (.inr ⟨q,e,hW b h.2.1 q hq⟩))
theorem gJ:∀(t:T W) (P:List (List Int)),(∀p∈P,p∈t.un.ao)->∀p,p∈marks (mk t P)↔p∈marks t ∨ p∈P
 | .name _,P,hs,p=>⟨(fun h=>nomatch h),(fun h=>Or.elim h (fun h=>nomatch h) fun h=>nomatch hs p h)⟩
 | .place _,P,hs,p=>⟨(fun h=>nomatch h),(fun h=>Or.elim h (fun h=>nomatch h) fun h=>nomatch hs p h)⟩
 | .aa b,P,hs,p=>by
  show p∈(marks (mk b (aG 0 P))).map (0::·)↔p∈(marks b).map (0::·) ∨ p∈P
  rw[List.mem_map,List.mem_map]
  constructor
  ·rintro⟨q,hq,rfl⟩
   rcases(gJ b (aG 0 P) (kc hs) q).mp hq with h|h
   ·exact .inl ⟨q,h,rfl⟩
   ·exact .inr (aW.mp h)
  ·rintro(⟨q,hq,rfl⟩|h)
   ·exact⟨q,(gJ b (aG 0 P) (kc hs) q).mpr (.inl hq),rfl⟩
   ·obtain⟨q,rfl,_⟩:=NC.dw.mp (hs p h)
    exact⟨q,(gJ b (aG 0 P) (kc hs) q).mpr (.inr (aW.mpr h)),rfl⟩
 | .call m a b,P,hs,p=>by
  show p∈marks (.call (m||decide ([]∈P)) (mk a (aG 0 P)) (mk b (aG 1 P)))↔_
  rw[fL,fL]
  have ha:=gJ a (aG 0 P) (sub_one hs)
  have hb:=gJ b (aG 1 P) (ou hs)
  constructor
  ·rintro(⟨rfl,e⟩|⟨q,rfl,h⟩|⟨q,rfl,h⟩)
   ·rcases Bool.or_eq_true_iff.mp e with e|e
    ·exact .inl (.inl ⟨rfl,e⟩)
    ·exact .inr (of_decide_eq_true e)
   ·rcases(ha q).mp h with h|h
    ·exact .inl (.inr (.inl ⟨q,rfl,h⟩))
    ·exact .inr (aW.mp h)
   ·rcases(hb q).mp h with h|h
    ·exact .inl (.inr (.inr ⟨q,rfl,h⟩))
    ·exact .inr (aW.mp h)
  ·rintro((⟨rfl,e⟩|⟨q,rfl,h⟩|⟨q,rfl,h⟩)|h)
   ·exact .inl ⟨rfl,by rw[e];rfl⟩
   ·exact .inr (.inl ⟨q,rfl,(ha q).mpr (.inl h)⟩)
   ·exact .inr (.inr ⟨q,rfl,(hb q).mpr (.inl h)⟩)
   ·rcases NC.bD.mp (hs p h) with⟨rfl,_⟩|⟨q,rfl,_⟩|⟨q,rfl,_⟩
    ·exact .inl ⟨rfl,by rw[decide_eq_true h,Bool.or_true]⟩
    ·exact .inr (.inl ⟨q,rfl,(ha q).mpr (.inr (aW.mpr h))⟩)
    ·exact .inr (.inr ⟨q,rfl,(hb q).mpr (.inr (aW.mpr h))⟩)
theorem ng:∀t:NC.T W,marks (um t)=[]
 | .name _=>rfl
 | .place _=>rfl
 | .aa b=>by show(marks (um b)).map _=[];rw[ng b];rfl
 | .call a b=>by
  show[]++((marks (um a)).map _++(marks (um b)).map _)=[]
  rw[ng a,ng b]
  rfl
theorem va(t:NC.T W)(A B:List (List Int))(hA:∀p∈A,p∈t.ao)(hB:∀p∈B,p∈t.ao):NC.dv (NC.dv t A) (marks (dv (mk (um t) B) A))=NC.dv t (A++B):=by
 have Q7:∀p∈A,p∈(mk (um t) B).un.ao:=by rw[o9,mE];exact hA
 have UX:∀p∈B,p∈(um t).un.ao:=by rw[mE];exact hB
 have w1:wm (mk (um t) B):=sk _ _ (u3 t) UX
 have e1:(dv (mk (um t) B) A).un=NC.dv t A:=by rw[u9,o9,mE]
 rw[<-e1,gO _ (qr _ _ w1),yY _ _ w1 Q7,<-gO _ (sk _ _ w1 Q7),o9,o9,mE]
 refine NC.df t _ _ fun q=>?_
 rw[gJ _ _ Q7,gJ _ _ UX,ng,List.mem_append]
 constructor
 ·rintro((h|h)|h)
  ·cases h
  ·exact .inr h
  ·exact .inl h
 ·rintro(h|h)
  ·exact .inr h
  ·exact .inl (.inr h)
end
end NM
namespace NC
section
variable {W:Type}
def Eo:T W->Nat->List (List Int)
 | .name _,_=>[]
 | .place n,k=>if n=k then [[]] else []
 | .aa b,k=>(Eo b (k+1)).map (0::·)
 | .call a b,k=>(Eo a k).map (0::·)++(Eo b k).map (1::·)
def uF:T W->List Int->T W
 | .call (.aa b) _,[]=>b
 | .aa b,_::p=>uF b p
 | .call a b,n::p=>if n=0 then uF a p else uF b p
 |t,_=>t
def HK(ps:List (List Int))(sp:List Int)(own:List (List Int)):List (List Int):=
 ps.filter (fun q=> !decide (q.take sp.length=sp))++((ps.filter (fun q=>decide (q.take (sp.length+1)=sp++[0]))).map (fun q=>sp++q.drop (sp.length+2))++
  own.flatMap (fun pl=>((ps.filter (fun q=>decide (q.take (sp.length+1)=sp++[1]))).map (fun q=>q.drop (sp.length+1))).map (fun r=>sp++pl++r)))
end
end NC
namespace NM
open NC (aG aW Eo HK uF)
section
variable {W:Type}
def aV:T W->List Int->Option (T W)
 | .call _ (.aa b) u,[]=>some (b.fill u)
 | .aa b,n::p=>if n=0 then (aV b p).map .aa else none
 | .call m a b,n::p=>if n=0 then (aV a p).map (.call m · b) else if n=1 then (aV b p).map (.call m a ·) else none
 |_,_=>none
theorem step_call(m:Bool)(a b:T W)(n:Int)(p:List Int):aV (.call m a b) (n::p)=if n=0 then (aV a p).map (.call m · b) else if n=1 then (aV b p).map (.call m a ·) else none:=by cases a<;>rfl
theorem eV:∀t:T W,dv t []=t
 | .name _=>rfl
 | .place _=>rfl
 | .aa b=>by show T.aa (dv b [])=_;rw[eV b]
 | .call m a b=>by
  show(if []∈([]:List (List Int)) then _ else T.call m (dv a []) (dv b []))=_
  rw[if_neg (by simp),eV a,eV b]
theorem df:∀(t:T W) (P P':List (List Int)),(∀q,q∈P↔q∈P')->dv t P=dv t P'
 | .name _,_,_,_=>rfl
 | .place _,_,_,_=>rfl
 | .aa b,P,P',h=>by
  show T.aa _=T.aa _
  rw[df b (aG 0 P) (aG 0 P') fun q=>by rw[aW,aW];exact h _]
 | .call m a b,P,P',h=>by
  have e1:=df a (aG 0 P) (aG 0 P') fun q=>by rw[aW,aW];exact h _
  have e2:=df b (aG 1 P) (aG 1 P') fun q=>by rw[aW,aW];exact h _
  show(if []∈P then _ else _)=(if []∈P' then _ else _)
  rw[e1,e2]
  by_cases hn:[]∈P
  ·rw[if_pos hn,if_pos ((h []).mp hn)]
  ·rw[if_neg hn,if_neg fun z=>hn ((h []).mpr z)]
theorem uA{n:Int}{t u:NC.T W}{p:List Int}{ps:List (List Int)}(h:NC.FC t ((n::p)::ps))(hs:∀q,n::q∈t.ao->q∈u.ao):NC.FC u (p::aG n ps):=by
 have h1:=NC.jt (n:=n) h.nd
 have h2:=NC.lq (n:=n) h.desc
 rw[NC.bJ] at h1 h2
 refine⟨fun r hr=>?_,h1,h2⟩
 rw[<-NC.bJ] at hr
 exact hs r (h.sub _ (aW.mp hr))
theorem fv:∀(t:T W) (p:List Int) (ps:List (List Int)),NC.FC t.un (p::ps)->∃t',aV t p=some t'/\dv t' ps=dv t (p::ps)
 | .name _,p,ps,h=>nomatch h.sub p List.mem_cons_self
 | .place _,p,ps,h=>nomatch h.sub p List.mem_cons_self
 | .aa b,p,ps,h=>by
  obtain⟨q,rfl,hq⟩:=NC.dw.mp (h.sub p List.mem_cons_self)
  obtain⟨b',h1,h3⟩:=fv b q (aG 0 ps) (uA h fun r hr=>by
   obtain⟨r',e,h3⟩:=NC.dw.mp hr
   cases e
   exact h3)
  refine⟨.aa b',?_,?_⟩
  ·show(if (0:Int)=0 then (aV b q).map T.aa else none)=_
   rw[if_pos rfl,h1]
   rfl
  ·show T.aa _=T.aa _
   rw[NC.bJ,h3]
 | .call m a b,p,ps,h=>by
  rcases NC.bD.mp (h.sub p List.mem_cons_self) with⟨rfl,hf⟩|⟨q,rfl,hq⟩|⟨q,rfl,hq⟩
  ·have e0:ps=[]:=by
    cases ps with
    |nil=>rfl
    |cons r BN=>
     have h1:=(List.pairwise_cons.mp h.desc).1 r List.mem_cons_self
     have h2:r=[]:=List.eq_nil_of_length_eq_zero (Nat.le_zero.mp h1)
     exact absurd (by rw[h2];exact List.mem_cons_self) (List.nodup_cons.mp h.nd).1
   subst e0
   cases a with
   |name _=>cases hf
   |place _=>cases hf
   |call _ _ _=>cases hf
   |aa c=>
    refine⟨c.fill b,rfl,?_⟩
    rw[eV]
    show _=if ([]:List Int)∈[[]] then (match T.aa (dv c []) with| .aa c=>c.fill (dv b [])|a'=> .call m a' (dv b [])) else _
    rw[if_pos (List.mem_singleton.mpr rfl),eV,eV]
  ·obtain⟨a',h1,h3⟩:=fv a q (aG 0 ps) (uA h fun r hr=>by
    rcases NC.bD.mp hr with⟨e,_⟩|⟨r',e,h3⟩|⟨r',e,h3⟩
    ·cases e
    ·cases e;exact h3
    ·injection e with e _;exact absurd e (by decide))
   have qf:([]:List Int)∈(0::q)::ps↔([]:List Int)∈ps:=by simp
   refine⟨.call m a' b,?_,?_⟩
   ·rw[step_call,if_pos rfl,h1]
    rfl
   ·show(if []∈ps then _ else _)=(if []∈(0::q)::ps then _ else _)
    rw[NC.bJ,NC.gZ (by decide),h3]
    by_cases hn:([]:List Int)∈ps
    ·rw[if_pos hn,if_pos (qf.mpr hn)]
    ·rw[if_neg hn,if_neg fun z=>hn (qf.mp z)]
  ·obtain⟨b',h1,h3⟩:=fv b q (aG 1 ps) (uA h fun r hr=>by
    rcases NC.bD.mp hr with⟨e,_⟩|⟨r',e,h3⟩|⟨r',e,h3⟩
    ·cases e
    ·injection e with e _;exact absurd e (by decide)
    ·cases e;exact h3)
   have qf:([]:List Int)∈(1::q)::ps↔([]:List Int)∈ps:=by simp
   refine⟨.call m a b',?_,?_⟩
   ·rw[step_call,if_neg (by decide),if_pos rfl,h1]
    rfl
   ·show(if []∈ps then _ else _)=(if []∈(1::q)::ps then _ else _)
    rw[NC.bJ,NC.gZ (by decide),h3]
    by_cases hn:([]:List Int)∈ps
    ·rw[if_pos hn,if_pos (qf.mpr hn)]
    ·rw[if_neg hn,if_neg fun z=>hn (qf.mp z)]
end
end NM
namespace NC
section
variable {W:Type}
def T.lv:T W->Nat
 | .name _=>1
 | .place _=>1
 | .aa b=>b.lv
 | .call a b=>a.lv+b.lv
theorem ua:∀t:T W,1<=t.lv
 | .name _=>Nat.le_refl _
 | .place _=>Nat.le_refl _
 | .aa b=>ua b
 | .call a b=>by show 1<=a.lv+b.lv;have:=ua a;omega
theorem jv:∀t:T W,2*t.lv<=t.size+1
 | .name _=>Nat.le_refl _
 | .place _=>Nat.le_refl _
 | .aa b=>by show 2*b.lv<=b.size+1+1;have:=jv b;omega
 | .call a b=>by
  show 2*(a.lv+b.lv)<=a.size+b.size+1+1
  have h1:=jv a
  have h2:=jv b
  omega
theorem p7(m:Nat):∀(t:T W) (k:Nat),(t.ae (aO m) k).lv=t.lv
 | .name _,_=>rfl
 | .place n,k=>by show(if k<=n then T.place (n+m) else T.place n:T W).lv=_;split<;>rfl
 | .aa b,k=>p7 m b (k+1)
 | .call a b,k=>by show(a.ae (aO m) k).lv+(b.ae (aO m) k).lv=_;rw[p7 m a,p7 m b];rfl
theorem qj(u:T W):∀(t:T W) (k:Nat),(t.ae (aK u) k).lv<=t.lv*u.lv
 | .name _,_=>by show 1<=1*u.lv;have:=ua u;omega
 | .place n,k=>by
  have:=ua u
  show(if n < k then T.place n else if n=k then u.lift k else T.place (n - 1):T W).lv<=1*u.lv
  split
  ·show 1<=_;omega
  ·split
   ·rw[show(u.lift k).lv=u.lv from p7 k u 0];omega
   ·show 1<=_;omega
 | .aa b,k=>qj u b (k+1)
 | .call a b,k=>by
  show(a.ae (aK u) k).lv+(b.ae (aK u) k).lv<=(a.lv+b.lv)*u.lv
  have h1:=qj u a k
  have h2:=qj u b k
  rw[Nat.add_mul]
  omega
def lz:T W->List (List Int)->Nat
 | .name _,_=>1
 | .place _,_=>1
 | .aa b,P=>lz b (aG 0 P)
 | .call a b,P=>if []∈P then lz a (aG 0 P)*lz b (aG 1 P) else lz a (aG 0 P)+lz b (aG 1 P)
theorem iP:∀(t:T W) (p:List Int),p∈t.ao->p.length<=t.deep
 | .name _,p,h=>nomatch h
 | .place _,p,h=>nomatch h
 | .aa b,p,h=>by
  obtain⟨q,rfl,hq⟩:=dw.mp h
  exact Nat.succ_le_succ (iP b q hq)
 | .call a b,p,h=>by
  show p.length<=max a.deep b.deep+1
  rcases bD.mp h with⟨rfl,_⟩|⟨q,rfl,hq⟩|⟨q,rfl,hq⟩
  ·exact Nat.zero_le _
  ·have:=iP a q hq
   show q.length+1<=_
   omega
  ·have:=iP b q hq
   show q.length+1<=_
   omega
end
end NC
namespace NM
section
variable {W:Type}
end
end NM
namespace NM
section
variable {W:Type}
def T.bq:Nat->T W->List (T W×Nat)
 |k,.name w=>[(.name w,k)]
 |k,.place n=>[(.place n,k)]
 |k,.aa b=>(.aa b,k)::b.bq (k+1)
 |k,.call m a b=>(.call m a b,k)::(b.bq k++a.bq k)
theorem cD:∀(t:T W) (k:Nat),(t.bq k).length=t.size
 | .name _,_=>rfl
 | .place _,_=>rfl
 | .aa b,k=>by show(b.bq (k+1)).length+1=_;rw[cD b];rfl
 | .call _ a b,k=>by show(b.bq k++a.bq k).length+1=_;rw[List.length_append,cD a,cD b,Nat.add_comm b.size];rfl
def eI(g:T W->Nat->T W):List (T W×Nat)->List (T W)->Option (List (T W))
 |[],S=>some S
 | (.name w,k)::ys,S=>eI g ys (g (.name w) k::S)
 | (.place n,k)::ys,S=>eI g ys (g (.place n) k::S)
 | (.aa _,_)::ys,x::S=>eI g ys (.aa x::S)
 | (.call m _ _,_)::ys,x::y::S=>eI g ys (.call m y x::S)
 |_,_=>none
section
variable {g:T W->Nat->T W}
theorem dC:∀(t:T W) (k:Nat) (ys:List (T W×Nat)) (S:List (T W)),eI g ((t.bq k).reverse++ys) S=eI g ys (t.ae g k::S)
 | .name _,_,_,_=>rfl
 | .place _,_,_,_=>rfl
 | .aa b,k,ys,S=>by
  show eI g (((.aa b,k)::b.bq (k+1)).reverse++ys) S=_
  rw[List.reverse_cons,List.append_assoc,dC b]
  rfl
 | .call m a b,k,ys,S=>by
  show eI g (((.call m a b,k)::(b.bq k++a.bq k)).reverse++ys) S=_
  rw[List.reverse_cons,List.reverse_append,List.append_assoc,List.append_assoc,dC a,dC b]
  rfl
theorem qK(t:T W):eI g (t.bq 0).reverse []=some [t.ae g 0]:=by
 have:=dC (g:=g) t 0 [] []
 rw[List.append_nil] at this
 rw[this]
 rfl
theorem oK{b:T W}{k:Nat}{ys:List (T W×Nat)}{S r:List (T W)}(h:eI g ((.aa b,k)::ys) S=some r):∃x S',S=x::S'/\eI g ys (.aa x::S')=some r:=by
 cases S with
 |nil=>cases h
 |cons x S=>exact⟨x,S,rfl,h⟩
theorem oM{m:Bool}{a b:T W}{k:Nat}{ys:List (T W×Nat)}{S r:List (T W)}(h:eI g ((.call m a b,k)::ys) S=some r):∃x y S',S=x::y::S'/\eI g ys (.call m y x::S')=some r:=by
 cases S with
 |nil=>cases h
 |cons x S=>
  cases S with
  |nil=>cases h
  |cons y S=>exact⟨x,y,S,rfl,h⟩
end
inductive Fm(W:Type) where
 |aa
 |one (m:Bool) (t:T W)
 |other (m:Bool) (t:T W)
def cZ:Fm W->T W->T W
 | .aa,t=> .aa t
 | .one m u,t=> .call m t u
 | .other m u,t=> .call m u t
def bu:List (Fm W)->T W->T W
 |[],t=>t
 |f::S,t=>bu S (cZ f t)
def gm:T W->Int->Bool
 | .call _ _ _,n=>decide (n=0)||decide (n=1)
 | .aa _,n=>decide (n=0)
 |_,_=>false
def child:T W->Int->T W
 | .aa b,_=>b
 | .call _ a b,n=>if n=0 then a else b
 |t,_=>t
def frame:T W->Int->Fm W
 | .call m a b,n=>if n=0 then .one m b else .other m a
 |_,_=> .aa
def dR:T W->List Int->List (Fm W)->Option (T W×List (Fm W))
 |t,[],S=>some (t,S)
 |t,n::ps,S=>if gm t n=true then dR (child t n) ps (frame t n::S) else none
def e7:Option (T W×List (Fm W))->Option (T W)
 |some (.call _ (.aa b) u,S)=>some (bu S (b.fill u))
 |_=>none
def stepT(t:T W)(ps:List Int):Option (T W):=e7 (dR t ps [])
theorem rG:∀(t:T W) (n:Int),(child t n).size<=t.size
 | .name _,_=>Nat.le_refl _
 | .place _,_=>Nat.le_refl _
 | .aa b,_=>by show b.size<=b.size+1;omega
 | .call _ a b,n=>by
  show(if n=0 then a else b).size<=a.size+b.size+1
  split<;>omega
theorem cR:∀(ps:List Int) (t:T W) (S:List (Fm W)),e7 (dR t ps S)=(e7 (dR t ps [])).map (bu S)
 |[],t,S=>by
  show e7 (some (t,S))=(e7 (some (t,[]))).map _
  cases t with
  |name _=>rfl
  |place _=>rfl
  |aa _=>rfl
  |call m a u=>cases a<;>rfl
 |n::ps,t,S=>by
  unfold dR
  split
  ·rw[cR ps (child t n) (frame t n::S),cR ps (child t n) [frame t n]]
   cases e7 (dR (child t n) ps [])<;>rfl
  ·rfl
theorem dX:∀(ps:List Int) (t:T W),stepT t ps=aV t ps
 |[],t=>by
  cases t with
  |name _=>rfl
  |place _=>rfl
  |aa _=>rfl
  |call m a u=>cases a<;>rfl
 |n::ps,t=>by
  show e7 (if gm t n=true then dR (child t n) ps [frame t n] else none)=_
  cases t with
  |name _=>rfl
  |place _=>rfl
  |aa b=>
   show e7 (if decide (n=0)=true then dR b ps [Fm.aa] else none)=if n=0 then (aV b ps).map T.aa else none
   by_cases h:n=0
   ·rw[if_pos h,if_pos (decide_eq_true h),cR,<-dX ps b]
    rfl
   ·rw[if_neg h,if_neg (by simpa using h)]
    rfl
  |call m a b=>
   show e7 (if (decide (n=0)||decide (n=1))=true then dR (if n=0 then a else b) ps [if n=0 then Fm.one m b else Fm.other m a] else none)=_
   rw[step_call]
   by_cases h:n=0
   ·rw[if_pos h,if_pos h,if_pos h,if_pos (by simp[h]),cR,<-dX ps a]
    rfl
   ·by_cases h1:n=1
    ·rw[if_neg h,if_neg h,if_neg h,if_pos h1,if_pos (by simp[h1]),cR,<-dX ps b]
     rfl
    ·rw[if_neg (by simp[h,h1]),if_neg h,if_neg h1]
     rfl
end
end NM
namespace NM
open NC (aG aW uz tw)
section
variable {W:Type}
def FD(x:Nat)(r:Nat->Nat):Nat->Nat
 |0=>x
 |n+1=>r n
def mu:(Nat->Nat)->T W->Nat
 |_,.name _=>1
 |r,.place n=>r n
 |r,.aa b=>mu (FD 1 r) b+1
 |r,.call true (.aa c) b=>mu (FD (mu r b) r) c+mu r b+2
 |r,.call _ a b=>mu r a+mu r b+1
end
end NM
namespace NM
open NC (aG aW lex ni)
section
variable {W:Type}
def under(p:List Int)(t:T W):List (List Int):=(marks t).map (p++·)
theorem sr(t:T W):under [] t=marks t:=by
 unfold under
 rw[show(fun x:List Int=>[]++x)=id from funext fun x=>List.nil_append x,List.map_id]
theorem eT(p:List Int)(k:Int)(t:T W):((marks t).map (k::·)).map (p++·)=under (p++[k]) t:=by
 unfold under
 rw[List.map_map]
 refine List.map_congr_left fun x _=>?_
 show p++k::x=p++[k]++x
 simp
theorem qv(p:List Int)(b:T W):under p (.aa b)=under (p++[0]) b:=eT p 0 b
theorem lW(p:List Int)(m:Bool)(a b:T W):under p (.call m a b)=(if m=true then [p] else [])++(under (p++[0]) a++under (p++[1]) b):=by
 show List.map (p++·) (marks (.call m a b))=_
 rw[marks,List.map_append,List.map_append,eT,eT]
 congr 1
 split<;>simp
end
end NM
namespace NC
section
variable {W:Type}
def bc:Nat->T W->Nat
 |_,.name _=>0
 |k,.place n=>if n=k then 1 else 0
 |k,.aa b=>bc (k+1) b
 |k,.call a b=>bc k a+bc k b
def br:Bool->Nat->T W->Nat
 |_,_,.name _=>1
 |_,d,.place n=>if n < d then 2 else 1
 |f,d,.aa b=>br false (d+1) b+(if f=false/\bc 0 b=0 then 1 else 0)
 |_,d,.call a b=>br true d a+br false d b
theorem cF:∀(t:T W) (f:Bool) (d:Nat),1<=br f d t
 | .name _,_,_=>Nat.le_refl _
 | .place n,_,d=>by show 1<=if n < d then 2 else 1;split<;>decide
 | .aa b,f,d=>Nat.le_trans (cF b false (d+1)) (Nat.le_add_right _ _)
 | .call a b,_,d=>Nat.le_trans (cF a true d) (Nat.le_add_right _ _)
theorem nr:∀(t:T W) (f:Bool) (d:Nat),br f d t<=br false d t
 | .name _,_,_=>Nat.le_refl _
 | .place _,_,_=>Nat.le_refl _
 | .aa b,f,d=>by
  show br false (d+1) b+(if f=false/\bc 0 b=0 then 1 else 0)<=br false (d+1) b+(if false=false/\bc 0 b=0 then 1 else 0)
  by_cases h:bc 0 b=0
  ·rw[if_pos (⟨rfl,h⟩:false=false/\bc 0 b=0)]
   split<;>omega
  ·rw[if_neg fun z=>h z.2]
   omega
 | .call _ _,_,_=>Nat.le_refl _
theorem uf:∀(t:T W) (f:Bool) (d:Nat),t.lv<=br f d t
 | .name _,_,_=>Nat.le_refl _
 | .place n,_,d=>cF (T.place n:T W) false d
 | .aa b,f,d=>Nat.le_trans (uf b false (d+1)) (Nat.le_add_right _ _)
 | .call a b,_,d=>Nat.add_le_add (uf a true d) (uf b false d)
theorem iT(m:Nat):∀(t:T W) (k j:Nat),bc j (t.ae (aO m) k)=if j < k then bc j t else if j < k+m then 0 else bc (j - m) t
 | .name _,k,j=>by show 0=if j < k then 0 else if j < k+m then 0 else 0;split<;>(try split)<;>rfl
 | .place n,k,j=>by
  show bc j (if k<=n then T.place (n+m) else T.place n:T W)=if j < k then (if n=j then 1 else 0) else if j < k+m then 0 else (if n=j - m then 1 else 0)
  by_cases h:k<=n
  ·rw[if_pos h]
   show(if n+m=j then 1 else 0)=_
   by_cases h1:j < k
   ·rw[if_pos h1,if_neg (by omega),if_neg (by omega)]
   ·by_cases h2:j < k+m
    ·rw[if_neg h1,if_pos h2,if_neg (by omega)]
    ·rw[if_neg h1,if_neg h2]
     by_cases h3:n+m=j
     ·rw[if_pos h3,if_pos (by omega)]
     ·rw[if_neg h3,if_neg (by omega)]
  ·rw[if_neg h]
   show(if n=j then 1 else 0)=_
   by_cases h1:j < k
   ·rw[if_pos h1]
   ·rw[if_neg h1,if_neg (by omega)]
    by_cases h2:j < k+m
    ·rw[if_pos h2]
    ·rw[if_neg h2,if_neg (by omega)]
 | .aa b,k,j=>by
  show bc (j+1) (b.ae (aO m) (k+1))=if j < k then bc (j+1) b else if j < k+m then 0 else bc (j - m+1) b
  rw[iT m b]
  by_cases h1:j < k
  ·rw[if_pos h1,if_pos (by omega)]
  ·rw[if_neg h1,if_neg (by omega)]
   by_cases h2:j < k+m
   ·rw[if_pos h2,if_pos (by omega)]
   ·rw[if_neg h2,if_neg (by omega),show j+1 - m=j - m+1 by omega]
 | .call a b,k,j=>by
  show bc j (a.ae (aO m) k)+bc j (b.ae (aO m) k)=if j < k then bc j a+bc j b else if j < k+m then 0 else bc (j - m) a+bc (j - m) b
  rw[iT m a,iT m b]
  by_cases h1:j < k
  ·rw[if_pos h1,if_pos h1,if_pos h1]
  ·by_cases h2:j < k+m
   ·rw[if_neg h1,if_neg h1,if_neg h1,if_pos h2,if_pos h2,if_pos h2]
   ·rw[if_neg h1,if_neg h1,if_neg h1,if_neg h2,if_neg h2,if_neg h2]
theorem fX(u:T W):∀(t:T W) (k j:Nat),bc j (t.ae (aK u) k)=if j < k then bc j t else bc (j+1) t+bc k t*bc (j - k) u
 | .name _,k,j=>by show 0=if j < k then 0 else 0+0*_;split<;>simp
 | .place n,k,j=>by
  show bc j (if n < k then T.place n else if n=k then u.lift k else T.place (n - 1):T W)=if j < k then (if n=j then 1 else 0) else (if n=j+1 then 1 else 0)+(if n=k then 1 else 0)*bc (j - k) u
  by_cases h:n < k
  ·rw[if_pos h,if_neg (show ¬n=k by omega),Nat.zero_mul]
   show(if n=j then 1 else 0)=_
   by_cases h1:j < k
   ·rw[if_pos h1]
   ·rw[if_neg h1,if_neg (by omega),if_neg (by omega)]
  ·rw[if_neg h]
   by_cases h0:n=k
   ·rw[if_pos h0,if_pos h0,Nat.one_mul]
    show bc j (u.ae (aO k) 0)=_
    rw[iT,if_neg (Nat.not_lt_zero _),Nat.zero_add]
    by_cases h1:j < k
    ·rw[if_pos h1,if_pos h1,if_neg (by omega)]
    ·rw[if_neg h1,if_neg h1,if_neg (by omega),Nat.zero_add]
   ·rw[if_neg h0,if_neg h0,Nat.zero_mul]
    show(if n - 1=j then 1 else 0)=_
    by_cases h1:j < k
    ·rw[if_pos h1,if_neg (by omega),if_neg (by omega)]
    ·rw[if_neg h1]
     by_cases h2:n=j+1
     ·rw[if_pos h2,if_pos (by omega)]
     ·rw[if_neg h2,if_neg (by omega)]
 | .aa b,k,j=>by
  show bc (j+1) (b.ae (aK u) (k+1))=if j < k then bc (j+1) b else bc (j+1+1) b+bc (k+1) b*bc (j - k) u
  rw[fX u b]
  by_cases h1:j < k
  ·rw[if_pos h1,if_pos (by omega)]
  ·rw[if_neg h1,if_neg (by omega),show j+1 - (k+1)=j - k by omega]
 | .call a b,k,j=>by
  show bc j (a.ae (aK u) k)+bc j (b.ae (aK u) k)=if j < k then bc j a+bc j b else bc (j+1) a+bc (j+1) b+(bc k a+bc k b)*bc (j - k) u
  rw[fX u a,fX u b]
  by_cases h1:j < k
  ·rw[if_pos h1,if_pos h1,if_pos h1]
  ·rw[if_neg h1,if_neg h1,if_neg h1,Nat.add_mul]
   omega
theorem nk(m:Nat):∀(t:T W) (k d:Nat) (f:Bool),k<=d->br f (d+m) (t.ae (aO m) k)=br f d t
 | .name _,_,_,_,_=>rfl
 | .place n,k,d,f,h=>by
  show br f (d+m) (if k<=n then T.place (n+m) else T.place n:T W)=if n < d then 2 else 1
  by_cases h1:k<=n
  ·rw[if_pos h1]
   show(if n+m < d+m then 2 else 1)=_
   by_cases h2:n < d
   ·rw[if_pos h2,if_pos (by omega)]
   ·rw[if_neg h2,if_neg (by omega)]
  ·rw[if_neg h1]
   show(if n < d+m then 2 else 1)=_
   rw[if_pos (by omega),if_pos (by omega)]
 | .aa b,k,d,f,h=>by
  show br false (d+m+1) (b.ae (aO m) (k+1))+(if f=false/\bc 0 (b.ae (aO m) (k+1))=0 then 1 else 0)=br false (d+1) b+(if f=false/\bc 0 b=0 then 1 else 0)
  have e:bc 0 (b.ae (aO m) (k+1))=bc 0 b:=by rw[iT,if_pos (Nat.succ_pos k)]
  rw[e,show d+m+1=d+1+m by omega,nk m b (k+1) (d+1) false (by omega)]
 | .call a b,k,d,f,h=>by
  show br true (d+m) (a.ae (aO m) k)+br false (d+m) (b.ae (aO m) k)=br true d a+br false d b
  rw[nk m a k d true h,nk m b k d false h]
theorem iW(u:T W)(d:Nat):∀(t:T W) (k:Nat) (f:Bool),br f (d+k) (t.ae (aK u) k)+2*bc k t<=br f (d+k+1) t+bc k t*br false d u
 | .name _,_,_=>by show 1+2*0<=1+0*_;omega
 | .place n,k,f=>by
  show br f (d+k) (if n < k then T.place n else if n=k then u.lift k else T.place (n - 1):T W)+2*(if n=k then 1 else 0)<=(if n < d+k+1 then 2 else 1)+(if n=k then 1 else 0)*br false d u
  by_cases h:n < k
  ·rw[if_pos h,if_neg (show ¬n=k by omega),if_pos (show n < d+k+1 by omega)]
   show(if n < d+k then 2 else 1)+2*0<=2+0*_
   rw[if_pos (show n < d+k by omega)]
   omega
  ·rw[if_neg h]
   by_cases h0:n=k
   ·rw[if_pos h0,if_pos h0,if_pos (show n < d+k+1 by omega),Nat.one_mul]
    have h1:br f (d+k) (u.lift k)=br f d u:=nk k u 0 d f (Nat.zero_le _)
    have h2:=nr u f d
    omega
   ·rw[if_neg h0,if_neg h0]
    show(if n - 1 < d+k then 2 else 1)+2*0<=_+0*_
    by_cases h2:n < d+k+1
    ·rw[if_pos h2]
     split<;>omega
    ·rw[if_neg h2,if_neg (by omega)]
     omega
 | .aa b,k,f=>by
  show br false (d+k+1) (b.ae (aK u) (k+1))+(if f=false/\bc 0 (b.ae (aK u) (k+1))=0 then 1 else 0)+2*bc (k+1) b<=br false (d+k+1+1) b+(if f=false/\bc 0 b=0 then 1 else 0)+bc (k+1) b*br false d u
  have e:bc 0 (b.ae (aK u) (k+1))=bc 0 b:=by rw[fX,if_pos (Nat.succ_pos k)]
  rw[e]
  have:=iW u d b (k+1) false
  rw[show d+(k+1)=d+k+1 by omega] at this
  omega
 | .call a b,k,f=>by
  show br true (d+k) (a.ae (aK u) k)+br false (d+k) (b.ae (aK u) k)+2*(bc k a+bc k b)<=br true (d+k+1) a+br false (d+k+1) b+(bc k a+bc k b)*br false d u
  have h1:=iW u d a k true
  have h2:=iW u d b k false
  rw[Nat.add_mul]
  omega
theorem jy:∀(t:T W) (k d:Nat) (f:Bool),k < d->2*bc k t<=br f d t
 | .name _,_,_,_,_=>Nat.zero_le _
 | .place n,k,d,f,h=>by
  show 2*(if n=k then 1 else 0)<=if n < d then 2 else 1
  by_cases h1:n=k
  ·rw[if_pos h1,if_pos (by omega)]
   decide
  ·rw[if_neg h1]
   exact Nat.zero_le _
 | .aa b,k,d,f,h=>Nat.le_trans (jy b (k+1) (d+1) false (by omega)) (Nat.le_add_right _ _)
 | .call a b,k,d,f,h=>by
  show 2*(bc k a+bc k b)<=br true d a+br false d b
  have h1:=jy a k d true h
  have h2:=jy b k d false h
  omega
def cnt:Nat->(Nat->Bool)->Nat
 |0,_=>0
 |d+1,g=>(if g 0=true then 1 else 0)+cnt d (fun j=>g (j+1))
theorem dg:∀(d:Nat) (g h:Nat->Bool),(∀j,g j=true->h j=true)->cnt d g<=cnt d h
 |0,_,_,_=>Nat.le_refl _
 |d+1,g,h,e=>by
  have h1:=dg d (fun j=>g (j+1)) (fun j=>h (j+1)) fun j=>e (j+1)
  show(if g 0=true then 1 else 0)+_<=(if h 0=true then 1 else 0)+_
  by_cases h0:g 0=true
  ·rw[if_pos h0,if_pos (e 0 h0)]
   omega
  ·rw[if_neg h0]
   omega
theorem uC:∀(d:Nat) (g h:Nat->Bool),cnt d (fun j=>g j||h j)<=cnt d g+cnt d h
 |0,_,_=>Nat.le_refl _
 |d+1,g,h=>by
  have h1:=uC d (fun j=>g (j+1)) (fun j=>h (j+1))
  show(if (g 0||h 0)=true then 1 else 0)+cnt d (fun j=>g (j+1)||h (j+1))<=(if g 0=true then 1 else 0)+cnt d (fun j=>g (j+1))+((if h 0=true then 1 else 0)+cnt d (fun j=>h (j+1)))
  cases g 0<;>cases h 0<;>simp<;>omega
theorem ly:∀(d n:Nat),cnt d (fun j=>decide (n=j))<=1
 |0,_=>Nat.zero_le _
 |d+1,0=>by
  have h1:=nQ d
  show(if decide (0=0)=true then 1 else 0)+cnt d (fun j=>decide (0=j+1))<=1
  have h2:=dg d (fun j=>decide (0=j+1)) (fun _=>false) fun j h=>by simp at h
  rw[if_pos (by decide)]
  omega
 |d+1,n+1=>by
  have h2:=dg d (fun j=>decide (n+1=j+1)) (fun j=>decide (n=j)) fun j h=>by
   have:=of_decide_eq_true h
   exact decide_eq_true (by omega)
  have h1:=ly d n
  show(if decide (n+1=0)=true then 1 else 0)+cnt d (fun j=>decide (n+1=j+1))<=1
  rw[if_neg (by simp)]
  omega
where
 nQ:∀d:Nat,cnt d (fun _=>false)=0
  |0=>rfl
  |d+1=>by show(if false=true then 1 else 0)+cnt d _=0;rw[nQ d];rfl
def has(t:T W)(j:Nat):Bool:=decide (bc j t≠0)
theorem rz(a b:T W)(j:Nat):has (.call a b) j=(has a j||has b j):=by
 unfold has
 show decide (bc j a+bc j b≠0)=_
 by_cases h1:bc j a=0<;>by_cases h2:bc j b=0<;>simp[h1,h2]
theorem rF(d:Nat)(a b:T W):cnt d (has (.call a b))<=cnt d (has a)+cnt d (has b):=
 Nat.le_trans (dg d _ _ fun j h=>by rw[rz] at h;exact h) (uC d (has a) (has b))
theorem lA:∀(t:T W) (d:Nat) (f:Bool),cnt d (has t)<=br f d t
 | .name _,d,f=>Nat.le_trans (dg d _ (fun j=>decide (0=j)) fun j h=>by cases h) (ly d 0)
 | .place n,d,f=>Nat.le_trans (Nat.le_trans (dg d _ (fun j=>decide (n=j)) fun j h=>by
   have h:(if n=j then 1 else 0)≠0:=of_decide_eq_true h
   refine decide_eq_true ?_
   by_cases e:n=j
   ·exact e
   ·rw[if_neg e] at h
    exact absurd rfl h) (ly d n)) (cF _ f d)
 | .aa b,d,f=>by
  have h1:=lA b (d+1) false
  have h1:(if has b 0=true then 1 else 0)+cnt d (has (.aa b))<=br false (d+1) b:=h1
  show _<=br false (d+1) b+_
  omega
 | .call a b,d,f=>Nat.le_trans (rF d a b) (Nat.add_le_add (lA a d true) (lA b d false))
def idle(c:Nat->Bool)(t:T W)(j:Nat):Bool:= !(c j||has t j)
def cc(x:Bool)(c:Nat->Bool):Nat->Bool
 |0=>x
 |j+1=>c j
theorem nv(c:Nat->Bool)(a b:T W):idle c (.call a b)=idle (fun j=>c j||has b j) a:=funext fun j=>by
 show(!(c j||has (.call a b) j))= !((c j||has b j)||has a j)
 rw[rz]
 cases c j<;>cases has a j<;>cases has b j<;>rfl
theorem jA(c:Nat->Bool)(a b:T W):idle c (.call a b)=idle (fun j=>c j||has a j) b:=funext fun j=>by
 show(!(c j||has (.call a b) j))= !((c j||has a j)||has b j)
 rw[rz]
 cases c j<;>cases has a j<;>cases has b j<;>rfl
theorem rg{X G:Nat}(hG:∀m b:Nat,1<=b->2*m+b<=X->m*b<=b+2*m+G):∀(p:List Int) (t t':T W) (f:Bool) (d:Nat) (c:Nat->Bool),aV t p=some t'->br f d t<=X->br f d t'+cnt d (idle c t')<=br f d t+cnt d (idle c t)+G
 |[],t,t',f,d,c,hs,hX=>by
  cases t with
  |name _=>cases hs
  |place _=>cases hs
  |aa _=>cases hs
  |call a u=>
   cases a with
   |name _=>cases hs
   |place _=>cases hs
   |call _ _=>cases hs
   |aa b=>
    have hs:some (b.fill u)=some t':=hs
    cases hs
    have e0:br f d (T.call (.aa b) u)=br false (d+1) b+br false d u:=by
     show br false (d+1) b+(if true=false/\bc 0 b=0 then 1 else 0)+br false d u=_
     rw[if_neg fun z=>nomatch z.1]
     rfl
    rw[e0] at hX ⊢
    have h1:br f d (b.fill u)+2*bc 0 b<=br f (d+1) b+bc 0 b*br false d u:=iW u d b 0 f
    have h2:=nr b f (d+1)
    have h3:=jy b 0 (d+1) false (Nat.succ_pos d)
    have h4:=cF u false d
    have ho:∀j,bc j (b.fill u)=bc (j+1) b+bc 0 b*bc j u:=fun j=>by
     have:=fX u b 0 j
     rw[if_neg (Nat.not_lt_zero _),Nat.sub_zero] at this
     exact this
    have hr:∀j,bc j (T.call (.aa b) u)=bc (j+1) b+bc j u:=fun _=>rfl
    by_cases hm:bc 0 b=0
    ·rw[hm,Nat.zero_mul] at h1
     have h5:cnt d (idle c (b.fill u))<=cnt d (fun j=>idle c (T.call (.aa b) u) j||has u j):=dg d _ _ fun j h=>by
      unfold idle has at h ⊢
      rw[ho j,hm,Nat.zero_mul] at h
      rw[hr j]
      by_cases h6:bc j u=0
      ·rw[h6]
       simpa using h
      ·simp[h6]
     have h6:=uC d (idle c (T.call (.aa b) u)) (has u)
     have h7:=lA u d false
     omega
    ·have h5:=hG (bc 0 b) (br false d u) h4 (by omega)
     have h6:cnt d (idle c (b.fill u))<=cnt d (idle c (T.call (.aa b) u)):=dg d _ _ fun j h=>by
      unfold idle has at h ⊢
      rw[ho j] at h
      rw[hr j]
      by_cases h8:bc (j+1) b+bc j u=0
      ·rw[h8]
       have e1:bc (j+1) b+bc 0 b*bc j u=0:=by
        have:bc j u=0:=by omega
        rw[this,Nat.mul_zero]
        omega
       rw[e1] at h
       exact h
      ·exfalso
       have e1:bc (j+1) b+bc 0 b*bc j u≠0:=fun z=>by
        have z1:bc (j+1) b=0:=by omega
        have z2:bc 0 b*bc j u=0:=by omega
        rcases Nat.mul_eq_zero.mp z2 with z3|z3
        ·exact hm z3
        ·exact h8 (by omega)
       rw[decide_eq_true e1] at h
       cases hc:c j<;>rw[hc] at h<;>cases h
     omega
 |n::p,.name _,t',f,d,c,hs,hX=>by cases hs
 |n::p,.place _,t',f,d,c,hs,hX=>by cases hs
 |n::p,.aa b,t',f,d,c,hs,hX=>by
  have hs:(if n=0 then (aV b p).map T.aa else none)=some t':=hs
  by_cases h0:n=0
  ·subst h0
   rw[if_pos rfl] at hs
   obtain⟨b',hb,rfl⟩:=Option.map_eq_some_iff.mp hs
   have hX:br false (d+1) b+_<=X:=hX
   have ih:=rg hG p b b' false (d+1) (cc f c) hb (by omega)
   have ih:br false (d+1) b'+((if idle (cc f c) b' 0=true then 1 else 0)+cnt d (idle c (.aa b')))<=br false (d+1) b+((if idle (cc f c) b 0=true then 1 else 0)+cnt d (idle c (.aa b)))+G:=ih
   have e:∀x:T W,(if idle (cc f c) x 0=true then 1 else 0)=(if f=false/\bc 0 x=0 then 1 else 0):=fun x=>by
    show(if (!(f||decide (bc 0 x≠0)))=true then 1 else 0)=_
    cases f<;>by_cases h:bc 0 x=0<;>simp[h]
   rw[e,e] at ih
   show br false (d+1) b'+(if f=false/\bc 0 b'=0 then 1 else 0)+_<=br false (d+1) b+(if f=false/\bc 0 b=0 then 1 else 0)+_+G
   omega
  ·rw[if_neg h0] at hs
   cases hs
 |n::p,.call a b,t',f,d,c,hs,hX=>by
  have e:aV (T.call a b) (n::p)=if n=0 then (aV a p).map (.call · b) else if n=1 then (aV b p).map (.call a ·) else none:=by
   cases a<;>rfl
  rw[e] at hs
  have hX:br true d a+br false d b<=X:=hX
  by_cases h0:n=0
  ·subst h0
   rw[if_pos rfl] at hs
   obtain⟨a',ha,rfl⟩:=Option.map_eq_some_iff.mp hs
   have ih:=rg hG p a a' true d (fun j=>c j||has b j) ha (by omega)
   rw[nv,nv]
   show br true d a'+br false d b+_<=br true d a+br false d b+_+G
   omega
  ·by_cases h1:n=1
   ·subst h1
    rw[if_neg h0,if_pos rfl] at hs
    obtain⟨b',hb,rfl⟩:=Option.map_eq_some_iff.mp hs
    have ih:=rg hG p b b' false d (fun j=>c j||has a j) hb (by omega)
    rw[jA,jA]
    show br true d a+br false d b'+_<=br true d a+br false d b+_+G
    omega
   ·rw[if_neg h0,if_neg h1] at hs
    cases hs
def kp(t:T W):Nat:=br false 0 t
theorem gM:∀(t:T W) (d:Nat) (f:Bool),t.size+cnt d (has t)+(if f=true then 1 else 2)<=3*br f d t
 | .name w,d,f=>by
  have h1:=dg d (has (T.name w)) (fun _=>false) fun j h=>by cases h
  rw[ly.nQ] at h1
  show 1+_+_<=3*1
  split<;>omega
 | .place n,d,f=>by
  show 1+_+_<=3*(if n < d then 2 else 1)
  by_cases h:n < d
  ·have h1:=dg d (has (T.place n:T W)) (fun j=>decide (n=j)) fun j h=>by
    have h:(if n=j then 1 else 0)≠0:=of_decide_eq_true h
    refine decide_eq_true ?_
    by_cases e:n=j
    ·exact e
    ·rw[if_neg e] at h
     exact absurd rfl h
   have h2:=ly d n
   rw[if_pos h]
   split<;>omega
  ·have h1:∀(d n:Nat),¬n < d->cnt d (has (T.place n:T W))=0:=fun d=>by
    induction d with
    |zero=>intro n _;rfl
    |succ d ih=>
     intro n hn
     show(if has (T.place n:T W) 0=true then 1 else 0)+cnt d (fun j=>has (T.place n:T W) (j+1))=0
     have e0:has (T.place n:T W) 0=false:=decide_eq_false fun z=>z (if_neg (by omega))
     have e1:=dg d (fun j=>has (T.place n:T W) (j+1)) (has (T.place (n - 1):T W)) fun j h=>by
      have h:(if n=j+1 then 1 else 0)≠0:=of_decide_eq_true h
      refine decide_eq_true ?_
      show(if n - 1=j then 1 else 0)≠0
      by_cases e:n=j+1
      ·rw[if_pos (by omega)];decide
      ·rw[if_neg e] at h
       exact absurd rfl h
     rw[ih (n - 1) (by omega)] at e1
     rw[e0]
     simpa using e1
   rw[if_neg h,h1 d n h]
   split<;>omega
 | .aa b,d,f=>by
  have h1:=gM b (d+1) false
  have h1:b.size+((if has b 0=true then 1 else 0)+cnt d (has (.aa b)))+2<=3*br false (d+1) b:=h1
  show b.size+1+cnt d (has (.aa b))+_<=3*(br false (d+1) b+(if f=false/\bc 0 b=0 then 1 else 0))
  cases f with
  |true=>
   rw[if_pos rfl]
   omega
  |false=>
   by_cases h:bc 0 b=0
   ·rw[if_neg (by decide),if_pos ⟨rfl,h⟩]
    omega
   ·rw[if_neg (by decide),if_neg fun z=>h z.2]
    rw[if_pos (show has b 0=true from decide_eq_true h)] at h1
    omega
 | .call a b,d,f=>by
  have h1:=gM a d true
  have h2:=gM b d false
  have h3:=rF d a b
  rw[if_pos rfl] at h1
  rw[if_neg (by decide)] at h2
  show a.size+b.size+1+_+_<=3*(br true d a+br false d b)
  split<;>omega
def cost:T W->Nat
 | .name _=>1
 | .place _=>1
 | .aa b=>cost b+1
 | .call a b=>cost a+cost b+(if a.bx=true then 0 else 1)
theorem fN:∀(t:T W) (f:Bool) (d:Nat),br f d t<=cost t+1
 | .name _,_,_=>Nat.le_succ 1
 | .place n,_,d=>by show(if n < d then 2 else 1)<=1+1;split<;>decide
 | .aa b,f,d=>by
  have h:=fN b false (d+1)
  show br false (d+1) b+(if _ then 1 else 0)<=cost b+1+1
  split<;>omega
 | .call a b,f,d=>by
  have h2:=fN b false d
  show br true d a+br false d b<=cost a+cost b+(if a.bx=true then 0 else 1)+1
  cases a with
  |aa c=>
   have h1:=fN c false (d+1)
   show br false (d+1) c+(if true=false/\bc 0 c=0 then 1 else 0)+br false d b<=cost c+1+cost b+(if true=true then 0 else 1)+1
   rw[if_neg (show ¬(true=false/\bc 0 c=0) from fun z=>nomatch z.1),if_pos (rfl:true=true)]
   omega
  |name w=>have h1:=fN (T.name w) true d;show _<=_+_+(if false=true then 0 else 1)+1;rw[if_neg (by decide)];omega
  |place n=>have h1:=fN (T.place n:T W) true d;show _<=_+_+(if false=true then 0 else 1)+1;rw[if_neg (by decide)];omega
  |call x y=>have h1:=fN (T.call x y) true d;show _<=_+_+(if false=true then 0 else 1)+1;rw[if_neg (by decide)];omega
theorem kZ:∀(t:T W) (f:Bool) (d:Nat),(∀j,j < d->bc j t=0)->br f d t<=cost t
 | .name _,_,_,_=>Nat.le_refl _
 | .place n,_,d,h=>by
  show(if n < d then 2 else 1)<=1
  by_cases h1:n < d
  ·have:(if n=n then 1 else 0)=0:=h n h1
   rw[if_pos rfl] at this
   cases this
  ·rw[if_neg h1]
   decide
 | .aa b,f,d,h=>by
  show br false (d+1) b+(if f=false/\bc 0 b=0 then 1 else 0)<=cost b+1
  by_cases h0:bc 0 b=0
  ·have h1:=kZ b false (d+1) fun j hj=>by
    cases j with
    |zero=>exact h0
    |succ j=>exact h j (by omega)
   split<;>omega
  ·have h1:=fN b false (d+1)
   rw[if_neg fun z=>h0 z.2]
   omega
 | .call a b,f,d,h=>by
  have h1:=kZ a true d fun j hj=>by
   have:bc j a+bc j b=0:=h j hj
   omega
  have h2:=kZ b false d fun j hj=>by
   have:bc j a+bc j b=0:=h j hj
   omega
  show br true d a+br false d b<=cost a+cost b+_
  omega
theorem yG(t:T W):kp t<=cost t:=kZ t false 0 fun _ h=>absurd h (Nat.not_lt_zero _)
theorem EM(a b:T W):kp (.call a b)<=kp a+kp b:=Nat.add_le_add_right (nr a true 0) _
theorem Cn(t:T W):1<=kp t:=cF t false 0
theorem Gd(t:T W):t.lv<=kp t:=uf t false 0
end
end NC
namespace NC
section
variable {W:Type}
abbrev gK(t:T W)(B A:List (List Int)):List (List Int):=NM.marks (NM.dv (NM.mk (NM.um t) B) A)
theorem q9{t:T W}{A B:List (List Int)}(hB:∀p∈B,p∈t.ao):∀p∈gK t B A,p∈(dv t A).ao:=by
 have e:(NM.dv (NM.mk (NM.um t) B) A).un=dv t A:=by rw[NM.u9,NM.o9,NM.mE]
 rw[<-e]
 exact NM.hW _ (NM.qr _ _ (NM.sk _ _ (NM.u3 t) (by rw[NM.mE];exact hB)))
theorem vG{t:T W}{A B:List (List Int)}(hA:∀p∈A,p∈t.ao)(hB:∀p∈B,p∈t.ao):dv (dv t A) (gK t B A)=dv (dv t B) (gK t A B):=by
 rw[NM.va t A B hA hB,NM.va t B A hB hA]
 exact df t _ _ fun q=>by rw[List.mem_append,List.mem_append,or_comm]
abbrev Way:=List (List (List Int))
def gA:T W->Way->Prop
 |_,[]=>True
 |t,e::w=>(∀p∈e,p∈t.ao)/\gA (dv t e) w
def eU:T W->Way->T W
 |t,[]=>t
 |t,e::w=>eU (dv t e) w
def Ak:T W->List (List Int)->Way->List (List Int)
 |_,s,[]=>s
 |t,s,e::w=>Ak (dv t e) (gK t s e) w
def ub:T W->List (List Int)->Way->Way
 |_,_,[]=>[]
 |t,s,e::w=>gK t e s::ub (dv t e) (gK t s e) w
theorem yF:∀(w:Way) (t:T W) (s:List (List Int)),(∀p∈s,p∈t.ao)->gA t w->(∀p∈Ak t s w,p∈(eU t w).ao)/\gA (dv t s) (ub t s w)/\dv (eU t w) (Ak t s w)=eU (dv t s) (ub t s w)
 |[],t,s,hs,_=>⟨hs,trivial,rfl⟩
 |e::w,t,s,hs,hw=>by
  obtain⟨h1,h2,h3⟩:=yF w (dv t e) (gK t s e) (q9 hs) hw.2
  have e1:=vG hw.1 hs
  refine⟨h1,⟨q9 hw.1,?_⟩,?_⟩
  ·rw[<-e1];exact h2
  ·show dv (eU (dv t e) w) (Ak (dv t e) (gK t s e) w)=eU (dv (dv t s) (gK t e s)) (ub (dv t e) (gK t s e) w)
   rw[<-e1]
   exact h3
def zf:T W->Way->Way->Way
 |_,_,[]=>[]
 |t,w,q::qs=>Ak t q w::zf (dv t q) (ub t q w) qs
def C6:T W->Way->Way->Way
 |_,w,[]=>w
 |t,w,q::qs=>C6 (dv t q) (ub t q w) qs
theorem vW:∀(qs:Way) (t:T W) (w:Way),gA t w->gA t qs->gA (eU t w) (zf t w qs)/\gA (eU t qs) (C6 t w qs)/\eU (eU t w) (zf t w qs)=eU (eU t qs) (C6 t w qs)
 |[],t,w,hw,_=>⟨trivial,hw,rfl⟩
 |q::qs,t,w,hw,hq=>by
  obtain⟨r1,r2,r3⟩:=yF w t q hq.1 hw
  obtain⟨h1,h2,h3⟩:=vW qs (dv t q) (ub t q w) r2 hq.2
  refine⟨⟨r1,?_⟩,h2,?_⟩
  ·rw[r3];exact h1
  ·show eU (dv (eU t w) (Ak t q w)) (zf (dv t q) (ub t q w) qs)=_
   rw[r3]
   exact h3
theorem EL:∀(w:Way) (t:T W) (s:List (List Int)),(ub t s w).length=w.length
 |[],_,_=>rfl
 |e::w,t,s=>congrArg (·+1) (EL w (dv t e) (gK t s e))
theorem CT{t t':T W}{p:List Int}(h:aV t p=some t')(hp:p∈t.ao):dv t [p]=t':=by
 have h1:=y9 [p] t ⟨fun q hq=>by rw[List.mem_singleton.mp hq];exact hp,by simp,by simp⟩
 have h2:wU t [p]=some t':=by
  show(aV t p).bind _=_
  rw[h]
  rfl
 rw[h2] at h1
 exact(Option.some.inj h1).symm
theorem mD:∀(w:Way) (t:T W) (e:List (List Int)),gA t (w++[e])↔gA t w/\∀p∈e,p∈(eU t w).ao
 |[],t,e=>⟨fun h=>⟨trivial,h.1⟩,fun h=>⟨h.2,trivial⟩⟩
 |x::w,t,e=>⟨fun h=>⟨⟨h.1,((mD w (dv t x) e).mp h.2).1⟩,((mD w (dv t x) e).mp h.2).2⟩,fun h=>⟨h.1.1,(mD w (dv t x) e).mpr ⟨h.1.2,h.2⟩⟩⟩
theorem vT:∀(w:Way) (t:T W) (e:List (List Int)),eU t (w++[e])=dv (eU t w) e
 |[],_,_=>rfl
 |x::w,t,e=>vT w (dv t x) e
def oF(ps:List (List Int)):Way:=ps.map fun p=>[p]
end
end NC
namespace NC
section
variable {W:Type}
inductive At:Nat->T W->List Int->T W->Nat->T W->T W->Prop where
 |here {d:Nat}{m n:T W}:At d (.call (.aa m) n) [] (m.fill n) d m n
 |aa {d e:Nat}{b b' m n:T W}{p:List Int} (h:At (d+1) b p b' e m n):At d (.aa b) (0::p) (.aa b') e m n
 |one {d e:Nat}{a a' b m n:T W}{p:List Int} (h:At d a p a' e m n):At d (.call a b) (0::p) (.call a' b) e m n
 |other {d e:Nat}{a b b' m n:T W}{p:List Int} (h:At d b p b' e m n):At d (.call a b) (1::p) (.call a b') e m n
theorem at_of:∀(p:List Int) (t t':T W) (d:Nat),aV t p=some t'->∃e m n,At d t p t' e m n
 |[],t,t',d,hs=>by
  cases t with
  |name _=>cases hs
  |place _=>cases hs
  |aa _=>cases hs
  |call a u=>
   cases a with
   |name _=>cases hs
   |place _=>cases hs
   |call _ _=>cases hs
   |aa b=>
    have hs:some (b.fill u)=some t':=hs
    cases hs
    exact⟨d,b,u,.here⟩
 |n::p,.name _,t',d,hs=>by cases hs
 |n::p,.place _,t',d,hs=>by cases hs
 |n::p,.aa b,t',d,hs=>by
  have hs:(if n=0 then (aV b p).map T.aa else none)=some t':=hs
  by_cases h0:n=0
  ·subst h0
   rw[if_pos rfl] at hs
   obtain⟨b',hb,rfl⟩:=Option.map_eq_some_iff.mp hs
   obtain⟨e,m,x,h⟩:=at_of p b b' (d+1) hb
   exact⟨e,m,x,.aa h⟩
  ·rw[if_neg h0] at hs
   cases hs
 |n::p,.call a b,t',d,hs=>by
  have e:aV (T.call a b) (n::p)=if n=0 then (aV a p).map (.call · b) else if n=1 then (aV b p).map (.call a ·) else none:=by
   cases a<;>rfl
  rw[e] at hs
  by_cases h0:n=0
  ·subst h0
   rw[if_pos rfl] at hs
   obtain⟨a',ha,rfl⟩:=Option.map_eq_some_iff.mp hs
   obtain⟨e,m,x,h⟩:=at_of p a a' d ha
   exact⟨e,m,x,.one h⟩
  ·by_cases h1:n=1
   ·subst h1
    rw[if_neg h0,if_pos rfl] at hs
    obtain⟨b',hb,rfl⟩:=Option.map_eq_some_iff.mp hs
    obtain⟨e,m,x,h⟩:=at_of p b b' d hb
    exact⟨e,m,x,.other h⟩
   ·rw[if_neg h0,if_neg h1] at hs
    cases hs
theorem ql{d e:Nat}{t t' m n:T W}{p:List Int}(h:At d t p t' e m n):aV t p=some t':=by
 induction h with
 |here=>rfl
 |aa _ ih=>show(if (0:Int)=0 then (aV _ _).map T.aa else none)=_;rw[if_pos rfl,ih];rfl
 |@one d e a a' b m n p _ ih=>
  have e:aV (T.call a b) (0::p)=(aV a p).map (.call · b):=by cases a<;>rfl
  rw[e,ih]
  rfl
 |@other d e a b b' m n p _ ih=>
  have e:aV (T.call a b) (1::p)=(aV b p).map (.call a ·):=by cases a<;>rfl
  rw[e,ih]
  rfl
theorem ja{d e:Nat}{t t' m n:T W}{p:List Int}(h:At d t p t' e m n):∀f:Bool,br false (e+1) m+br false e n<=br f d t:=by
 induction h with
 |here=>
  intro f
  show _<=br false _ _+(if true=false/\_ then 1 else 0)+br false _ _
  omega
 |aa _ ih=>exact fun f=>Nat.le_trans (ih false) (Nat.le_add_right _ _)
 |one _ ih=>exact fun f=>Nat.le_trans (ih true) (Nat.le_add_right _ _)
 |other _ ih=>exact fun f=>Nat.le_trans (ih false) (Nat.le_add_left _ _)
def jO(m b:Nat):Nat:=m*b - (b+2*m)
theorem Fg{d e:Nat}{t t' m n:T W}{p:List Int}(h:At d t p t' e m n):∀(f:Bool) (c:Nat->Bool),br f d t'+cnt d (idle c t')<=br f d t+cnt d (idle c t)+jO (bc 0 m) (br false e n):=by
 induction h with
 |@here d b u=>
  intro f c
  have e0:br f d (T.call (.aa b) u)=br false (d+1) b+br false d u:=by
   show br false (d+1) b+(if true=false/\bc 0 b=0 then 1 else 0)+br false d u=_
   rw[if_neg fun z=>nomatch z.1]
   rfl
  rw[e0]
  have h1:br f d (b.fill u)+2*bc 0 b<=br f (d+1) b+bc 0 b*br false d u:=iW u d b 0 f
  have h2:=nr b f (d+1)
  have h4:=cF u false d
  have ho:∀j,bc j (b.fill u)=bc (j+1) b+bc 0 b*bc j u:=fun j=>by
   have:=fX u b 0 j
   rw[if_neg (Nat.not_lt_zero _),Nat.sub_zero] at this
   exact this
  have hr:∀j,bc j (T.call (.aa b) u)=bc (j+1) b+bc j u:=fun _=>rfl
  unfold jO
  by_cases hm:bc 0 b=0
  ·rw[hm,Nat.zero_mul] at h1
   have h5:cnt d (idle c (b.fill u))<=cnt d (fun j=>idle c (T.call (.aa b) u) j||has u j):=dg d _ _ fun j h=>by
    unfold idle has at h ⊢
    rw[ho j,hm,Nat.zero_mul] at h
    rw[hr j]
    by_cases h6:bc j u=0
    ·rw[h6]
     simpa using h
    ·simp[h6]
   have h6:=uC d (idle c (T.call (.aa b) u)) (has u)
   have h7:=lA u d false
   omega
  ·have h6:cnt d (idle c (b.fill u))<=cnt d (idle c (T.call (.aa b) u)):=dg d _ _ fun j h=>by
    unfold idle has at h ⊢
    rw[ho j] at h
    rw[hr j]
    by_cases h8:bc (j+1) b+bc j u=0
    ·rw[h8]
     have e1:bc (j+1) b+bc 0 b*bc j u=0:=by
      have:bc j u=0:=by omega
      rw[this,Nat.mul_zero]
      omega
     rw[e1] at h
     exact h
    ·exfalso
     have e1:bc (j+1) b+bc 0 b*bc j u≠0:=fun z=>by
      have z1:bc (j+1) b=0:=by omega
      have z2:bc 0 b*bc j u=0:=by omega
      rcases Nat.mul_eq_zero.mp z2 with z3|z3
      ·exact hm z3
      ·exact h8 (by omega)
     rw[decide_eq_true e1] at h
     cases hc:c j<;>rw[hc] at h<;>cases h
   omega
 |@aa d e b b' m n p _ ih=>
  intro f c
  have ih:br false (d+1) b'+((if idle (cc f c) b' 0=true then 1 else 0)+cnt d (idle c (.aa b')))<=br false (d+1) b+((if idle (cc f c) b 0=true then 1 else 0)+cnt d (idle c (.aa b)))+_:=ih false (cc f c)
  have e:∀x:T W,(if idle (cc f c) x 0=true then 1 else 0)=(if f=false/\bc 0 x=0 then 1 else 0):=fun x=>by
   show(if (!(f||decide (bc 0 x≠0)))=true then 1 else 0)=_
   cases f<;>by_cases h:bc 0 x=0<;>simp[h]
  rw[e,e] at ih
  show br false (d+1) b'+(if f=false/\bc 0 b'=0 then 1 else 0)+_<=br false (d+1) b+(if f=false/\bc 0 b=0 then 1 else 0)+_+_
  omega
 |@one d e a a' b m n p _ ih=>
  intro f c
  have ih:=ih true (fun j=>c j||has b j)
  rw[nv,nv]
  show br true d a'+br false d b+_<=br true d a+br false d b+_+_
  omega
 |@other d e a b b' m n p _ ih=>
  intro f c
  have ih:=ih false (fun j=>c j||has a j)
  rw[jA,jA]
  show br true d a+br false d b'+_<=br true d a+br false d b+_+_
  omega
theorem nj{e:Nat}{t t' m n:T W}{p:List Int}(h:At 0 t p t' e m n):kp t'<=kp t+jO (bc 0 m) (br false e n):=Fg h false (fun _=>false)
def d3:T W->Bool
 | .name _=>true
 | .place _=>true
 | .aa b=>d3 b&&Nat.ble (bc 0 b) 1
 | .call a b=>d3 a&&d3 b
theorem eL{b:T W}:d3 (.aa b)=true↔d3 b=true/\bc 0 b<=1:=by
 show(d3 b&&Nat.ble (bc 0 b) 1)=true↔_
 rw[Bool.and_eq_true,Nat.ble_eq]
theorem de{a b:T W}:d3 (.call a b)=true↔d3 a=true/\d3 b=true:=by
 show(d3 a&&d3 b)=true↔_
 rw[Bool.and_eq_true]
theorem nJ(m:Nat):∀(t:T W) (k:Nat),d3 t=true->d3 (t.ae (aO m) k)=true
 | .name _,_,_=>rfl
 | .place n,k,_=>by show d3 (if k<=n then T.place (n+m) else T.place n:T W)=true;split<;>rfl
 | .aa b,k,h=>by
  obtain⟨h1,h2⟩:=eL.mp h
  refine eL.mpr ⟨nJ m b (k+1) h1,?_⟩
  show bc 0 (b.ae (aO m) (k+1))<=1
  rw[iT,if_pos (Nat.succ_pos k)]
  exact h2
 | .call a b,k,h=>de.mpr ⟨nJ m a k (de.mp h).1,nJ m b k (de.mp h).2⟩
theorem kz(u:T W)(hu:d3 u=true):∀(t:T W) (k:Nat),d3 t=true->d3 (t.ae (aK u) k)=true
 | .name _,_,_=>rfl
 | .place n,k,_=>by
  show d3 (if n < k then T.place n else if n=k then u.lift k else T.place (n - 1):T W)=true
  split
  ·rfl
  ·split
   ·exact nJ k u 0 hu
   ·rfl
 | .aa b,k,h=>by
  obtain⟨h1,h2⟩:=eL.mp h
  refine eL.mpr ⟨kz u hu b (k+1) h1,?_⟩
  show bc 0 (b.ae (aK u) (k+1))<=1
  rw[fX,if_pos (Nat.succ_pos k)]
  exact h2
 | .call a b,k,h=>de.mpr ⟨kz u hu a k (de.mp h).1,kz u hu b k (de.mp h).2⟩
theorem IU{d e:Nat}{t t' m n:T W}{p:List Int}(h:At d t p t' e m n):d3 t=true->d3 t'=true/\(∀j,bc j t'<=bc j t)/\bc 0 m<=1:=by
 induction h with
 |@here d b u=>
  intro hf
  obtain⟨h1,h2⟩:=de.mp hf
  obtain⟨h3,h4⟩:=eL.mp h1
  refine⟨kz u h2 b 0 h3,fun j=>?_,h4⟩
  have:=fX u b 0 j
  rw[if_neg (Nat.not_lt_zero _),Nat.sub_zero] at this
  show bc j (b.ae (aK u) 0)<=bc (j+1) b+bc j u
  rw[this]
  have:bc 0 b*bc j u<=1*bc j u:=Nat.mul_le_mul_right _ h4
  omega
 |aa _ ih=>
  intro hf
  obtain⟨h1,h2⟩:=eL.mp hf
  obtain⟨i1,i2,i3⟩:=ih h1
  exact⟨eL.mpr ⟨i1,Nat.le_trans (i2 0) h2⟩,fun j=>i2 (j+1),i3⟩
 |one _ ih=>
  intro hf
  obtain⟨h1,h2⟩:=de.mp hf
  obtain⟨i1,i2,i3⟩:=ih h1
  exact⟨de.mpr ⟨i1,h2⟩,fun j=>Nat.add_le_add_right (i2 j) _,i3⟩
 |other _ ih=>
  intro hf
  obtain⟨h1,h2⟩:=de.mp hf
  obtain⟨i1,i2,i3⟩:=ih h2
  exact⟨de.mpr ⟨h1,i1⟩,fun j=>Nat.add_le_add_left (i2 j) _,i3⟩
theorem fe:∀t:T W,t.ao.length+1<=t.lv
 | .name _=>Nat.le_refl _
 | .place _=>Nat.le_refl _
 | .aa b=>by
  show(b.ao.map (0::·)).length+1<=b.lv
  rw[List.length_map]
  exact fe b
 | .call a b=>by
  show((if a.bx then [[]] else [])++(a.ao.map (0::·)++b.ao.map (1::·))).length+1<=a.lv+b.lv
  have h1:=fe a
  have h2:=fe b
  rw[List.length_append,List.length_append,List.length_map,List.length_map]
  split<;>simp<;>omega
def ab:Nat->T W->T Unit
 |_,.name _=> .name ()
 |d,.place n=>bif Nat.ble d n then .name () else .place n
 |d,.aa b=> .aa (ab (d+1) b)
 |d,.call a b=> .call (ab d a) (ab d b)
theorem bO(d n:Nat):ab d (.place n:T W)=if n < d then .place n else .name ():=by
 show(bif Nat.ble d n then T.name () else T.place n)=_
 by_cases h:n < d
 ·rw[if_pos h]
  have:Nat.ble d n=false:=by rw[Bool.eq_false_iff];intro z;exact absurd (Nat.ble_eq.mp z) (by omega)
  rw[this]
  rfl
 ·rw[if_neg h]
  have:Nat.ble d n=true:=Nat.ble_eq.mpr (by omega)
  rw[this]
  rfl
theorem rK:∀(t:T W) (d j:Nat),j < d->bc j (ab d t)=bc j t
 | .name _,_,_,_=>rfl
 | .place n,d,j,h=>by
  rw[bO]
  by_cases h1:n < d
  ·rw[if_pos h1]
   rfl
  ·rw[if_neg h1]
   show 0=if n=j then 1 else 0
   rw[if_neg (by omega)]
 | .aa b,d,j,h=>rK b (d+1) (j+1) (by omega)
 | .call a b,d,j,h=>by show bc j (ab d a)+bc j (ab d b)=_;rw[rK a d j h,rK b d j h];rfl
theorem rL:∀(t:T W) (f:Bool) (d:Nat),br f d (ab d t)=br f d t
 | .name _,_,_=>rfl
 | .place n,f,d=>by
  rw[bO]
  by_cases h1:n < d
  ·rw[if_pos h1]
   rfl
  ·rw[if_neg h1]
   show 1=if n < d then 2 else 1
   rw[if_neg h1]
 | .aa b,f,d=>by
  show br false (d+1) (ab (d+1) b)+(if f=false/\bc 0 (ab (d+1) b)=0 then 1 else 0)=br false (d+1) b+_
  rw[rL b,rK b (d+1) 0 (Nat.succ_pos d)]
 | .call a b,f,d=>by show br true d (ab d a)+br false d (ab d b)=_;rw[rL a,rL b];rfl
theorem AS:∀(t:T W) (d:Nat),(ab d t).bx=t.bx
 | .name _,_=>rfl
 | .place n,d=>by rw[bO];split<;>rfl
 | .aa _,_=>rfl
 | .call _ _,_=>rfl
theorem kC:∀(t:T W) (d:Nat),(ab d t).ao=t.ao
 | .name _,_=>rfl
 | .place n,d=>by rw[bO];split<;>rfl
 | .aa b,d=>congrArg (List.map (0::·)) (kC b (d+1))
 | .call a b,d=>by
  show(if (ab d a).bx then [[]] else [])++((ab d a).ao.map (0::·)++(ab d b).ao.map (1::·))=_
  rw[AS,kC a,kC b]
  rfl
theorem rM:∀(t:T W) (d:Nat),d3 (ab d t)=d3 t
 | .name _,_=>rfl
 | .place n,d=>by rw[bO];split<;>rfl
 | .aa b,d=>by
  show(d3 (ab (d+1) b)&&Nat.ble (bc 0 (ab (d+1) b)) 1)=_
  rw[rM b,rK b (d+1) 0 (Nat.succ_pos d)]
  rfl
 | .call a b,d=>by show(d3 (ab d a)&&d3 (ab d b))=_;rw[rM a,rM b];rfl
theorem zq:∀(t:T W) (d d':Nat),d'<=d->ab d' (ab d t)=ab d' t
 | .name _,_,_,_=>rfl
 | .place n,d,d',h=>by
  rw[bO d n]
  by_cases h1:n < d
  ·rw[if_pos h1,bO,bO]
  ·rw[if_neg h1,bO,if_neg (by omega)]
   rfl
 | .aa b,d,d',h=>congrArg T.aa (zq b (d+1) (d'+1) (by omega))
 | .call a b,d,d',h=>by show T.call (ab d' (ab d a)) (ab d' (ab d b))=T.call _ _;rw[zq a d d' h,zq b d d' h]
theorem qm(m:Nat):∀(t:T W) (k d:Nat),k<=d->ab (d+m) (t.ae (aO m) k)=(ab d t).ae (aO m) k
 | .name _,_,_,_=>rfl
 | .place n,k,d,h=>by
  show ab (d+m) (if k<=n then T.place (n+m) else T.place n:T W)=_
  rw[bO d n]
  by_cases h1:k<=n
  ·rw[if_pos h1,bO]
   by_cases h2:n < d
   ·rw[if_pos h2,if_pos (by omega)]
    show _=if k<=n then T.place (n+m) else T.place n
    rw[if_pos h1]
   ·rw[if_neg h2,if_neg (by omega)]
    rfl
  ·rw[if_neg h1,bO,if_pos (by omega),if_pos (by omega)]
   show _=if k<=n then T.place (n+m) else T.place n
   rw[if_neg h1]
 | .aa b,k,d,h=>by
  show T.aa (ab (d+m+1) (b.ae (aO m) (k+1)))=T.aa ((ab (d+1) b).ae (aO m) (k+1))
  rw[show d+m+1=d+1+m by omega,qm m b (k+1) (d+1) (by omega)]
 | .call a b,k,d,h=>by show T.call _ _=T.call _ _;rw[qm m a k d h,qm m b k d h]
theorem lB(u:T W)(d:Nat):∀(t:T W) (k:Nat),ab (d+k) (t.ae (aK u) k)=(ab (d+k+1) t).ae (aK (ab d u)) k
 | .name _,_=>rfl
 | .place n,k=>by
  show ab (d+k) (if n < k then T.place n else if n=k then u.lift k else T.place (n - 1):T W)=_
  rw[bO (d+k+1) n]
  by_cases h:n < k
  ·rw[if_pos h,bO,if_pos (by omega),if_pos (by omega)]
   show _=if n < k then T.place n else _
   rw[if_pos h]
  ·rw[if_neg h]
   by_cases h0:n=k
   ·rw[if_pos h0,if_pos (by omega)]
    show _=if n < k then T.place n else if n=k then (ab d u).lift k else _
    rw[if_neg h,if_pos h0]
    exact qm k u 0 d (Nat.zero_le _)
   ·rw[if_neg h0,bO]
    by_cases h2:n < d+k+1
    ·rw[if_pos h2,if_pos (by omega)]
     show _=if n < k then T.place n else if n=k then (ab d u).lift k else T.place (n - 1)
     rw[if_neg h,if_neg h0]
    ·rw[if_neg h2,if_neg (by omega)]
     rfl
 | .aa b,k=>by
  show T.aa (ab (d+(k+1)) (b.ae (aK u) (k+1)))=T.aa ((ab (d+(k+1)+1) b).ae (aK (ab d u)) (k+1))
  rw[lB u d b (k+1)]
 | .call a b,k=>by show T.call _ _=T.call _ _;rw[lB u d a k,lB u d b k]
theorem Mt{d e:Nat}{t t' m n:T W}{p:List Int}(h:At d t p t' e m n):At d (ab d t) p (ab d t') e (ab (e+1) m) (ab e n):=by
 induction h with
 |@here d b u=>
  have e:ab d (b.fill u)=(ab (d+1) b).fill (ab d u):=lB u d b 0
  rw[e]
  exact .here
 |aa _ ih=>exact .aa ih
 |one _ ih=>exact .one ih
 |other _ ih=>exact .other ih
def core:T W->T Unit
 | .aa b=>core b
 |t=>ab 0 t
theorem lx:∀(t:T W) (d:Nat),core (ab d t)=core t
 | .name _,_=>rfl
 | .place n,d=>by
  rw[bO]
  show _=ab 0 (T.place n)
  rw[bO,if_neg (Nat.not_lt_zero _)]
  split
  ·show ab 0 (T.place n)=_
   rw[bO,if_neg (Nat.not_lt_zero _)]
  ·rfl
 | .aa b,d=>lx b (d+1)
 | .call a b,d=>zq (.call a b) d 0 (Nat.zero_le _)
theorem gP:∀t:T W,(core t).ao.length=t.ao.length
 | .name _=>rfl
 | .place n=>by show(ab 0 (T.place n:T W)).ao.length=_;rw[kC]
 | .aa b=>by show(core b).ao.length=(b.ao.map (0::·)).length;rw[List.length_map];exact gP b
 | .call a b=>by show(ab 0 (T.call a b)).ao.length=_;rw[kC]
theorem v7:∀(t:T W) (d:Nat),(ab d t).lv=t.lv
 | .name _,_=>rfl
 | .place n,d=>by rw[bO];split<;>rfl
 | .aa b,d=>v7 b (d+1)
 | .call a b,d=>by show(ab d a).lv+(ab d b).lv=_;rw[v7 a,v7 b];rfl
theorem nN:∀t:T W,(core t).lv=t.lv
 | .name _=>rfl
 | .place n=>v7 (.place n:T W) 0
 | .aa b=>nN b
 | .call a b=>v7 (.call a b) 0
theorem uB:∀{d e:Nat}{t t' m n:T W}{p:List Int},At d t p t' e m n->∃q e' u m' n',At 0 (core t) q u e' m' n'/\core t'=core u
 |d,e,.name _,t',m,n,p,h=>by cases h
 |d,e,.place _,t',m,n,p,h=>by cases h
 |d,e,.aa b,t',m,n,p,h=>by
  cases h with
  |aa h=>
   obtain⟨q,e',u,m',n',h1,h2⟩:=uB h
   exact⟨q,e',u,m',n',h1,h2⟩
 |d,e,.call a b,t',m,n,p,h=>by
  obtain⟨e1,m1,n1,h1⟩:=at_of p _ t' 0 (ql h)
  exact⟨p,e1,_,_,_,Mt h1,(lx t' 0).symm⟩
theorem ue:∀(t:T W) (f:Bool) (d:Nat),br f d t<=br f (d+1) t
 | .name _,_,_=>Nat.le_refl _
 | .place n,_,d=>by
  show(if n < d then 2 else 1)<=if n < d+1 then 2 else 1
  by_cases h:n < d
  ·rw[if_pos h,if_pos (by omega)]
   exact Nat.le_refl _
  ·rw[if_neg h]
   split<;>decide
 | .aa b,f,d=>Nat.add_le_add_right (ue b false (d+1)) _
 | .call a b,f,d=>Nat.add_le_add (ue a true d) (ue b false d)
theorem jD:∀t:T W,kp (core t)<=kp t
 | .name _=>Nat.le_refl _
 | .place n=>Nat.le_of_eq (rL (.place n:T W) false 0)
 | .aa b=>Nat.le_trans (jD b) (Nat.le_trans (ue b false 0) (Nat.le_add_right _ _))
 | .call a b=>Nat.le_of_eq (rL (.call a b) false 0)
theorem nO:∀t:T W,d3 t=true->d3 (core t)=true
 | .name _,_=>rfl
 | .place n,_=>by show d3 (ab 0 (T.place n:T W))=true;rw[rM];rfl
 | .aa b,h=>nO b (eL.mp h).1
 | .call a b,h=>by show d3 (ab 0 (T.call a b))=true;rw[rM];exact h
end
end NC
namespace NC
abbrev U:=T Unit
def oZ(L:Nat):Nat->U->Prop
 |0,c=>c.ao.length<=L/\c.lv<=L+40
 |k+1,c=>(c.ao.length<=L/\c.lv<=L+40)/\∀p u,aV c p=some u->oZ L k (core u)
theorem oZ.now{L:Nat}:∀{k:Nat}{c:U},oZ L k c->c.ao.length<=L/\c.lv<=L+40
 |0,_,h=>h
 |_+1,_,h=>h.1
theorem oZ.less{L:Nat}:∀{k:Nat}{c:U},oZ L (k+1) c->oZ L k c
 |0,_,h=>h.1
 |k+1,_,h=>⟨h.1,fun p u hs=>(h.2 p u hs).less⟩
theorem oZ.more{L L':Nat}(hl:L<=L'):∀{k:Nat}{c:U},oZ L k c->oZ L' k c
 |0,_,h=>⟨Nat.le_trans h.1 hl,Nat.le_trans h.2 (Nat.add_le_add_right hl _)⟩
 |k+1,_,h=>⟨⟨Nat.le_trans h.1.1 hl,Nat.le_trans h.1.2 (Nat.add_le_add_right hl _)⟩,fun p u hs=>(h.2 p u hs).more hl⟩
def Ok{W:Type}(L:Nat):Nat->T W->Prop
 |0,t=>t.ao.length<=L/\t.lv<=L+40
 |k+1,t=>(t.ao.length<=L/\t.lv<=L+40)/\∀p t',aV t p=some t'->Ok L k t'
theorem FZ{W:Type}{L:Nat}:∀(k:Nat) (t:T W),oZ L k (core t)->Ok L k t
 |0,t,h=>by
  have h:(core t).ao.length<=L/\(core t).lv<=L+40:=h
  rw[gP,nN] at h
  exact h
 |k+1,t,h=>by
  refine⟨by have:=h.1;rw[gP,nN] at this;exact this,fun p t' hs=>?_⟩
  obtain⟨e,m,n,ha⟩:=at_of p t t' 0 hs
  obtain⟨q,e',u,m',n',h1,h2⟩:=uB ha
  refine FZ k t' ?_
  rw[h2]
  exact h.2 q u (ql h1)
theorem iO{c:U}{L:Nat}(h:kp c<=L+1):c.ao.length<=L/\c.lv<=L+40:=by
 have h1:=fe c
 have h2:=Gd c
 exact⟨by omega,by omega⟩
def G2:Nat->Nat
 |0=>61
 |1=>22
 |2=>13
 |3=>10
 |4=>9
 |_=>8
def iD(X Y:Nat):Bool:=(List.range (X+1)).all fun m=>(List.range (X+1)).all fun b=> !Nat.ble (2*m+b) X||Nat.ble (X+jO m b) Y
theorem ux{X Y m b k:Nat}(hk:k<=X)(h:2*m+b<=k)(hg:iD X Y=true):k+jO m b<=Y:=by
 have h1:=List.all_eq_true.mp hg m (List.mem_range.mpr (by omega))
 have h2:=List.all_eq_true.mp h1 b (List.mem_range.mpr (by omega))
 have h3:Nat.ble (2*m+b) X=true:=Nat.ble_eq.mpr (by omega)
 rw[h3] at h2
 have h4:=Nat.ble_eq.mp (show Nat.ble (X+jO m b) Y=true from h2)
 omega
theorem zm{W:Type}{e:Nat}{t t' m n:T W}{p:List Int}(h:At 0 t p t' e m n):2*bc 0 m+br false e n<=kp t:=by
 have h1:=ja h false
 have h2:=jy m 0 (e+1) false (Nat.succ_pos e)
 have h1:_<=kp t:=h1
 omega
theorem Gb{X Y:Nat}{c u:U}{p:List Int}(hs:aV c p=some u)(h:kp c<=X)(hg:iD X Y=true):kp (core u)<=Y:=by
 obtain⟨e,m,n,ha⟩:=at_of p c u 0 hs
 exact Nat.le_trans (jD u) (Nat.le_trans (nj ha) (ux h (zm ha) hg))
theorem kR:∀(k:Nat) (c:U),kp c<=G2 k->oZ 60 k c
 |0,c,h=>iO h
 |k+1,c,h=>⟨iO (Nat.le_trans h (G1 k)),fun p u hs=>kR k _ (Gb hs h (Br k))⟩
where
 G1:∀k,G2 (k+1)<=61
  |0=>by decide
  |1=>by decide
  |2=>by decide
  |3=>by decide
  |_+4=>by show 8<=61;decide
 Br:∀k,iD (G2 (k+1)) (G2 k)=true
  |0=>by decide+kernel
  |1=>by decide+kernel
  |2=>by decide+kernel
  |3=>by decide+kernel
  |4=>by decide+kernel
  |_+5=>by show iD 8 8=true;decide+kernel
theorem CM{m b:Nat}(h:m<=1):jO m b=0:=by
 unfold jO
 have:m*b<=1*b:=Nat.mul_le_mul_right _ h
 omega
theorem pZ:∀(k:Nat) (c:U),d3 c=true->kp c<=61->oZ 60 k c
 |0,c,_,h=>iO h
 |k+1,c,hf,h=>by
  refine⟨iO h,fun p u hs=>?_⟩
  obtain⟨e,m,n,ha⟩:=at_of p c u 0 hs
  obtain⟨f1,f2,f3⟩:=IU ha hf
  refine pZ k _ (nO u f1) (Nat.le_trans (jD u) (Nat.le_trans (nj ha) ?_))
  rw[CM f3]
  exact h
def red:U->List U
 | .name _=>[]
 | .place _=>[]
 | .aa b=>(red b).map .aa
 | .call a b=>(match a with
  | .aa c=>[c.fill b]
  |_=>[])++((red a).map (fun x=> .call x b)++(red b).map (fun x=> .call a x))
theorem Hj{d e:Nat}{t t' m n:U}{p:List Int}(h:At d t p t' e m n):t'∈red t:=by
 induction h with
 |here=>exact List.mem_append_left _ (List.mem_singleton.mpr rfl)
 |aa _ ih=>exact List.mem_map.mpr ⟨_,ih,rfl⟩
 |one _ ih=>exact List.mem_append_right _ (List.mem_append_left _ (List.mem_map.mpr ⟨_,ih,rfl⟩))
 |other _ ih=>exact List.mem_append_right _ (List.mem_append_right _ (List.mem_map.mpr ⟨_,ih,rfl⟩))
def oB:Nat->U->Nat
 |_,.name _=>0
 |k,.place n=>bif Nat.beq n k then 1 else 0
 |k,.aa b=>oB (k+1) b
 |k,.call a b=>oB k a+oB k b
def kB:Bool->Nat->U->Nat
 |_,_,.name _=>1
 |_,d,.place n=>bif Nat.ble d n then 1 else 2
 |f,d,.aa b=>kB false (d+1) b+(bif f then 0 else bif Nat.beq (oB 0 b) 0 then 1 else 0)
 |_,d,.call a b=>kB true d a+kB false d b
theorem yz:∀(t:U) (k:Nat),oB k t=bc k t
 | .name _,_=>rfl
 | .place n,k=>by
  show(bif Nat.beq n k then 1 else 0)=if n=k then 1 else 0
  by_cases h:n=k
  ·rw[if_pos h,h,Nat.beq_refl]
   rfl
  ·rw[if_neg h]
   have:Nat.beq n k=false:=by rw[Bool.eq_false_iff];exact fun z=>h (Nat.eq_of_beq_eq_true z)
   rw[this]
   rfl
 | .aa b,k=>yz b (k+1)
 | .call a b,k=>by show oB k a+oB k b=_;rw[yz a,yz b];rfl
theorem kx:∀(t:U) (f:Bool) (d:Nat),kB f d t=br f d t
 | .name _,_,_=>rfl
 | .place n,f,d=>by
  show(bif Nat.ble d n then 1 else 2)=if n < d then 2 else 1
  by_cases h:n < d
  ·rw[if_pos h]
   have:Nat.ble d n=false:=by rw[Bool.eq_false_iff];intro z;exact absurd (Nat.ble_eq.mp z) (by omega)
   rw[this]
   rfl
  ·rw[if_neg h]
   have:Nat.ble d n=true:=Nat.ble_eq.mpr (by omega)
   rw[this]
   rfl
 | .aa b,f,d=>by
  show kB false (d+1) b+(bif f then 0 else bif Nat.beq (oB 0 b) 0 then 1 else 0)=br false (d+1) b+(if f=false/\bc 0 b=0 then 1 else 0)
  rw[kx b,yz]
  cases f with
  |true=>rfl
  |false=>
   by_cases h:bc 0 b=0
   ·rw[h];rfl
   ·rw[if_neg fun z=>h z.2]
    have:Nat.beq (bc 0 b) 0=false:=by rw[Bool.eq_false_iff];exact fun z=>h (Nat.eq_of_beq_eq_true z)
    rw[this]
    rfl
 | .call a b,f,d=>by show kB true d a+kB false d b=_;rw[kx a,kx b];rfl
def rc:U->Nat
 | .name _=>0
 | .place _=>0
 | .aa b=>rc b
 | .call a b=>(match a with
  | .aa c=>rc c+1
  |a=>rc a)+rc b
theorem mV:∀t:U,rc t=t.ao.length
 | .name _=>rfl
 | .place _=>rfl
 | .aa b=>by show rc b=(b.ao.map (0::·)).length;rw[List.length_map];exact mV b
 | .call (.aa c) b=>by
  have h1:=mV c
  have h2:=mV b
  show rc c+1+rc b=([[]]++((c.ao.map (0::·)).map (0::·)++b.ao.map (1::·))).length
  simp only[List.length_append,List.length_map,List.length_singleton]
  omega
 | .call (.name _) b=>by
  have h2:=mV b
  show 0+rc b=([]++([]++b.ao.map (1::·))).length
  simp only[List.length_append,List.length_map,List.length_nil]
  omega
 | .call (.place _) b=>by
  have h2:=mV b
  show 0+rc b=([]++([]++b.ao.map (1::·))).length
  simp only[List.length_append,List.length_map,List.length_nil]
  omega
 | .call (.call x y) b=>by
  have h1:=mV (.call x y)
  have h2:=mV b
  show rc (.call x y)+rc b=([]++((T.call x y).ao.map (0::·)++b.ao.map (1::·))).length
  simp only[List.length_append,List.length_map,List.length_nil]
  omega
def O9(n:Nat)(k:Nat->Bool):Bool:=bif Nat.beq n 0 then k 0 else bif Nat.beq n 1 then k 1 else bif Nat.beq n 2 then k 2 else bif Nat.beq n 3 then k 3 else k n
theorem HD(n:Nat)(k:Nat->Bool):O9 n k=k n:=by
 unfold O9
 match n with
 |0=>rfl
 |1=>rfl
 |2=>rfl
 |3=>rfl
 |n+4=>rfl
def nf:U->(U->Bool)->Bool
 | .name _,k=>k (.name ())
 | .place n,k=>O9 n (fun n=>k (.place n))
 | .aa b,k=>nf b (fun b=>k (.aa b))
 | .call a b,k=>nf a (fun a=>nf b (fun b=>k (.call a b)))
theorem sI:∀(t:U) (k:U->Bool),nf t k=k t
 | .name _,_=>rfl
 | .place n,k=>HD n _
 | .aa b,k=>sI b _
 | .call a b,k=>by show nf a _=_;rw[sI a,sI b]
def DN:Nat->U->Bool
 |0,t=>Nat.ble (rc t) 60&&Nat.ble t.lv 100
 |k+1,t=>bif Nat.ble (kB false 0 t) (G2 (k+1)) then true else bif d3 t&&Nat.ble (kB false 0 t) 61 then true else bif Nat.ble (rc t) 60&&Nat.ble t.lv 100 then (red t).all (fun u=>nf (core u) (DN k)) else false
theorem xQ:∀(k:Nat) (c:U),DN k c=true->oZ 60 k c
 |0,c,h=>by
  have h:(Nat.ble (rc c) 60&&Nat.ble c.lv 100)=true:=h
  rw[Bool.and_eq_true,Nat.ble_eq,Nat.ble_eq,mV] at h
  exact h
 |k+1,c,h=>by
  have h:(bif Nat.ble (kB false 0 c) (G2 (k+1)) then true else bif d3 c&&Nat.ble (kB false 0 c) 61 then true else bif Nat.ble (rc c) 60&&Nat.ble c.lv 100 then (red c).all (fun u=>nf (core u) (DN k)) else false)=true:=h
  cases h1:Nat.ble (kB false 0 c) (G2 (k+1)) with
  |true=>
   have:=Nat.ble_eq.mp h1
   rw[kx] at this
   exact kR (k+1) c this
  |false=>
   rw[h1] at h
   have h:(bif d3 c&&Nat.ble (kB false 0 c) 61 then true else bif Nat.ble (rc c) 60&&Nat.ble c.lv 100 then (red c).all (fun u=>nf (core u) (DN k)) else false)=true:=h
   cases h2:(d3 c&&Nat.ble (kB false 0 c) 61) with
   |true=>
    rw[Bool.and_eq_true] at h2
    have:=Nat.ble_eq.mp h2.2
    rw[kx] at this
    exact pZ (k+1) c h2.1 this
   |false=>
    rw[h2] at h
    have h:(bif Nat.ble (rc c) 60&&Nat.ble c.lv 100 then (red c).all (fun u=>nf (core u) (DN k)) else false)=true:=h
    cases h3:(Nat.ble (rc c) 60&&Nat.ble c.lv 100) with
    |false=>rw[h3] at h;cases h
    |true=>
     rw[h3] at h
     have h:(red c).all (fun u=>nf (core u) (DN k))=true:=h
     rw[Bool.and_eq_true,Nat.ble_eq,Nat.ble_eq,mV] at h3
     have h4:=h3
     refine⟨h4,fun p u hs=>?_⟩
     obtain⟨e,m,n,ha⟩:=at_of p c u 0 hs
     have h5:=List.all_eq_true.mp h u (Hj ha)
     rw[sI] at h5
     exact xQ k _ h5
end NC
namespace NC
section
variable {W:Type}
def cl:Nat->T W->Prop
 |_,.name _=>True
 |d,.place n=>n < d
 |d,.aa b=>cl (d+1) b
 |d,.call a b=>cl d a/\cl d b
theorem vY:∀(t:T W) (d:Nat),cl d (ab d t)
 | .name _,_=>trivial
 | .place n,d=>by
  rw[bO]
  by_cases h:n < d
  ·rw[if_pos h];exact h
  ·rw[if_neg h];trivial
 | .aa b,d=>vY b (d+1)
 | .call a b,d=>⟨vY a d,vY b d⟩
def sm:Nat->(Nat->Nat)->Nat
 |0,_=>0
 |d+1,g=>g 0+sm d (fun j=>g (j+1))
theorem Bw:∀(d:Nat) (g h:Nat->Nat),sm d (fun j=>g j+h j)=sm d g+sm d h
 |0,_,_=>rfl
 |d+1,g,h=>by
  show g 0+h 0+sm d (fun j=>g (j+1)+h (j+1))=g 0+sm d (fun j=>g (j+1))+(h 0+sm d (fun j=>h (j+1)))
  rw[Bw d]
  omega
theorem pW:∀d:Nat,sm d (fun _=>0)=0
 |0=>rfl
 |d+1=>by show 0+sm d (fun _=>0)=0;rw[pW d]
theorem FP:∀(d z:Nat) (g:Nat->Nat),z < d->g z<=sm d g
 |0,_,_,h=>absurd h (Nat.not_lt_zero _)
 |d+1,0,g,_=>Nat.le_add_right _ _
 |d+1,z+1,g,h=>Nat.le_trans (FP d z (fun j=>g (j+1)) (by omega)) (Nat.le_add_left _ _)
theorem w4:∀(d n:Nat),sm d (fun j=>if n=j then 1 else 0)<=1
 |0,_=>Nat.zero_le _
 |d+1,0=>by
  show(if 0=0 then 1 else 0)+sm d (fun j=>if 0=j+1 then 1 else 0)<=1
  have e:(fun j=>if 0=j+1 then 1 else 0)=fun _:Nat=>0:=funext fun j=>if_neg (by omega)
  rw[e,pW,if_pos rfl]
  exact Nat.le_refl _
 |d+1,n+1=>by
  show(if n+1=0 then 1 else 0)+sm d (fun j=>if n+1=j+1 then 1 else 0)<=1
  have e:(fun j=>if n+1=j+1 then 1 else 0)=fun j:Nat=>if n=j then 1 else 0:=funext fun j=>by
   by_cases h:n=j
   ·rw[if_pos h,if_pos (by omega)]
   ·rw[if_neg h,if_neg (by omega)]
  rw[e,if_neg (by omega),Nat.zero_add]
  exact w4 d n
def oc(t:T W)(j:Nat):Nat:=bc j t
theorem yl(d:Nat)(a b:T W):sm d (oc (.call a b))=sm d (oc a)+sm d (oc b):=Bw d (oc a) (oc b)
theorem fq:∀(t:T W) (f:Bool) (d:Nat),cl d t->2*sm d (oc t)<=br f d t
 | .name _,f,d,_=>by
  have:sm d (fun _=>0)=0:=pW d
  show 2*sm d (fun _=>0)<=1
  omega
 | .place n,f,d,h=>by
  have h:n < d:=h
  have h1:=w4 d n
  show 2*sm d (fun j=>if n=j then 1 else 0)<=if n < d then 2 else 1
  rw[if_pos h]
  omega
 | .aa b,f,d,h=>by
  have h1:=fq b false (d+1) h
  have h1:2*(bc 0 b+sm d (oc (.aa b)))<=br false (d+1) b:=h1
  show _<=br false (d+1) b+_
  omega
 | .call a b,f,d,h=>by
  have h1:=fq a true d h.1
  have h2:=fq b false d h.2
  rw[yl]
  show _<=br true d a+br false d b
  omega
theorem jz:∀(t:T W) (f:Bool) (d:Nat),cl d t->d3 t=false->4+2*sm d (oc t)<=br f d t
 | .name _,_,_,_,h=>by cases h
 | .place _,_,_,_,h=>by cases h
 | .aa b,f,d,hc,h=>by
  show 4+_<=br false (d+1) b+_
  by_cases hb:d3 b=true
  ·have h2:¬bc 0 b<=1:=fun z=>by rw[eL.mpr ⟨hb,z⟩] at h;cases h
   have h1:2*(bc 0 b+sm d (oc (.aa b)))<=br false (d+1) b:=fq b false (d+1) hc
   omega
  ·have h1:4+2*(bc 0 b+sm d (oc (.aa b)))<=br false (d+1) b:=jz b false (d+1) hc (by simpa using hb)
   omega
 | .call a b,f,d,hc,h=>by
  rw[yl]
  show _<=br true d a+br false d b
  by_cases ha:d3 a=true
  ·have hb:d3 b=false:=by
    cases hb:d3 b with
    |false=>rfl
    |true=>rw[de.mpr ⟨ha,hb⟩] at h;cases h
   have h1:=fq a true d hc.1
   have h2:=jz b false d hc.2 hb
   omega
  ·have h1:=jz a true d hc.1 (by simpa using ha)
   have h2:=fq b false d hc.2
   omega
end
def zN:Nat->(Nat->Bool)->Bool
 |0,_=>true
 |n+1,k=>k n&&zN n k
theorem xb:∀{n:Nat}{k:Nat->Bool},zN n k=true->∀i,i < n->k i=true
 |0,_,_,i,hi=>absurd hi (Nat.not_lt_zero _)
 |n+1,k,h,i,hi=>by
  have h:(k n&&zN n k)=true:=h
  rw[Bool.and_eq_true] at h
  by_cases e:i=n
  ·rw[e];exact h.1
  ·exact xb h.2 i (by omega)
def lb:Nat->Nat
 |0=>1
 |n+1=>2*(n+1)
def kA:Nat->Bool->Nat->Nat->Nat->Nat->Nat->(U->Bool)->Bool
 |0,_,_,_,_,_,_,_=>true
 |s+1,f,d,z,n,p,X,k=>
  bif Nat.ble (2*n+2*p) X&&Nat.ble 1 X then
   (bif Nat.beq (n+p) 0 then k (.name ()) else true)
   &&((bif Nat.ble 2 X&&Nat.ble (n+p) 1 then zN d (fun i=>bif Nat.beq n 0||Nat.beq i z then k (.place i) else true) else true)
   &&(kA s false (d+1) (z+1) n p (bif f then X else X - 1) (fun b=>bif Nat.ble (kB f d (.aa b)) X then k (.aa b) else true)
   &&(kA s false (d+1) (z+1) n (p+1) X (fun b=>bif Nat.ble (kB f d (.aa b)) X then k (.aa b) else true)
   &&zN (n+1) (fun na=>kA s true d z na 0 (X - lb (n - na)) (fun a=>kA s false d z (n - na) 0 (X - kB true d a) (fun b=>k (.call a b)))))))
  else true
def rC:Nat->Bool->Nat->Nat->Nat->(U->Bool)->Bool
 |0,_,_,_,_,_=>true
 |s+1,f,d,p,X,k=>
  bif Nat.ble (4+2*p) X then
   kA s false (d+1) 0 2 p X (fun b=>bif Nat.ble (kB f d (.aa b)) X then k (.aa b) else true)
   &&(rC s false (d+1) p (bif f then X else X - 1) (fun b=>bif Nat.ble (kB f d (.aa b)) X then k (.aa b) else true)
   &&(rC s false (d+1) (p+1) X (fun b=>bif Nat.ble (kB f d (.aa b)) X then k (.aa b) else true)
   &&(rC s true d 0 (X - 1) (fun a=>kA s false d d 0 0 (X - kB true d a) (fun b=>k (.call a b)))
   &&kA s true d d 0 0 (X - 4) (fun a=>rC s false d 0 (X - kB true d a) (fun b=>k (.call a b))))))
  else true
def uy(s X:Nat)(k:U->U->Bool):Bool:=rC s false 0 0 (X - 4) (fun n=>kA s false 1 0 2 0 (X - kB false 0 n) (fun m=>k m n))
end NC
namespace NC
theorem Lc{n:Nat}{X:Nat}(h:2*n<=X)(h1:1<=X):lb n<=X:=by
 cases n with
 |zero=>exact h1
 |succ n=>exact h
theorem i9{b:U}{s:Nat}(h:(T.aa b).deep<=s+1):b.deep<=s:=Nat.le_of_succ_le_succ h
theorem ic:∀(s:Nat) (f:Bool) (d z n p X:Nat) (k:U->Bool),kA s f d z n p X k=true->∀t:U,t.deep<=s->cl d t->br f d t<=X->n<=bc z t->n+p<=sm d (oc t)->k t=true
 |0,f,d,z,n,p,X,k,_,t,hd,_,_,_,_=>by
  cases t<;>simp[T.deep] at hd
 |s+1,f,d,z,n,p,X,k,h,t,hd,hc,hX,hn,hp=>by
  have h1:=cF t f d
  have h2:=fq t f d hc
  have hb:(Nat.ble (2*n+2*p) X&&Nat.ble 1 X)=true:=by
   rw[Bool.and_eq_true,Nat.ble_eq,Nat.ble_eq]
   omega
  unfold kA at h
  rw[hb] at h
  have h:((bif Nat.beq (n+p) 0 then k (.name ()) else true)&&((bif Nat.ble 2 X&&Nat.ble (n+p) 1 then zN d (fun i=>bif Nat.beq n 0||Nat.beq i z then k (.place i) else true) else true)&&(kA s false (d+1) (z+1) n p (bif f then X else X - 1) (fun b=>bif Nat.ble (kB f d (.aa b)) X then k (.aa b) else true)&&(kA s false (d+1) (z+1) n (p+1) X (fun b=>bif Nat.ble (kB f d (.aa b)) X then k (.aa b) else true)&&zN (n+1) (fun na=>kA s true d z na 0 (X - lb (n - na)) (fun a=>kA s false d z (n - na) 0 (X - kB true d a) (fun b=>k (.call a b))))))))=true:=h
  rw[Bool.and_eq_true,Bool.and_eq_true,Bool.and_eq_true,Bool.and_eq_true] at h
  obtain⟨q1,q2,q3,q4,q5⟩:=h
  cases t with
  |name w=>
   have e:sm d (oc (T.name w))=0:=pW d
   have e2:Nat.beq (n+p) 0=true:=by rw[show n+p=0 by omega];rfl
   rw[e2] at q1
   exact q1
  |place i=>
   have hi:i < d:=hc
   have e:sm d (oc (T.place i:U))<=1:=w4 d i
   have hX:(if i < d then 2 else 1)<=X:=hX
   rw[if_pos hi] at hX
   have e2:(Nat.ble 2 X&&Nat.ble (n+p) 1)=true:=by
    rw[Bool.and_eq_true,Nat.ble_eq,Nat.ble_eq]
    omega
   rw[e2] at q2
   have q:=xb (show zN d _=true from q2) i hi
   have hn:n<=if i=z then 1 else 0:=hn
   have e3:(Nat.beq n 0||Nat.beq i z)=true:=by
    by_cases ez:i=z
    ·rw[ez,Nat.beq_refl,Bool.or_true]
    ·rw[if_neg ez] at hn
     rw[show n=0 by omega]
     rfl
   rw[e3] at q
   exact q
  |aa b=>
   have CG:br false (d+1) b+(if f=false/\bc 0 b=0 then 1 else 0)<=X:=hX
   have Qk:n+p<=sm d (oc (T.aa b)):=hp
   have es:sm (d+1) (oc b)=bc 0 b+sm d (oc (T.aa b)):=rfl
   have e2:Nat.ble (kB f d (.aa b)) X=true:=by rw[kx,Nat.ble_eq];exact hX
   by_cases h0:bc 0 b=0
   ·have q:=ic s false (d+1) (z+1) n p _ _ q3 b (i9 hd) hc (by
     cases f with
     |true=>rw[if_neg fun z=>nomatch z.1] at CG;exact CG
     |false=>rw[if_pos ⟨rfl,h0⟩] at CG;show _<=X - 1;omega) hn (by omega)
    rw[e2] at q
    exact q
   ·have q:=ic s false (d+1) (z+1) n (p+1) _ _ q4 b (i9 hd) hc (by rw[if_neg fun z=>h0 z.2] at CG;exact CG) hn (by omega)
    rw[e2] at q
    exact q
  |call a b=>
   have LZ:max a.deep b.deep+1<=s+1:=hd
   have CG:br true d a+br false d b<=X:=hX
   have Uz:n<=bc z a+bc z b:=hn
   have UO:=cF a true d
   have ur:=cF b false d
   have hA:=fq a true d hc.1
   have hB:=fq b false d hc.2
   have hz:∀(x:U),cl d x->bc z x<=sm d (oc x):=fun x hx=>by
    by_cases h:z < d
    ·exact FP d z (oc x) h
    ·rw[uD x d z hx (by omega)];exact Nat.zero_le _
   have hza:=hz a hc.1
   have hzb:=hz b hc.2
   have q:=xb q5 (min n (bc z a)) (by omega)
   have hlb:lb (n - min n (bc z a))<=br false d b:=Lc (by omega) ur
   have qa:=ic s true d z _ 0 _ _ q a (by omega) hc.1 (by omega) (by omega) (by omega)
   exact ic s false d z _ 0 _ _ qa b (by omega) hc.2 (by rw[kx];omega) (by omega) (by omega)
where
 uD:∀(t:U) (d z:Nat),cl d t->d<=z->bc z t=0
  | .name _,_,_,_,_=>rfl
  | .place n,d,z,h,hz=>by
   have h:n < d:=h
   exact if_neg (by omega)
  | .aa b,d,z,h,hz=>uD b (d+1) (z+1) h (by omega)
  | .call a b,d,z,h,hz=>by show bc z a+bc z b=0;rw[uD a d z h.1 hz,uD b d z h.2 hz]
theorem nK:∀(s:Nat) (f:Bool) (d p X:Nat) (k:U->Bool),rC s f d p X k=true->∀t:U,t.deep<=s->cl d t->br f d t<=X->d3 t=false->p<=sm d (oc t)->k t=true
 |0,f,d,p,X,k,_,t,hd,_,_,_,_=>by
  cases t<;>simp[T.deep] at hd
 |s+1,f,d,p,X,k,h,t,hd,hc,hX,hf,hp=>by
  have h2:=jz t f d hc hf
  have hb:Nat.ble (4+2*p) X=true:=by rw[Nat.ble_eq];omega
  unfold rC at h
  rw[hb] at h
  have h:(kA s false (d+1) 0 2 p X (fun b=>bif Nat.ble (kB f d (.aa b)) X then k (.aa b) else true)&&(rC s false (d+1) p (bif f then X else X - 1) (fun b=>bif Nat.ble (kB f d (.aa b)) X then k (.aa b) else true)&&(rC s false (d+1) (p+1) X (fun b=>bif Nat.ble (kB f d (.aa b)) X then k (.aa b) else true)&&(rC s true d 0 (X - 1) (fun a=>kA s false d d 0 0 (X - kB true d a) (fun b=>k (.call a b)))&&kA s true d d 0 0 (X - 4) (fun a=>rC s false d 0 (X - kB true d a) (fun b=>k (.call a b)))))))=true:=h
  rw[Bool.and_eq_true,Bool.and_eq_true,Bool.and_eq_true,Bool.and_eq_true] at h
  obtain⟨q1,q2,q3,q4,q5⟩:=h
  cases t with
  |name _=>cases hf
  |place _=>cases hf
  |aa b=>
   have CG:br false (d+1) b+(if f=false/\bc 0 b=0 then 1 else 0)<=X:=hX
   have es:sm (d+1) (oc b)=bc 0 b+sm d (oc (T.aa b)):=rfl
   have e2:Nat.ble (kB f d (.aa b)) X=true:=by rw[kx,Nat.ble_eq];exact hX
   by_cases hb:d3 b=true
   ·have h3:¬bc 0 b<=1:=fun z=>by rw[eL.mpr ⟨hb,z⟩] at hf;cases hf
    have q:=ic s false (d+1) 0 2 p X _ q1 b (i9 hd) hc (by omega) (by omega) (by omega)
    rw[e2] at q
    exact q
   ·have hb:d3 b=false:=by simpa using hb
    by_cases h0:bc 0 b=0
    ·have q:=nK s false (d+1) p _ _ q2 b (i9 hd) hc (by
      cases f with
      |true=>rw[if_neg fun z=>nomatch z.1] at CG;exact CG
      |false=>rw[if_pos ⟨rfl,h0⟩] at CG;show _<=X - 1;omega) hb (by omega)
     rw[e2] at q
     exact q
    ·have q:=nK s false (d+1) (p+1) _ _ q3 b (i9 hd) hc (by omega) hb (by omega)
     rw[e2] at q
     exact q
  |call a b=>
   have LZ:max a.deep b.deep+1<=s+1:=hd
   have CG:br true d a+br false d b<=X:=hX
   have UO:=cF a true d
   have ur:=cF b false d
   by_cases ha:d3 a=true
   ·have hb:d3 b=false:=by
     cases hb:d3 b with
     |false=>rfl
     |true=>rw[de.mpr ⟨ha,hb⟩] at hf;cases hf
    have h4:=jz b false d hc.2 hb
    have q:=ic s true d d 0 0 _ _ q5 a (by omega) hc.1 (by omega) (Nat.zero_le _) (Nat.zero_le _)
    exact nK s false d 0 _ _ q b (by omega) hc.2 (by rw[kx];omega) hb (Nat.zero_le _)
   ·have ha:d3 a=false:=by simpa using ha
    have q:=nK s true d 0 _ _ q4 a (by omega) hc.1 (by omega) ha (Nat.zero_le _)
    exact ic s false d d 0 0 _ _ q b (by omega) hc.2 (by rw[kx];omega) (Nat.zero_le _) (Nat.zero_le _)
theorem yZ{X:Nat}{k:U->U->Bool}(h:uy 20 X k=true){m n:U}(hm:cl 1 m)(hn:cl 0 n)(hX:br false 1 m+br false 0 n<=X)(AI:X<=10)(h2:2<=bc 0 m)(hf:d3 n=false):k m n=true:=by
 have h3:=fq m false 1 hm
 have es:sm 1 (oc m)=bc 0 m+0:=rfl
 have h4:=jz n false 0 hn hf
 have d1:=CY n 0 (by omega)
 have d2:=CY m 1 (by omega)
 have q:=nK 20 false 0 0 _ _ h n d1 hn (by omega) hf (Nat.zero_le _)
 exact ic 20 false 1 0 2 0 _ _ q m d2 hm (by rw[kx];omega) h2 (by omega)
where
 CY (t:U) (d:Nat) (h:br false d t<=6):t.deep<=20:=by
  have h1:=gM t d false
  rw[if_neg (by decide)] at h1
  exact Nat.le_trans (T.fw t) (by omega)
section
variable {W:Type} (w:W)
theorem kH(k:Nat):∀(u:T W) (c j:Nat),c<=j->(u.ae (aO k) c).ae (aK (.name w)) (k+j)=(u.ae (aK (.name w)) j).ae (aO k) c
 | .name _,_,_,_=>rfl
 | .place n,c,j,h=>by
  show(if c<=n then T.place (n+k) else T.place n:T W).ae (aK (.name w)) (k+j)=(if n < j then T.place n else if n=j then (T.name w).lift j else T.place (n - 1):T W).ae (aO k) c
  by_cases h1:c<=n
  ·rw[if_pos h1]
   show(if n+k < k+j then T.place (n+k) else if n+k=k+j then (T.name w).lift (k+j) else T.place (n+k - 1):T W)=_
   by_cases h2:n < j
   ·rw[if_pos h2,if_pos (by omega)]
    show _=(if c<=n then T.place (n+k) else T.place n:T W)
    rw[if_pos h1]
   ·rw[if_neg h2,if_neg (by omega)]
    by_cases h3:n=j
    ·rw[if_pos h3,if_pos (by omega)]
     rfl
    ·rw[if_neg h3,if_neg (by omega)]
     show _=(if c<=n - 1 then T.place (n - 1+k) else T.place (n - 1):T W)
     rw[if_pos (by omega),show n - 1+k=n+k - 1 by omega]
  ·rw[if_neg h1,if_pos (by omega)]
   show(if n < k+j then T.place n else _:T W)=(if c<=n then T.place (n+k) else T.place n:T W)
   rw[if_pos (by omega),if_neg h1]
 | .aa b,c,j,h=>congrArg T.aa (kH k b (c+1) (j+1) (by omega))
 | .call a b,c,j,h=>by show T.call _ _=T.call _ _;rw[kH k a c j h,kH k b c j h]
theorem kI(u:T W)(j:Nat):∀(t:T W) (k:Nat),(t.ae (aK u) k).ae (aK (.name w)) (k+j)=(t.ae (aK (.name w)) (k+j+1)).ae (aK (u.ae (aK (.name w)) j)) k
 | .name _,_=>rfl
 | .place n,k=>by
  show(if n < k then T.place n else if n=k then u.lift k else T.place (n - 1):T W).ae (aK (.name w)) (k+j)=(if n < k+j+1 then T.place n else if n=k+j+1 then (T.name w).lift (k+j+1) else T.place (n - 1):T W).ae (aK (u.ae (aK (.name w)) j)) k
  by_cases h1:n < k
  ·rw[if_pos h1,if_pos (by omega)]
   show(if n < k+j then T.place n else _:T W)=(if n < k then T.place n else _:T W)
   rw[if_pos (by omega),if_pos h1]
  ·rw[if_neg h1]
   by_cases h2:n=k
   ·rw[if_pos h2,if_pos (by omega)]
    show _=(if n < k then T.place n else if n=k then (u.ae (aK (.name w)) j).lift k else _:T W)
    rw[if_neg h1,if_pos h2]
    exact kH w k u 0 j (Nat.zero_le _)
   ·rw[if_neg h2]
    show(if n - 1 < k+j then T.place (n - 1) else if n - 1=k+j then (T.name w).lift (k+j) else T.place (n - 1 - 1):T W)=_
    by_cases h3:n < k+j+1
    ·rw[if_pos h3,if_pos (by omega)]
     show _=(if n < k then T.place n else if n=k then _ else T.place (n - 1):T W)
     rw[if_neg h1,if_neg h2]
    ·rw[if_neg h3,if_neg (by omega)]
     by_cases h4:n=k+j+1
     ·rw[if_pos h4,if_pos (by omega)]
      rfl
     ·rw[if_neg h4,if_neg (by omega)]
      show _=(if n - 1 < k then T.place (n - 1) else if n - 1=k then _ else T.place (n - 1 - 1):T W)
      rw[if_neg (by omega),if_neg (by omega)]
 | .aa b,k=>by
  show T.aa ((b.ae (aK u) (k+1)).ae (aK (.name w)) (k+j+1))=T.aa ((b.ae (aK (.name w)) (k+j+1+1)).ae _ (k+1))
  rw[show k+j+1=k+1+j by omega,kI u j b (k+1)]
 | .call a b,k=>by show T.call _ _=T.call _ _;rw[kI u j a k,kI u j b k]
theorem DO{d e:Nat}{t t' m n:T W}{p:List Int}(h:At d t p t' e m n):∀j,∃e' m' n',At d (t.ae (aK (.name w)) j) p (t'.ae (aK (.name w)) j) e' m' n':=by
 induction h with
 |@here d b u=>
  intro j
  have e:(b.fill u).ae (aK (.name w)) j=(b.ae (aK (.name w)) (j+1)).fill (u.ae (aK (.name w)) j):=by
   have:=kI w u j b 0
   rw[Nat.zero_add] at this
   exact this
  rw[e]
  exact⟨_,_,_,.here⟩
 |aa _ ih=>exact fun j=>let ⟨_,_,_,h⟩:=ih (j+1);⟨_,_,_,.aa h⟩
 |one _ ih=>exact fun j=>let ⟨_,_,_,h⟩:=ih j;⟨_,_,_,.one h⟩
 |other _ ih=>exact fun j=>let ⟨_,_,_,h⟩:=ih j;⟨_,_,_,.other h⟩
theorem uZ:∀(t:T W) (j:Nat),(t.ae (aK (.name w)) j).bx=t.bx
 | .name _,_=>rfl
 | .place n,j=>by
  show(if n < j then T.place n else if n=j then (T.name w).lift j else T.place (n - 1):T W).bx=false
  split
  ·rfl
  ·split<;>rfl
 | .aa _,_=>rfl
 | .call _ _,_=>rfl
theorem pQ:∀(t:T W) (j:Nat),(t.ae (aK (.name w)) j).lv=t.lv
 | .name _,_=>rfl
 | .place n,j=>by
  show(if n < j then T.place n else if n=j then (T.name w).lift j else T.place (n - 1):T W).lv=1
  split
  ·rfl
  ·split<;>rfl
 | .aa b,j=>pQ b (j+1)
 | .call a b,j=>by show(a.ae _ j).lv+(b.ae _ j).lv=_;rw[pQ a,pQ b];rfl
theorem jh:∀(t:T W) (j:Nat),(t.ae (aK (.name w)) j).ao=t.ao
 | .name _,_=>rfl
 | .place n,j=>by
  show(if n < j then T.place n else if n=j then (T.name w).lift j else T.place (n - 1):T W).ao=[]
  split
  ·rfl
  ·split<;>rfl
 | .aa b,j=>congrArg (List.map (0::·)) (jh b (j+1))
 | .call a b,j=>by
  show(if (a.ae (aK (.name w)) j).bx then [[]] else [])++((a.ae (aK (.name w)) j).ao.map (0::·)++(b.ae (aK (.name w)) j).ao.map (1::·))=_
  rw[uZ,jh a,jh b]
  rfl
end
end NC
namespace NC
theorem B7{L:Nat}:∀k:Nat,oZ L k (.name ())
 |0=>⟨Nat.zero_le _,by show 1<=L+40;omega⟩
 |k+1=>⟨⟨Nat.zero_le _,by show 1<=L+40;omega⟩,fun p u hs=>by cases p<;>cases hs⟩
theorem vm{L k:Nat}{t u:U}{p:List Int}(h:oZ L (k+1) (core t))(hs:aV t p=some u):oZ L k (core u):=by
 obtain⟨e,m,n,ha⟩:=at_of p t u 0 hs
 obtain⟨q,e',v,m',n',h1,h2⟩:=uB ha
 rw[h2]
 exact h.2 q v (ql h1)
theorem B8{L:Nat}{a:U}(ha:a= .name () ∨ a= .aa (.name ())):∀(k:Nat) (b:U),oZ L k (core b)->oZ (L+1) k (core (.call a b)):=by
 have ea:ab 0 a=a:=by rcases ha with rfl|rfl<;>rfl
 have gx:∀b:U,(core b).ao.length<=L/\(core b).lv<=L+40->(core (.call a b)).ao.length<=L+1/\(core (.call a b)).lv<=L+1+40:=fun b h=>by
  rw[gP,nN] at h ⊢
  rcases ha with rfl|rfl
  ·refine⟨?_,by show 1+b.lv<=_;omega⟩
   show([]++([]++b.ao.map (1::·))).length<=_
   simp
   omega
  ·refine⟨?_,by show 1+b.lv<=_;omega⟩
   show([[]]++([]++b.ao.map (1::·))).length<=_
   simp
   omega
 intro k
 induction k with
 |zero=>
  intro b h
  exact gx b h
 |succ k ih=>
  intro b h
  refine⟨gx b h.now,fun p u hs=>?_⟩
  have hs:aV (.call (ab 0 a) (ab 0 b)) p=some u:=hs
  rw[ea] at hs
  have hb:oZ L (k+1) (core (ab 0 b)):=by rw[lx];exact h
  cases p with
  |nil=>
   rcases ha with rfl|rfl
   ·cases hs
   ·have hs:some ((T.name ()).fill (ab 0 b))=some u:=hs
    cases hs
    exact B7 k
  |cons n p=>
   have e:aV (T.call a (ab 0 b)) (n::p)=if n=0 then (aV a p).map (.call · (ab 0 b)) else if n=1 then (aV (ab 0 b) p).map (.call a ·) else none:=by
    cases a<;>rfl
   rw[e] at hs
   by_cases h0:n=0
   ·rw[if_pos h0] at hs
    have:aV a p=none:=by
     rcases ha with rfl|rfl
     ·cases p<;>rfl
     ·cases p with
      |nil=>rfl
      |cons m p=>
       show(if m=0 then (aV (T.name ()) p).map T.aa else none)=none
       split
       ·cases p<;>rfl
       ·rfl
    rw[this] at hs
    cases hs
   ·rw[if_neg h0] at hs
    by_cases h1:n=1
    ·rw[if_pos h1] at hs
     obtain⟨b',og,rfl⟩:=Option.map_eq_some_iff.mp hs
     exact ih b' (vm hb og)
    ·rw[if_neg h1] at hs
     cases hs
theorem B6{L:Nat}:∀(k:Nat) (x:U),oZ L k (core (x.fill (.name ())))->oZ (L+1) k (core (.call (.aa x) (.name ()))):=by
 have gx:∀x:U,(core (x.fill (.name ()))).ao.length<=L/\(core (x.fill (.name ()))).lv<=L+40->(core (.call (.aa x) (.name ()))).ao.length<=L+1/\(core (.call (.aa x) (.name ()))).lv<=L+1+40:=fun x h=>by
  rw[gP,nN] at h ⊢
  have e:(x.fill (.name ())).ao=x.ao:=jh () x 0
  have e2:(x.fill (.name ())).lv=x.lv:=pQ () x 0
  rw[e,e2] at h
  refine⟨?_,by show x.lv+1<=_;omega⟩
  show([[]]++((x.ao.map (0::·)).map (0::·)++[])).length<=_
  simp
  omega
 intro k
 induction k with
 |zero=>
  intro x h
  exact gx x h
 |succ k ih=>
  intro x h
  have ex:ab 0 (x.fill (.name ()))=(ab 1 x).fill (.name ()):=lB (.name ()) 0 x 0
  have h':oZ L (k+1) (core ((ab 1 x).fill (.name ()))):=by rw[<-ex,lx];exact h
  refine⟨gx x h.now,fun p u hs=>?_⟩
  have hs:aV (.call (.aa (ab 1 x)) (.name ())) p=some u:=hs
  cases p with
  |nil=>
   have hs:some ((ab 1 x).fill (.name ()))=some u:=hs
   cases hs
   exact h'.less.more (Nat.le_succ L)
  |cons n p=>
   have hs:(if n=0 then (aV (.aa (ab 1 x)) p).map (T.call · (.name ())) else if n=1 then (aV (.name ()) p).map (T.call (.aa (ab 1 x)) ·) else none)=some u:=hs
   by_cases h0:n=0
   ·rw[if_pos h0] at hs
    obtain⟨a',IJ,rfl⟩:=Option.map_eq_some_iff.mp hs
    cases p with
    |nil=>cases IJ
    |cons m p=>
     have IJ:(if m=0 then (aV (ab 1 x) p).map T.aa else none)=some a':=IJ
     by_cases hm:m=0
     ·rw[if_pos hm] at IJ
      obtain⟨x',Av,rfl⟩:=Option.map_eq_some_iff.mp IJ
      obtain⟨e,y,z,L4⟩:=at_of p (ab 1 x) x' 0 Av
      obtain⟨e',y',z',Q1⟩:=DO () L4 0
      exact ih x' (vm h' (ql Q1))
     ·rw[if_neg hm] at IJ
      cases IJ
   ·rw[if_neg h0] at hs
    by_cases h1:n=1
    ·rw[if_pos h1] at hs
     cases p<;>cases hs
    ·rw[if_neg h1] at hs
     cases hs
theorem zi{W:Type}:∀t:T W,cl 0 (core t)
 | .name _=>trivial
 | .place n=>vY (.place n:T W) 0
 | .aa b=>zi b
 | .call a b=>vY (.call a b) 0
theorem lu{W:Type}:∀t:T W,core (core t)=core t
 | .name _=>rfl
 | .place n=>lx (.place n:T W) 0
 | .aa b=>lu b
 | .call a b=>lx (.call a b) 0
theorem CL{m b:Nat}(h:1<=jO m b)(AI:2*m+b<=10):2<=m/\4<=b/\9<=2*m+b:=by
 unfold jO at h
 match m,h,AI with
 |0,h,_=>omega
 |1,h,_=>omega
 |2,h,_=>omega
 |3,h,_=>omega
 |4,h,AI=>omega
 |5,h,AI=>omega
 |m+6,_,AI=>omega
theorem vk{d:Nat}{b:U}(hc:cl d b)(h:br false d b<=1):b= .name ():=by
 cases b with
 |name _=>rfl
 |place n=>
  have hn:n < d:=hc
  have h:(if n < d then 2 else 1)<=1:=h
  rw[if_pos hn] at h
  omega
 |aa b=>
  have h:br false (d+1) b+(if false=false/\bc 0 b=0 then 1 else 0)<=1:=h
  have h1:=cF b false (d+1)
  have h2:=fq b false (d+1) hc
  have es:sm (d+1) (oc b)=bc 0 b+sm d (oc (T.aa b)):=rfl
  by_cases h0:bc 0 b=0
  ·rw[if_pos ⟨rfl,h0⟩] at h
   omega
  ·omega
 |call a b=>
  have h:br true d a+br false d b<=1:=h
  have h1:=cF a true d
  have h2:=cF b false d
  omega
theorem Er{d:Nat}{a:U}(hc:cl d a)(h:br true d a<=1):a= .name () ∨ a= .aa (.name ()):=by
 cases a with
 |name _=>exact .inl rfl
 |place n=>
  have hn:n < d:=hc
  have h:(if n < d then 2 else 1)<=1:=h
  rw[if_pos hn] at h
  omega
 |aa b=>
  have h:br false (d+1) b+(if true=false/\bc 0 b=0 then 1 else 0)<=1:=h
  exact .inr (congrArg T.aa (vk (d:=d+1) hc (by omega)))
 |call a b=>
  have h:br true d a+br false d b<=1:=h
  have h1:=cF a true d
  have h2:=cF b false d
  omega
theorem r9:uy 20 9 (fun m n=>nf (.call (m.fill n) (.name ())) (DN 5))=true:=by decide+kernel
def Iv:U->Nat
 | .name _=>1
 | .place n=>n+2
 | .aa b=>3*Iv b+1
 | .call a b=>5*Iv a+7*Iv b+2
def pk(i:Nat)(m n:U):Bool:=bif Nat.beq (Iv (.call m n) % 6) i then nf (core (m.fill n)) (DN 5) else true
theorem OL:uy 20 10 (pk 0)=true:=by decide+kernel
theorem OK:uy 20 10 (pk 1)=true:=by decide+kernel
theorem OJ:uy 20 10 (pk 2)=true:=by decide+kernel
theorem OI:uy 20 10 (pk 3)=true:=by decide+kernel
theorem OH:uy 20 10 (pk 4)=true:=by decide+kernel
theorem OG:uy 20 10 (pk 5)=true:=by decide+kernel
theorem D6:∀i,i < 6->uy 20 10 (pk i)=true
 |0,_=>OL
 |1,_=>OK
 |2,_=>OJ
 |3,_=>OI
 |4,_=>OH
 |5,_=>OG
 |i+6,h=>absurd h (by omega)
theorem Wr{m n:U}(hm:cl 1 m)(hn:cl 0 n)(hX:br false 1 m+br false 0 n<=10)(h2:2<=bc 0 m)(hf:d3 n=false):DN 5 (core (m.fill n))=true:=by
 have hc:=yZ (D6 (Iv (.call m n) % 6) (Nat.mod_lt _ (by decide))) hm hn hX (Nat.le_refl _) h2 hf
 unfold pk at hc
 rw[Nat.beq_refl] at hc
 have hc:nf (core (m.fill n)) (DN 5)=true:=hc
 rw[sI] at hc
 exact hc
theorem vn{L:Nat}{c:U}:∀{k j:Nat},j<=k->oZ L k c->oZ L j c:=fun {k}=>by
 induction k with
 |zero=>
  intro j hj h
  rw[show j=0 by omega]
  exact h
 |succ k ih=>
  intro j hj h
  by_cases e:j=k+1
  ·rw[e];exact h
  ·exact ih (by omega) h.less
theorem CP{e:Nat}{m n:U}(hm:cl (e+1) m)(h2:2<=bc 0 m)(hk:br false (e+1) m<=6)(hn:d3 n=true):d3 (m.fill n)=true:=by
 refine kz n hn m 0 ?_
 cases hf:d3 m with
 |true=>rfl
 |false=>
  have h:=jz m false (e+1) hm hf
  have es:sm (e+1) (oc m)=bc 0 m+sm e (fun j=>oc m (j+1)):=rfl
  omega
theorem yx:∀(k:Nat),k<=6->∀t:U,kp (core t)<=10->oZ (57+max 3 k) k (core t)
 |0,_,t,h=>kR 0 _ (Nat.le_trans h (by decide))
 |1,_,t,h=>kR 1 _ (Nat.le_trans h (by decide))
 |2,_,t,h=>kR 2 _ (Nat.le_trans h (by decide))
 |3,_,t,h=>kR 3 _ h
 |k'+4,Yl,t,h=>by
  obtain⟨k,ek⟩:∃k,k=k'+3:=⟨_,rfl⟩
  have ih:=yx (k'+3) (by omega)
  have el:max 3 (k'+3)=k'+3:=by omega
  have U3:max 3 (k'+4)=k'+4:=by omega
  rw[el] at ih
  rw[U3]
  show oZ (57+(k'+3+1)) (k'+3+1) (core t)
  rw[<-ek] at ih ⊢
  have Yl:k<=5:=by omega
  have hk3:3<=k:=by omega
  clear el U3 ek
  -- of those that weigh nine
  have nine:∀y:U,kp (core y)<=9->oZ (57+k) (k+1) (core y):=fun y hy=>⟨iO (by omega),fun p u hs=>ih u (Gb hs hy (by decide+kernel))⟩
  have sf:=zi t
  have yR:=lu t
  generalize core t=c at h sf yR
  have gx:c.ao.length<=57+(k+1)/\c.lv<=57+(k+1)+40:=iO (by omega)
  refine⟨gx,fun p u hs=>?_⟩
  by_cases AI:kp (core u)<=10
  ·exact(ih u AI).more (by omega)
  ·obtain⟨e,m,n,ha⟩:=at_of p c u 0 hs
   have hg:=nj ha
   have Yy:=jD u
   have hw:=zm ha
   obtain⟨g1,g2,g3⟩:=CL (m:=bc 0 m) (b:=br false e n) (by omega) (by omega)
   have Ls:kp (core u)<=61:=Nat.le_trans Yy (Nat.le_trans hg (Nat.le_trans (ux h hw (show iD 10 12=true by decide+kernel)) (by decide)))
   cases ha with
   |@here _ m n=>
    have h:br false 1 m+(if true=false/\bc 0 m=0 then 1 else 0)+br false 0 n<=10:=h
    have hm:cl 1 m:=sf.1
    have hn:cl 0 n:=sf.2
    cases hf:d3 n with
    |false=>
     have hc:=Wr hm hn (by omega) g1 hf
     exact(vn (by omega) (xQ 5 _ hc)).more (by omega)
    |true=>exact(pZ k _ (nO _ (CP hm g1 (show br false 1 m<=6 by omega) hf)) Ls).more (by omega)
   |aa _=>
    rename_i b b' q hb
    exfalso
    have yR:core b= .aa b:=yR
    exact ze b b yR
   |@one _ _ a a' b m n q hb=>
    have h:br true 0 a+br false 0 b<=10:=h
    have hwa:=ja hb true
    have NG:=jy m 0 (e+1) false (Nat.succ_pos e)
    have eb:=vk (d:=0) sf.2 (by omega)
    subst eb
    have ekb:br false 0 (T.name ():U)=1:=rfl
    cases a with
    |name _=>cases hb
    |place _=>cases hb
    |aa x=>
     have hx:br false 1 x+(if true=false/\bc 0 x=0 then 1 else 0)+1<=10:=h
     have hf:=iW (.name ():U) 0 x 0 false
     have hf:br false 0 (x.fill (.name ()))+2*bc 0 x<=br false 1 x+bc 0 x*1:=hf
     have h9:kp (core (x.fill (.name ())))<=9:=Nat.le_trans (jD _) (show br false 0 (x.fill (.name ()))<=9 by omega)
     have:=B6 (k+1) x (nine _ h9)
     rw[yR] at this
     exact(this.2 _ _ hs).more (by omega)
    |call y z=>
     cases hb with
     |@here _ m n=>
      have h:br false 1 m+(if true=false/\bc 0 m=0 then 1 else 0)+br false 0 n+1<=10:=h
      have hm:cl 1 m:=sf.1.1
      have hn:cl 0 n:=sf.1.2
      have eu:core (T.call (m.fill n) (.name ()):U)= .call (ab 0 (m.fill n)) (.name ()):=rfl
      cases hf:d3 n with
      |false=>
       have hc:=yZ r9 hm hn (by omega) (by decide) g1 hf
       rw[sI] at hc
       have:=vn (by omega) (xQ 5 _ hc) (j:=k)
       have e2:ab 0 (m.fill n)=m.fill n:=by
        have q:=lB n 0 m 0
        have q:ab 0 (m.fill n)=(ab 1 m).fill (ab 0 n):=q
        rw[q,v8 m 1 hm,v8 n 0 hn]
       rw[eu,e2]
       exact this.more (by omega)
      |true=>
       exact(pZ k _ (nO _ (de.mpr ⟨CP hm g1 (show br false 1 m<=6 by omega) hf,rfl⟩)) Ls).more (by omega)
     |one rq=>
      have h2:=ja rq true
      have h:br true 0 y+br false 0 z+1<=10:=h
      have:=cF z false 0
      omega
     |other rq=>
      have h2:=ja rq false
      have h:br true 0 y+br false 0 z+1<=10:=h
      have:=cF y true 0
      omega
   |@other _ _ a b b' m n q hb=>
    have h:br true 0 a+br false 0 b<=10:=h
    have hwb:=ja hb false
    have NG:=jy m 0 (e+1) false (Nat.succ_pos e)
    have UO:=cF a true 0
    have h9:kp (core b)<=9:=Nat.le_trans (jD b) (show br false 0 b<=9 by omega)
    have:=B8 (Er (d:=0) sf.1 (by omega)) (k+1) b (nine b h9)
    rw[yR] at this
    exact(this.2 _ _ hs).more (by omega)
where
 ze:∀t x:U,core t≠ .aa x
  | .name _,_,h=>by cases h
  | .place n,x,h=>by
   have h:ab 0 (T.place n:U)= .aa x:=h
   rw[bO,if_neg (Nat.not_lt_zero _)] at h
   cases h
  | .aa b,x,h=>ze b x h
  | .call _ _,_,h=>by cases h
 v8:∀(t:U) (d:Nat),cl d t->ab d t=t
  | .name _,_,_=>rfl
  | .place n,d,h=>by
   have h:n < d:=h
   rw[bO,if_pos h]
  | .aa b,d,h=>congrArg T.aa (v8 b (d+1) h)
  | .call a b,d,h=>by show T.call _ _=T.call _ _;rw[v8 a d h.1,v8 b d h.2]
theorem D5{W:Type}{t:T W}(h:kp t<=10):Ok 63 6 t:=by
 have:=yx 6 (Nat.le_refl _) (core t) (by rw[lu];exact Nat.le_trans (jD t) h)
 rw[lu] at this
 exact FZ 6 t this
end NC
namespace NC
def Rv{W:Type}:T W:= .aa (.call (.place 0) (.place 0))
def dbl{W:Type}:Nat->T W
 |0=> .aa (.place 0)
 |n+1=> .call Rv (dbl n)
theorem kM{W:Type}:∀(t:T W) (d:Nat) (f:Bool),t.size+cnt d (has t)+(if f=true then 1 else 2)<=3*t.lv+br f d t
 | .name w,d,f=>by
  have h1:=dg d (has (T.name w)) (fun _=>false) fun j h=>by cases h
  rw[ly.nQ] at h1
  show 1+_+_<=3*1+1
  split<;>omega
 | .place n,d,f=>by
  have h:=gM (.place n:T W) d f
  have h1:(T.place n:T W).lv=1:=rfl
  have h2:=cF (.place n:T W) f d
  have h3:br f d (T.place n:T W)<=2:=by show(if n < d then 2 else 1)<=2;split<;>decide
  have h4:=lA (.place n:T W) d f
  rw[h1]
  have h5:(T.place n:T W).size=1:=rfl
  rw[h5] at h ⊢
  by_cases e:f=true
  ·rw[if_pos e] at h ⊢
   omega
  ·rw[if_neg e] at h ⊢
   omega
 | .aa b,d,f=>by
  have h1:b.size+((if has b 0=true then 1 else 0)+cnt d (has (.aa b)))+2<=3*b.lv+br false (d+1) b:=kM b (d+1) false
  show b.size+1+cnt d (has (.aa b))+_<=3*b.lv+(br false (d+1) b+(if f=false/\bc 0 b=0 then 1 else 0))
  cases f with
  |true=>
   rw[if_pos rfl]
   omega
  |false=>
   by_cases h:bc 0 b=0
   ·rw[if_neg (by decide),if_pos ⟨rfl,h⟩]
    omega
   ·rw[if_neg (by decide),if_neg fun z=>h z.2]
    rw[if_pos (show has b 0=true from decide_eq_true h)] at h1
    omega
 | .call a b,d,f=>by
  have h1:=kM a d true
  have h2:=kM b d false
  have h3:=rF d a b
  rw[if_pos rfl] at h1
  rw[if_neg (by decide)] at h2
  show a.size+b.size+1+_+_<=3*(a.lv+b.lv)+(br true d a+br false d b)
  split<;>omega
end NC
namespace NC
section
variable {W:Type}
def e5:List (Fm W)->List Int
 |[]=>[]
 | .aa::S=>e5 S++[0]
 | .one _::S=>e5 S++[0]
 | .other _::S=>e5 S++[1]
def I0(x:T W):Fm W->Prop
 | .aa=>True
 | .one _=>x.bx=false
 | .other a=>a.bx=false/\a.ao=[]
def Clear:List (Fm W)->T W->Prop
 |[],_=>True
 |f::S,x=>I0 x f/\Clear S (cZ f x)
theorem gQ:∀(S:List (Fm W)) (x y:T W),y.bx=x.bx->Clear S x->Clear S y
 |[],_,_,_,_=>trivial
 |f::S,x,y,e,h=>by
  refine⟨?_,gQ S (cZ f x) (cZ f y) (by cases f<;>rfl) h.2⟩
  cases f with
  |aa=>trivial
  |one b=>exact e.trans h.1
  |other a=>exact h.1
theorem AM{S:List (Fm W)}{x y:T W}(hS:∀b S',S≠ .one b::S')(h:Clear S x):Clear S y:=by
 cases S with
 |nil=>trivial
 |cons f S=>
  refine⟨?_,gQ S (cZ f x) (cZ f y) (by cases f<;>rfl) h.2⟩
  cases f with
  |aa=>trivial
  |one b=>exact absurd rfl (hS b S)
  |other a=>exact h.1
theorem qC:∀(S:List (Fm W)) (x:T W),Clear S x->∃R,(bu S x).ao=x.ao.map (e5 S++·)++R
 |[],x,_=>⟨[],by
  show x.ao=x.ao.map (fun q=>[]++q)++[]
  rw[List.append_nil]
  exact(List.map_id _).symm⟩
 |f::S,x,h=>by
  obtain⟨R,hR⟩:=qC S (cZ f x) h.2
  show ∃R,(bu S (cZ f x)).ao=_
  rw[hR]
  have hc:=h.1
  cases f with
  |aa=>
   refine⟨R,?_⟩
   show((x.ao.map (0::·)).map (e5 S++·))++R=x.ao.map ((e5 S++[0])++·)++R
   rw[List.map_map]
   congr 1
   refine List.map_congr_left fun q _=>?_
   show e5 S++0::q=e5 S++[0]++q
   simp
  |one b=>
   have hc:x.bx=false:=hc
   refine⟨(b.ao.map (1::·)).map (e5 S++·)++R,?_⟩
   show((if x.bx then [[]] else [])++(x.ao.map (0::·)++b.ao.map (1::·))).map (e5 S++·)++R=x.ao.map ((e5 S++[0])++·)++_
   rw[hc,if_neg (by decide),List.nil_append,List.map_append,List.map_map,List.append_assoc]
   congr 1
   refine List.map_congr_left fun q _=>?_
   show e5 S++0::q=e5 S++[0]++q
   simp
  |other a=>
   have hc:a.bx=false/\a.ao=[]:=hc
   refine⟨R,?_⟩
   show((if a.bx then [[]] else [])++(a.ao.map (0::·)++x.ao.map (1::·))).map (e5 S++·)++R=x.ao.map ((e5 S++[1])++·)++R
   rw[hc.1,hc.2,if_neg (by decide),List.nil_append,List.map_nil,List.nil_append,List.map_map]
   congr 1
   refine List.map_congr_left fun q _=>?_
   show e5 S++1::q=e5 S++[1]++q
   simp
theorem rA{S:List (Fm W)}{x:T W}(h:Clear S x)(hs:x.ri=true):∃R,(bu S x).ao=e5 S::R:=by
 obtain⟨R,hR⟩:=qC S x h
 cases x with
 |name _=>cases hs
 |place _=>cases hs
 |aa _=>cases hs
 |call a b=>
  have hs:a.bx=true:=hs
  have e:(T.call a b).ao=[]::(a.ao.map (0::·)++b.ao.map (1::·)):=by
   show(if a.bx then [[]] else [])++_=_
   rw[hs]
   rfl
  rw[hR,e,List.map_cons]
  exact⟨_,by rw[List.append_nil];rfl⟩
theorem u7{f:Fm W}{S:List (Fm W)}{x:T W}(hf:∀b,f≠ .one b)(h:Clear (f::S) x)(hx:x.ao=[]):Clear S (cZ f x)/\(cZ f x).ao=[]:=by
 refine⟨h.2,?_⟩
 have hc:=h.1
 cases f with
 |aa=>
  show x.ao.map (0::·)=[]
  rw[hx]
  rfl
 |one b=>exact absurd rfl (hf b)
 |other a=>
  have hc:a.bx=false/\a.ao=[]:=hc
  show(if a.bx then [[]] else [])++(a.ao.map (0::·)++x.ao.map (1::·))=[]
  rw[hc.1,hc.2,hx]
  rfl
theorem xi{b:T W}{S:List (Fm W)}{x:T W}(h:Clear (.one b::S) x)(hx:x.ao=[]):Clear (.other x::S) b:=by
 have h1:x.bx=false:=h.1
 exact⟨⟨h1,hx⟩,gQ S (.call x b) (.call x b) rfl h.2⟩
theorem xN{S:List (Fm W)}{x:T W}(h:Clear S x)(hs:x.ri=false)(hl:gm x 0=true):Clear (frame x 0::S) (child x 0):=by
 cases x with
 |name _=>cases hl
 |place _=>cases hl
 |aa b=>exact⟨trivial,h⟩
 |call a b=>exact⟨hs,h⟩
theorem xx{x:T W}(hl:gm x 0=false):x.ao=[]:=by
 cases x with
 |name _=>rfl
 |place _=>rfl
 |aa _=>cases hl
 |call _ _=>cases hl
def mU:List (Fm W)->Nat
 |[]=>0
 | .one b::S=>b.size+mU S
 |_::S=>mU S
theorem CU{S:List (Fm W)}{x:T W}(hl:gm x 0=true):(child x 0).size+mU (frame x 0::S) < x.size+mU S:=by
 cases x with
 |name _=>cases hl
 |place _=>cases hl
 |aa b=>show b.size+mU S < b.size+1+mU S;omega
 |call a b=>show a.size+(b.size+mU S) < a.size+b.size+1+mU S;omega
theorem wV{S:List (Fm W)}{x r:T W}(h:Clear S x)(hx:x.bx=false)(hr:r.bx=false):Clear S r:=gQ S x r (hr.trans hx.symm) h
theorem rW{S:List (Fm W)}{b x r:T W}(h:Clear (.one b::S) x):Clear S (.call r b):=gQ S (.call x b) (.call r b) rfl h.2
def nextT(t:T W):Option (T W):=match t.ao with
 |[]=>none
 |p::_=>aV t p
def b0:Nat->T W->Option (T W)
 |0,t=>some t
 |n+1,t=>(nextT t).bind (b0 n)
theorem gE:∀(i j:Nat) (t:T W),b0 (i+j) t=(b0 i t).bind (b0 j)
 |0,j,t=>by rw[Nat.zero_add];rfl
 |i+1,j,t=>by
  rw[show i+1+j=(i+j)+1 by omega]
  show(nextT t).bind (b0 (i+j))=((nextT t).bind (b0 i)).bind (b0 j)
  cases nextT t with
  |none=>rfl
  |some u=>exact gE i j u
theorem iS(i:Nat)(t:T W):b0 (i+1) t=(b0 i t).bind nextT:=by
 rw[gE i 1 t]
 congr 1
 funext u
 show(nextT u).bind (b0 0)=nextT u
 cases nextT u<;>rfl
theorem qV{t:T W}:nextT t=none↔t.ao=[]:=by
 unfold nextT
 cases h:t.ao with
 |nil=>exact⟨fun _=>rfl,fun _=>rfl⟩
 |cons p ps=>
  constructor
  ·intro e
   obtain⟨r,hr⟩:=ow (t:=t) (p:=p) (by rw[h];exact List.mem_cons_self)
   have e:aV t p=none:=e
   rw[hr] at e
   cases e
  ·intro e
   cases e
theorem jl{t x:T W}{i p:Nat}(h1:b0 i t=some x)(h2:b0 (i+p) t=some x):∀k:Nat,b0 (i+k*p) t=some x
 |0=>by rw[Nat.zero_mul];exact h1
 |k+1=>by
  have h3:=jl h1 h2 k
  have h4:b0 p x=some x:=by
   rw[gE,h1] at h2
   exact h2
  rw[show i+(k+1)*p=i+k*p+p by rw[Nat.succ_mul];omega,gE,h3]
  exact h4
theorem BA{t x:T W}{i p n:Nat}(hp:0 < p)(h1:b0 i t=some x)(h2:b0 (i+p) t=some x)(hn:i<=n):b0 (i+(n - i) % p) t=b0 n t:=by
 have h3:=jl h1 h2 ((n - i) / p)
 have e:n=i+(n - i) / p*p+(n - i) % p:=by
  have:=Nat.div_add_mod (n - i) p
  rw[Nat.mul_comm] at this
  omega
 have e2:b0 n t=b0 ((n - i) % p) x:=by
  refine(congrArg (fun m=>b0 m t) e).trans ?_
  show b0 (i+(n - i) / p*p+(n - i) % p) t=_
  rw[gE,h3]
  rfl
 rw[e2,gE,h1]
 rfl
theorem BC{t x y:T W}{i p n:Nat}(hp:0 < p)(h1:b0 i t=some x)(h2:b0 (i+p) t=some x)(hn:b0 n t=some y):y.ao≠[]:=fun hy=>by
 have h3:=jl h1 h2 (n+1)
 have hle:n+1<=i+(n+1)*p:=by
  have:(n+1)*1<=(n+1)*p:=Nat.mul_le_mul_left _ hp
  omega
 obtain⟨d,hd⟩:∃d,i+(n+1)*p=n+1+d:=⟨_,(Nat.add_sub_cancel' hle).symm⟩
 rw[hd,gE,iS,hn] at h3
 have e:nextT y=none:=qV.mpr hy
 have h3:((nextT y).bind (b0 d))=some x:=h3
 rw[e] at h3
 cases h3
theorem rE:∀(w:Way) (x:T W),x.ao=[]->gA x w->eU x w=x
 |[],_,_,_=>rfl
 |e::w,x,hx,hw=>by
  have e0:e=[]:=by
   cases e with
   |nil=>rfl
   |cons p e=>
    have:=hw.1 p List.mem_cons_self
    rw[hx] at this
    cases this
  subst e0
  have h2:=hw.2
  show eU (dv x []) w=x
  rw[eV] at h2 ⊢
  exact rE w x hx h2
theorem Es{t:T W}{w1 w2:Way}(h1:gA t w1)(h2:gA t w2)(e1:(eU t w1).ao=[])(e2:(eU t w2).ao=[]):eU t w1=eU t w2:=by
 obtain⟨c1,c2,c3⟩:=vW w2 t w1 h1 h2
 rw[rE _ _ e1 c1,rE _ _ e2 c2] at c3
 exact c3
theorem yp:∀(n:Nat) (t x:T W),b0 n t=some x->∃ps:List (List Int),gA t (oF ps)/\eU t (oF ps)=x/\ps.length=n
 |0,t,x,h=>by
  cases h
  exact⟨[],trivial,rfl,rfl⟩
 |n+1,t,x,h=>by
  have h:(nextT t).bind (b0 n)=some x:=h
  cases hn:nextT t with
  |none=>rw[hn] at h;cases h
  |some u=>
   rw[hn] at h
   obtain⟨ps,h1,h2,h3⟩:=yp n u x h
   unfold nextT at hn
   cases hs:t.ao with
   |nil=>rw[hs] at hn;cases hn
   |cons p qs=>
    rw[hs] at hn
    have hn:aV t p=some u:=hn
    have hp:p∈t.ao:=by rw[hs];exact List.mem_cons_self
    have e:=CT hn hp
    refine⟨p::ps,⟨fun q hq=>by rw[List.mem_singleton.mp hq];exact hp,?_⟩,?_,by rw[List.length_cons,h3]⟩
    ·show gA (dv t [p]) (oF ps)
     rw[e]
     exact h1
    ·show eU (dv t [p]) (oF ps)=x
     rw[e]
     exact h2
end
end NC
namespace NC
section
variable {W:Type}
theorem sv:∀(S:List (Fm W)) (x r:T W) (p:List Int),aV x p=some r->aV (bu S x) (e5 S++p)=some (bu S r)
 |[],_,_,_,h=>h
 |f::S,x,r,p,h=>by
  have e:∀k:Int,aV (cZ f x) (k::p)=some (cZ f r)->aV (bu S (cZ f x)) (e5 S++[k]++p)=some (bu S (cZ f r)):=fun k hk=>by
   have:=sv S (cZ f x) (cZ f r) (k::p) hk
   rw[List.append_assoc]
   exact this
  cases f with
  |aa=>
   refine e 0 ?_
   show(if (0:Int)=0 then (aV x p).map T.aa else none)=_
   rw[if_pos rfl,h]
   rfl
  |one b=>
   refine e 0 ?_
   have e1:aV (T.call x b) (0::p)=(aV x p).map (.call · b):=by cases x<;>rfl
   show aV (T.call x b) (0::p)=_
   rw[e1,h]
   rfl
  |other a=>
   refine e 1 ?_
   have e1:aV (T.call a x) (1::p)=(aV x p).map (.call a ·):=by cases a<;>rfl
   show aV (T.call a x) (1::p)=_
   rw[e1,h]
   rfl
theorem zY{S:List (Fm W)}{b u:T W}(h:Clear S (.call (.aa b) u)):nextT (bu S (.call (.aa b) u))=some (bu S (b.fill u)):=by
 obtain⟨R,hR⟩:=rA h rfl
 unfold nextT
 rw[hR]
 have:=sv S (.call (.aa b) u) (b.fill u) [] rfl
 rw[List.append_nil] at this
 exact this
end
end NC
namespace NC
section
variable {W:Type}
theorem zo{d e:Nat}{t t' m n:T W}{p:List Int}(h:At d t p t' e m n):t'.deep<=t.deep+n.deep/\n.deep<=t.deep:=by
 induction h with
 |@here d b u=>
  have h1:(b.fill u).deep<=b.deep+u.deep:=i7 u b 0
  show(b.fill u).deep<=max (b.deep+1) u.deep+1+u.deep/\u.deep<=max (b.deep+1) u.deep+1
  omega
 |@aa d e b b' m n p _ ih=>show b'.deep+1<=b.deep+1+n.deep/\n.deep<=b.deep+1;omega
 |@one d e a a' b m n p _ ih=>show max a'.deep b.deep+1<=max a.deep b.deep+1+n.deep/\n.deep<=max a.deep b.deep+1;omega
 |@other d e a b b' m n p _ ih=>show max a.deep b'.deep+1<=max a.deep b.deep+1+n.deep/\n.deep<=max a.deep b.deep+1;omega
theorem Ff{d e:Nat}{t t' m n:T W}{p:List Int}(h:At d t p t' e m n):t'.size<=t.size+m.size*n.size/\m.size+n.size<=t.size:=by
 induction h with
 |@here d b u=>
  have h1:(b.fill u).size<=b.size*u.size:=i6 u b 0
  show(b.fill u).size<=b.size+1+u.size+1+b.size*u.size/\b.size+u.size<=b.size+1+u.size+1
  omega
 |@aa d e b b' m n p _ ih=>show b'.size+1<=b.size+1+m.size*n.size/\m.size+n.size<=b.size+1;omega
 |@one d e a a' b m n p _ ih=>show a'.size+b.size+1<=a.size+b.size+1+m.size*n.size/\m.size+n.size<=a.size+b.size+1;omega
 |@other d e a b b' m n p _ ih=>show a.size+b'.size+1<=a.size+b.size+1+m.size*n.size/\m.size+n.size<=a.size+b.size+1;omega
theorem GL{d e:Nat}{t t' m n:T W}{p:List Int}(h:At d t p t' e m n):t'.lv<=t.lv+m.lv*n.lv/\m.lv+n.lv<=t.lv:=by
 induction h with
 |@here d b u=>
  have h1:(b.fill u).lv<=b.lv*u.lv:=qj u b 0
  show(b.fill u).lv<=b.lv+u.lv+b.lv*u.lv/\b.lv+u.lv<=b.lv+u.lv
  omega
 |@aa d e b b' m n p _ ih=>exact ih
 |@one d e a a' b m n p _ ih=>show a'.lv+b.lv<=a.lv+b.lv+m.lv*n.lv/\m.lv+n.lv<=a.lv+b.lv;omega
 |@other d e a b b' m n p _ ih=>show a.lv+b'.lv<=a.lv+b.lv+m.lv*n.lv/\m.lv+n.lv<=a.lv+b.lv;omega
theorem t7:∀(t:T W) (k:Nat),bc k t<=t.lv
 | .name _,_=>Nat.zero_le _
 | .place n,k=>by show(if n=k then 1 else 0)<=1;split<;>decide
 | .aa b,k=>t7 b (k+1)
 | .call a b,k=>Nat.add_le_add (t7 a k) (t7 b k)
def Sx:Nat->T W->Prop
 |0,t=>t.ao.length<=63/\t.size<=600000
 |k+1,t=>(t.ao.length<=63/\t.size<=100000/\t.deep<=900)/\∀p t',aV t p=some t'->Sx k t'
def Mq:Nat->Nat
 |6=>10
 |5=>12
 |4=>18
 |3=>40
 |2=>200
 |_=>5000
def Fc:Nat->Nat
 |6=>28
 |5=>56
 |4=>112
 |3=>224
 |2=>448
 |_=>896
theorem DX{t:T W}(h:Ok 63 1 t)(hk:kp t<=5000)(hd:t.deep<=896):Sx 1 t:=by
 have hs:=kM t 0 false
 rw[if_neg (by decide)] at hs
 have hs:t.size+0+2<=3*t.lv+kp t:=hs
 have h1:=h.1
 refine⟨⟨h1.1,by omega,by omega⟩,fun p t' rn=>?_⟩
 have h2:t'.ao.length<=63/\t'.lv<=63+40:=h.2 p t' rn
 refine⟨h2.1,?_⟩
 obtain⟨e,m,n,ha⟩:=at_of p t t' 0 rn
 have hg:=nj ha
 have hw:=zm ha
 have hm:=t7 m 0
 have hl:=(GL ha).2
 have Bd:=kM t' 0 false
 rw[if_neg (by decide)] at Bd
 have Bd:t'.size+0+2<=3*t'.lv+kp t':=Bd
 have hgl:jO (bc 0 m) (br false e n)<=103*5000:=by
  unfold jO
  have:bc 0 m*br false e n<=103*5000:=Nat.mul_le_mul (by omega) (by omega)
  omega
 omega
theorem FO:∀(k:Nat),k<=5->∀t:T W,Ok 63 (k+1) t->kp t<=Mq (k+1)->t.deep<=Fc (k+1)->Sx (k+1) t
 |0,_,t,h,hk,hd=>DX h hk hd
 |k+1,h5,t,h,hk,hd=>by
  have hs:=kM t 0 false
  rw[if_neg (by decide)] at hs
  have hs:t.size+0+2<=3*t.lv+kp t:=hs
  have h1:=h.1
  have c1:Mq (k+1+1)<=5000/\Fc (k+1+1)<=900/\2*Fc (k+1+1)<=Fc (k+1):=by
   match k,h5 with
   |0,_=>decide
   |1,_=>decide
   |2,_=>decide
   |3,_=>decide
   |4,_=>decide
   |k+5,h=>omega
  refine⟨⟨h1.1,by omega,by omega⟩,fun p t' rn=>?_⟩
  obtain⟨e,m,n,ha⟩:=at_of p t t' 0 rn
  have QN:=zo ha
  refine FO k (by omega) t' (h.2 p t' rn) (Nat.le_trans (nj ha) (ux hk (zm ha) ?_)) (by omega)
  match k,h5 with
  |0,_=>exact(by decide+kernel:iD 200 5000=true)
  |1,_=>exact(by decide+kernel:iD 40 200=true)
  |2,_=>exact(by decide+kernel:iD 18 40=true)
  |3,_=>exact(by decide+kernel:iD 12 18=true)
  |4,_=>exact(by decide+kernel:iD 10 12=true)
  |k+5,h=>omega
theorem G5{t:T W}(h:kp t<=10):Sx 6 t:=by
 have hs:=gM t 0 false
 rw[if_neg (by decide)] at hs
 have hs:t.size+0+2<=3*kp t:=hs
 exact FO 5 (Nat.le_refl _) t (D5 h) h (Nat.le_trans (T.fw t) (show t.size<=28 by omega))
def zO:T W->List (T W)
 | .name _=>[]
 | .place _=>[]
 | .aa b=>(zO b).map .aa
 | .call a b=>(match a with
  | .aa c=>[c.fill b]
  |_=>[])++((zO a).map (fun x=> .call x b)++(zO b).map (fun x=> .call a x))
theorem Ec{d e:Nat}{t t' m n:T W}{p:List Int}(h:At d t p t' e m n):t'∈zO t:=by
 induction h with
 |here=>exact List.mem_append_left _ (List.mem_singleton.mpr rfl)
 |aa _ ih=>exact List.mem_map.mpr ⟨_,ih,rfl⟩
 |one _ ih=>exact List.mem_append_right _ (List.mem_append_left _ (List.mem_map.mpr ⟨_,ih,rfl⟩))
 |other _ ih=>exact List.mem_append_right _ (List.mem_append_right _ (List.mem_map.mpr ⟨_,ih,rfl⟩))
def I8:Nat->T W->Bool
 |0,t=>Nat.ble t.size 60
 |k+1,t=>Nat.ble t.size 60&&(zO t).all (I8 k)
theorem zj:∀(k:Nat) (t:T W),I8 k t=true->Sx k t
 |0,t,h=>by
  have h1:=Nat.ble_eq.mp h
  have h2:=fe t
  have h3:=jv t
  exact⟨by omega,by omega⟩
 |k+1,t,h=>by
  have h:(Nat.ble t.size 60&&(zO t).all (I8 k))=true:=h
  rw[Bool.and_eq_true] at h
  have h1:=Nat.ble_eq.mp h.1
  have h2:=fe t
  have h3:=jv t
  have h4:=T.fw t
  refine⟨⟨by omega,by omega,by omega⟩,fun p t' hs=>?_⟩
  obtain⟨e,m,n,ha⟩:=at_of p t t' 0 hs
  exact zj k t' (List.all_eq_true.mp h.2 t' (Ec ha))
def xa(x:T W):Prop:=x.deep<=120/\x.size<=90000/\x.ao.length<=63
theorem BE{y x:T W}{s:Nat}(hs:s<=20)(hy:y.size < s)(h:nextT y=some x):xa x:=by
 unfold nextT at h
 cases gx:y.ao with
 |nil=>rw[gx] at h;cases h
 |cons p ps=>
  rw[gx] at h
  obtain⟨e,m,n,ha⟩:=at_of p y x 0 h
  obtain⟨d1,d2⟩:=zo ha
  obtain⟨s1,s2⟩:=Ff ha
  obtain⟨l1,l2⟩:=GL ha
  have h1:=T.fw y
  have h2:=jv y
  have h3:=fe x
  have h4:m.size*n.size<=20*20:=Nat.mul_le_mul (by omega) (by omega)
  have h5:4*(m.lv*n.lv)<=200:=by
   have a1:m.lv<=10:=by omega
   have a2:n.lv<=10 - m.lv:=by omega
   have:=Nat.mul_le_mul_left m.lv a2
   have:∀k,k<=10->4*(k*(10 - k))<=200:=by decide
   have:=this m.lv a1
   omega
  exact⟨by omega,by omega,by omega⟩
def xR:Nat->T W->Bool
 |0,t=>Nat.ble t.size 60
 |k+1,t=>Nat.ble t.size 60&&(match nextT t with
  |none=>true
  |some u=>xR k u)
theorem sR:∀(k:Nat) (t:T W),xR k t=true->∀i x,i<=k->b0 i t=some x->xa x
 |k,t,h,0,x,_,hx=>by
  cases hx
  have h0:Nat.ble t.size 60=true:=by
   cases k with
   |zero=>exact h
   |succ k=>
    have h:(Nat.ble t.size 60&&_)=true:=h
    rw[Bool.and_eq_true] at h
    exact h.1
  have h1:=Nat.ble_eq.mp h0
  have h2:=fe t
  have h3:=jv t
  have h4:=T.fw t
  exact⟨by omega,by omega,by omega⟩
 |0,t,h,i+1,x,hi,hx=>by omega
 |k+1,t,h,i+1,x,hi,hx=>by
  have h:(Nat.ble t.size 60&&(match nextT t with
   |none=>true
   |some u=>xR k u))=true:=h
  rw[Bool.and_eq_true] at h
  have hx:(nextT t).bind (b0 i)=some x:=hx
  cases hn:nextT t with
  |none=>rw[hn] at hx;cases hx
  |some u=>
   rw[hn] at hx
   have h2:=h.2
   rw[hn] at h2
   exact sR k u h2 i x (by omega) hx
end
open PySem PySem.Spec PyProof.Rows L2
inductive o6(hA:Addr)(H:Hp):V->Fm Str->Prop where
 |aa {p:Addr} (h:H p=some (.tup [.str "form",.ref hA])):o6 hA H (.ref p) .aa
 |one {p:Addr}{u:V}{t:Tm} (h:H p=some (.tup [.str "call",.ref hA,u])) (hu:au H u t):o6 hA H (.ref p) (.one t)
 |other {p:Addr}{u:V}{t:Tm} (h:H p=some (.tup [.str "call",u,.ref hA])) (hu:au H u t):o6 hA H (.ref p) (.other t)
theorem o6.mono{hA:Addr}{H H':Hp}{v:V}{f:Fm Str}(h:o6 hA H v f)(k:bY H H'):o6 hA H' v f:=by
 cases h with
 |aa h=>exact .aa (k _ _ h)
 |one h hu=>exact .one (k _ _ h) (hu.mono k)
 |other h hu=>exact .other (k _ _ h) (hu.mono k)
theorem eJ{hA:Addr}{H H':Hp}{vs:List V}{S:List (Fm Str)}(h:Paired (o6 hA H) vs S)(k:bY H H'):Paired (o6 hA H') vs S:=aq (fun _ _ q=>q.mono k) h
def tJ:List Str:=["leads_on","go_down","go_up","go_to_top","is_called","go_on","find_spot","do_step","copied","same_as"]
structure jc(K:W.Frag)(C:Addr):Prop where
 cl:wA K C
 nP:iF K C "part"
 nA:iF K C "above"
structure rO(K:W.Frag)(mg:Str->Option Value)(hA:Addr):Prop where
 m:mg "HOLE"=some (.ref hA)
 q:∀H:Hp,aS K H hA [.str "hole"]
structure uV(C x ab:Addr)(dx:Addr)(fs:List (Str×V))(pv:V)(H:Hp):Prop where
 ins:H x=some (.ins C dx fs)
 part:fs.lookup ("part":Str)=some pv
 above:fs.lookup ("above":Str)=some (.ref ab)
 iU:∀m∈tJ,fs.lookup m=none
 d3:fs.length < 900
inductive MN(C x ab hA:Addr)(t:Tm)(S:List (Fm Str))(H:Hp):Prop where
 |mk(dx:_)(fs:_)(pv:_)(vs:_)(c1:uV C x ab dx fs pv H)(c2:au H pv t)(c3:H ab=some (.lst vs))(c4:Paired (o6 hA H) vs S.reverse)
def dq(C x ab hA:Addr)(t:Tm)(S:List (Fm Str))(H:Hp):Prop:=MN C x ab hA t S H
theorem uV.keep{C x ab dx:Addr}{fs:List (Str×V)}{pv:V}{H H':Hp}(h:uV C x ab dx fs pv H)(e:H' x=H x):uV C x ab dx fs pv H':=⟨e.trans h.ins,h.part,h.above,h.iU,h.d3⟩
theorem uV.ne{C x ab dx:Addr}{fs:List (Str×V)}{pv:V}{H:Hp}{vs:List V}(h:uV C x ab dx fs pv H)(hb:H ab=some (.lst vs)):ab≠x:=fun z=>by
 have:=h.ins
 rw[<-z,hb] at this
 cases this
theorem qL(f:Str)(v:V):∀(fs:List (Str×V)) (x:V),fs.lookup f=some x->(e9 f v fs).length=fs.length
 |[],x,h=>by cases h
 | (g,y)::r,x,h=>by
  unfold e9
  split
  ·rfl
  ·rename_i lF
   rw[List.lookup_cons] at h
   have:(f==g)=false:=by simpa using fun z=>lF z.symm
   rw[this] at h
   show(e9 f v r).length+1=r.length+1
   rw[qL f v r x h]
theorem oq{H:Hp}{x C dx:Addr}{fs Mc:List (Str×V)}(h:H x=some (.ins C dx fs)):bY H (upd H x (.ins C dx Mc)):=fun b xs e=>by
 rw[aF fun z=>by rw[z,h] at e;cases e]
 exact e
theorem uV.set{C x ab dx:Addr}{fs:List (Str×V)}{pv:V}{H:Hp}(h:uV C x ab dx fs pv H)(v:V):uV C x ab dx (e9 ("part":Str) v fs) v (upd H x (.ins C dx (e9 ("part":Str) v fs))):=by
 refine⟨aH,?_,?_,fun m hm=>?_,?_⟩
 ·rw[bw,if_pos rfl]
 ·rw[bw,if_neg (by decide+kernel)];exact h.above
 ·rw[bw,if_neg ?_]
  ·exact h.iU m hm
  ·intro z
   rw[z] at hm
   exact absurd hm (by decide+kernel)
 ·rw[qL _ _ _ _ h.part];exact h.d3
theorem dq.set{C x ab hA dx:Addr}{fs:List (Str×V)}{pv v:V}{H:Hp}{vs:List V}{S:List (Fm Str)}{t:Tm}(h:uV C x ab dx fs pv H)(hb:H ab=some (.lst vs))(hp:Paired (o6 hA H) vs S.reverse)(ht:au H v t):
  dq C x ab hA t S (upd H x (.ins C dx (e9 ("part":Str) v fs)))/\bh [x] H (upd H x (.ins C dx (e9 ("part":Str) v fs))):=
 ⟨⟨dx,_,v,vs,h.set v,ht.mono (oq h.ins),by rw[aF (h.ne hb)];exact hb,eJ hp (oq h.ins)⟩,fun b o nb e=>by rw[aF fun z=>nb (by simp[z])];exact e⟩
theorem dq.same{C x ab hA:Addr}{t:Tm}{S:List (Fm Str)}{H H':Hp}(h:dq C x ab hA t S H)(s:aQ H H'):dq C x ab hA t S H':=by
 obtain⟨dx,fs,pv,vs,h1,h2,h3,h4⟩:=h
 exact⟨dx,fs,pv,vs,⟨s _ _ h1.ins,h1.part,h1.above,h1.iU,h1.d3⟩,h2.same s,s _ _ h3,eJ h4 (.of_same s)⟩
theorem dq.sx{C x ab hA:Addr}{t:Tm}{S:List (Fm Str)}{H H':Hp}(h:dq C x ab hA t S H)(s:cI H H'):dq C x ab hA t S H':=by
 obtain⟨dx,fs,pv,vs,h1,h2,h3,h4⟩:=h
 have tu:bY H H':=s.cM
 exact⟨dx,fs,pv,vs,⟨s _ _ (fun _ z=>by cases z) h1.ins,h1.part,h1.above,h1.iU,h1.d3⟩,h2.mono tu,s _ _ (fun _ z=>by cases z) h3,eJ h4 tu⟩
theorem D0{C x ab hA:Addr}{t:Tm}{S:List (Fm Str)}{H H':Hp}(h:dq C x ab hA t S H)(k:bh [x,ab] H H'):bY H H':=by
 obtain⟨dx,fs,pv,vs,h1,h2,h3,h4⟩:=h
 intro b ys e
 refine k b _ (fun z=>?_) e
 rcases List.mem_cons.mp z with q|q
 ·rw[q,h1.ins] at e;cases e
 ·rw[List.mem_singleton.mp q,h3] at e;cases e
theorem nU{α:Type}(xs:List α)(y:α):uU (xs++[y]) (-1)=some y:=by
 unfold uU EU
 rw[if_neg (by decide),if_pos (by rw[List.length_append];simp only[List.length_cons,List.length_nil];omega)]
 show(xs++[y])[(-1+((xs++[y]).length:Int)).toNat]? =some y
 rw[show(-1+((xs++[y]).length:Int)).toNat=xs.length from by rw[List.length_append];simp only[List.length_cons,List.length_nil];omega]
 simp
theorem yO(t:Tm):jK t≠ .tup [.str "hole"]:=by
 cases t<;>(intro z;cases z)
theorem iZ{K:W.Frag}{mg:Str->Option Value}{hA:Addr}(h:rO K mg hA)(H:Hp):rT K H (.tup [.str "hole"]) (.ref hA):=⟨hA,_,rfl,h.q H,_,_,rfl,rfl,rfl⟩
theorem pT{L:cS}{H H':Hp}{x ab C dx:Addr}{fs:List (Str×V)}{vs:List V}(t:TO L H)(hx:H x=some (.ins C dx fs))(hb:H ab=some (.lst vs))(k:bh [x,ab] H H'):TO L H':=fun z hz=>by
 have n:∀b o,H b=some o->(∀c d f,o≠ .ins c d f)->(∀l,o≠ .lst l)->H' b=some o:=fun b o e m1 m2=>by
  refine k b o (fun q=>?_) e
  rcases List.mem_cons.mp q with q|q
  ·rw[q,hx] at e;cases e;exact m1 _ _ _ rfl
  ·rw[List.mem_singleton.mp q,hb] at e;cases e;exact m2 _ rfl
 rcases t z hz with a|⟨c,a,b⟩
 ·exact .inl (n _ _ a (fun _ _ _ z=>by cases z) fun _ z=>by cases z)
 ·exact .inr ⟨c,n _ _ a (fun _ _ _ z=>by cases z) (fun _ z=>by cases z),n _ _ b (fun _ _ _ z=>by cases z) fun _ z=>by cases z⟩
theorem ug{A:List Addr}{H H':Hp}(k:bh A H H'):KA A H H':=fun b o nb _ e=>k b o nb e
end NC
namespace NC
open PySem
abbrev cJ(h:Heap)(z TI TO:Addr)(f0 f1:Value):Prop:=
 h.get? z=some {cls:= .type "zip",dict:=none,data:= .fields #[f0,f1,.bool true,.ref TI,.ref TO],slots:=#[]}
section
variable {prog:Program}{w:World}{A:Around}{E:Value->Shared->Prop}{s:Shared}
theorem pB{it t:Addr}{i:Nat}{items:Array Value}{x:Value}{Q:Value->Shared->Prop}(hit:s.heap.IsTupleIter it t i)(ht:s.heap.IsTuple t items)(hx:items[i]? =some x)
  (hQ:∀h',h'.IsTupleIter it t (i+1)->Heap.SameBut it s.heap h'->Q x {s with heap:=h'}):wpAny (model prog w) A (Builtin.SmallTypes.nextOf (.ref it)) Q E s:=by
 obtain⟨o,ho,hc,hd⟩:=id hit
 obtain⟨ol,Qq,_,nl,DJ⟩:=ht
 unfold Builtin.SmallTypes.nextOf
 refine wpAny_bind (wpAny_callSpecial?_slot (name:=Str.ofString "__next__") hit.typeIs F.slot_tuple_iterator_next
  (wpAny_call_entry F.slot_tuple_iterator_next hit.typeIs F.entry_tuple_iterator_next ?_ (F.args_tuple_iterator_next_1 _)))
 show wpAny _ _ (field (.ref it) 0 >>= _) _ _ s
 refine wpAny_bind (wpAny_field ho hd (x:= .ref t) rfl ?_)
 show wpAny _ _ (if (Value.ref t==Value.none)=true then _ else _) _ _ s
 rw[if_neg (show ¬((Value.ref t==Value.none)=true) from Bool.false_ne_true)]
 show wpAny _ _ (field (.ref it) 1 >>= _) _ _ s
 refine wpAny_bind (wpAny_field ho hd (x:= .int i 0) rfl ?_)
 show wpAny _ _ (seqItems? (.ref t) >>= _) _ _ s
 refine wpAny_bind (wpAny_seqItems Qq DJ ?_)
 simp only[Int.toNat_natCast,hx]
 refine wpAny_bind (wpAny_setField ho hd (by simp) (wpAny_pure ⟨x,rfl,wpAny_pure (hQ _ ?_ (Heap.SameBut.update ..))⟩))
 exact⟨_,Heap.get?_update_self _ ho (Obj.isFreed_of_fields (Obj.data_mapFields hd _)),(Obj.cls_mapFields ..).trans hc,by
  rw[Obj.data_mapFields hd];simp[rawInt]⟩
theorem ed{it t:Addr}{i:Nat}{items:Array Value}{x:Value}{Q:Option Value->Shared->Prop}(hit:s.heap.IsTupleIter it t i)(ht:s.heap.IsTuple t items)(hx:items[i]? =some x)
  (hQ:∀h',h'.IsTupleIter it t (i+1)->Heap.SameBut it s.heap h'->Q (some x) {s with heap:=h'}):wpAny (model prog w) A (Builtin.SmallTypes.nextOrEnd (.ref it)) Q E s:=by
 unfold Builtin.SmallTypes.nextOrEnd
 exact wpAny_bind (wpAny_attempt (pB hit ht hx fun h' a b=>wpAny_pure (hQ h' a b)))
theorem eR{it t:Addr}{i:Nat}{items:Array Value}{Q:Option Value->Shared->Prop}(hh:A.handled=none)(hit:s.heap.IsTupleIter it t i)(ht:s.heap.IsTuple t items)(hx:items[i]? =none)
  (hQ:∀h',Heap.ExtBut it s.heap h'->Q none {s with heap:=h'}):wpAny (model prog w) A (Builtin.SmallTypes.nextOrEnd (.ref it)) Q E s:=by
 obtain⟨o,ho,hc,hd⟩:=id hit
 obtain⟨ol,Qq,_,nl,DJ⟩:=ht
 unfold Builtin.SmallTypes.nextOrEnd Builtin.SmallTypes.nextOf
 refine wpAny_bind (wpAny_attempt (wpAny_bind (wpAny_callSpecial?_slot (name:=Str.ofString "__next__") hit.typeIs F.slot_tuple_iterator_next
  (wpAny_call_entry F.slot_tuple_iterator_next hit.typeIs F.entry_tuple_iterator_next ?_ (F.args_tuple_iterator_next_1 _)))))
 show wpAny _ _ (field (.ref it) 0 >>= _) _ _ s
 refine wpAny_bind (wpAny_field ho hd (x:= .ref t) rfl ?_)
 show wpAny _ _ (if (Value.ref t==Value.none)=true then _ else _) _ _ s
 rw[if_neg (show ¬((Value.ref t==Value.none)=true) from Bool.false_ne_true)]
 show wpAny _ _ (field (.ref it) 1 >>= _) _ _ s
 refine wpAny_bind (wpAny_field ho hd (x:= .int i 0) rfl ?_)
 show wpAny _ _ (seqItems? (.ref t) >>= _) _ _ s
 refine wpAny_bind (wpAny_seqItems Qq DJ ?_)
 simp only[Int.toNat_natCast,hx]
 refine wpAny_bind (wpAny_rule (wpAny_bind (wpAny_setField ho hd (by simp) ?_)))
 show wpAny _ _ (newExc (.type "StopIteration") [] >>= _) _ _ _
 refine wpAny_bind ?_
 simp only[newExc,newTuple]
 refine wpAny_bind (wpAny_newObj_type ?_ (by size_fits))
 refine wpAny_bind (m:=firstArgMember _ _) (wpAny_of_eq (a:=Value.none) (by first|rfl| (simp only[firstArgMember];rfl)) ?_)
 refine wpAny_newObj_type ?_ (by size_fits)
 simp only[raiseNew]
 refine wpAny_bind (wpAny_handled ?_)
 first|rw[show A.in1.handled=none from hh]|rw[hh]
 refine wpAny_bind (wpAny_pure (wpAny_throw ?_))
 refine wpAny_bind (wpAny_isInstance (T:="StopIteration") (b:=true) ⟨_,Heap.get?_push_size _ rfl,rfl⟩ isSubtype_stop ?_)
 exact wpAny_pure (hQ _ (((Heap.SameBut.update ..).extBut.push _).push _))
theorem wI{z TI TO i1 i2 l1 l2:Addr}{k1 k2:Nat}{xs ys:Array Value}{x y a b:Value}{Q:Value->Shared->Prop}(D:ZipApart z TI TO i1 i2 l1 l2)
  (hz:cJ s.heap z TI TO .none (.bool false))(jB:IsPair s.heap TI (.ref i1) (.ref i2))(qh:IsPair s.heap TO a b)
  (h1:s.heap.IsTupleIter i1 l1 k1)(h2:s.heap.IsTupleIter i2 l2 k2)(lG:s.heap.IsTuple l1 xs)(ib:s.heap.IsTuple l2 ys)(hx:xs[k1]? =some x)(hy:ys[k2]? =some y)
  (hQ:∀h',cJ h' z TI TO (rawInt s.heap.objs.size) (.bool false)->IsPair h' TO x y->h'.IsTupleIter i1 l1 (k1+1)->h'.IsTupleIter i2 l2 (k2+1)->IsPair h' s.heap.objs.size x y->h'.objs.size=s.heap.objs.size+1->
   (∀c o,c≠z->c≠TO->c≠i1->c≠i2->s.heap.get? c=some o->h'.get? c=some o)->Q (.ref s.heap.objs.size) {s with heap:=h'}):
  wpAny (model prog w) A (Builtin.«zip.__next__» ⟨[.ref z],[]⟩) (fun fin s'=>∃v,fin= .done (.ret v)/\Q v s') E s:=by
 show wpAny _ _ (field (.ref z) 2 >>= _) _ _ _
 refine wpAny_bind (wpAny_field hz rfl (x:= .bool true) rfl ?_)
 show wpAny _ _ (field (.ref z) 3 >>= _) _ _ _
 refine wpAny_bind (wpAny_field hz rfl (x:= .ref TI) rfl ?_)
 refine wpAny_bind (wpAny_seqItems jB rfl ?_)
 show wpAny _ _ (Builtin.SmallTypes.ownedTupleIsFree (.ref z) >>= _) _ _ _
 refine wpAny_bind ?_
 unfold Builtin.SmallTypes.ownedTupleIsFree
 refine wpAny_bind (wpAny_field hz rfl (x:= .none) rfl (wpAny_pure ?_))
 simp only[if_true]
 refine wpAny_bind (wpAny_rule ?_)
 refine wpAny_bind (wpAny_field hz rfl (x:= .ref TO) rfl ?_)
 refine wpAny_bind (wpAny_setField_rec hz (by simp) fun h₁ hz₁ hs₁=>?_)
 replace hz₁:cJ h₁ z TI TO .ellipsis (.bool false):=hz₁
 refine wpAny_bind ?_
 simp only[List.zipIdx_cons,List.zipIdx_nil,List.forIn_cons,List.forIn_nil]
 refine wpAny_bind (wpAny_bind (wpAny_onRaise ?_))
 show wpAny _ _ (Builtin.SmallTypes.nextOrEnd (.ref i1)) _ _ _
 refine ed (h1.extBut hs₁.extBut D.i1z) (lG.extBut hs₁.extBut D.l1z) hx fun h₂ h1₂ hs₂=>?_
 have hTO₂:IsPair h₂ TO a b:=hs₂.extBut _ _ D.TOi1 (hs₁.extBut _ _ D.TOz qh)
 refine wpAny_bind (wpAny_seqItems hTO₂ rfl ?_)
 refine wpAny_bind (wpAny_updateSeq_pair hTO₂ fun h₃ hTO₃ hs₃=>?_)
 replace hTO₃:IsPair h₃ TO x b:=hTO₃
 refine wpAny_bind (wpAny_letGo (wpAny_pure ?_))
 refine wpAny_bind (wpAny_bind (wpAny_onRaise ?_))
 show wpAny _ _ (Builtin.SmallTypes.nextOrEnd (.ref i2)) _ _ _
 refine ed (((h2.extBut hs₁.extBut D.i2z).extBut hs₂.extBut D.i12.symm).extBut hs₃.extBut D.TOi2.symm)
  (((ib.extBut hs₁.extBut D.l2z).extBut hs₂.extBut D.l2i1).extBut hs₃.extBut D.l2TO) hy fun h₄ h2₄ hs₄=>?_
 have hTO₄:IsPair h₄ TO x b:=hs₄.extBut _ _ D.TOi2 hTO₃
 refine wpAny_bind (wpAny_seqItems hTO₄ rfl ?_)
 refine wpAny_bind (wpAny_updateSeq_pair hTO₄ fun h₅ hTO₅ hs₅=>?_)
 replace hTO₅:IsPair h₅ TO x y:=hTO₅
 refine wpAny_bind (wpAny_letGo (wpAny_pure (wpAny_pure ?_)))
 refine wpAny_bind (wpAny_seqItems hTO₅ rfl ?_)
 refine wpAny_bind (wpAny_newTuple ?_)
 have hsz:h₅.objs.size=s.heap.objs.size:=by rw[hs₅.1,hs₄.1,hs₃.1,hs₂.1,hs₁.1]
 have hz₅:cJ h₅ z TI TO .ellipsis (.bool false):=hs₅.extBut _ _ D.TOz.symm (hs₄.extBut _ _ D.i2z.symm (hs₃.extBut _ _ D.TOz.symm (hs₂.extBut _ _ D.i1z.symm hz₁)))
 have hk₅:∀c o,c≠z->c≠TO->c≠i1->c≠i2->s.heap.get? c=some o->h₅.get? c=some o:=fun c o c1 c2 c3 c4 e=>
  hs₅.extBut _ _ c2 (hs₄.extBut _ _ c4 (hs₃.extBut _ _ c2 (hs₂.extBut _ _ c3 (hs₁.extBut _ _ c1 e))))
 have h1₅:h₅.IsTupleIter i1 l1 (k1+1):=((h1₂.extBut hs₃.extBut D.TOi1.symm).extBut hs₄.extBut D.i12).extBut hs₅.extBut D.TOi1.symm
 have h2₅:h₅.IsTupleIter i2 l2 (k2+1):=h2₄.extBut hs₅.extBut D.TOi2.symm
 have Lk:z < h₅.objs.size:=Heap.lt_size hz₅
 have UP:TO < h₅.objs.size:=Heap.lt_size hTO₅
 show wpAny _ _ (Builtin.SmallTypes.ownedTupleHandOut (.ref z) (.ref h₅.objs.size) >>= _) _ _ _
 refine wpAny_bind ?_
 unfold Builtin.SmallTypes.ownedTupleHandOut
 have hz₆:cJ (h₅.push {cls:= .type "tuple",data:= .seq #[x,y]}) z TI TO .ellipsis (.bool false):=Heap.get?_push_of_some _ hz₅
 refine wpAny_bind (wpAny_setField_rec hz₆ (by simp) fun h₇ hz₇ hs₇=>?_)
 replace hz₇:cJ h₇ z TI TO (rawInt h₅.objs.size) (.bool false):=hz₇
 refine wpAny_setField_rec hz₇ (by simp) fun h₈ hz₈ hs₈=>?_
 replace hz₈:cJ h₈ z TI TO (rawInt h₅.objs.size) (.bool false):=hz₈
 have up:∀c o,c≠z->h₅.get? c=some o->h₈.get? c=some o:=fun c o c1 e=>hs₈.extBut _ _ c1 (hs₇.extBut _ _ c1 (Heap.get?_push_of_some _ e))
 have hT₈:IsPair h₈ h₅.objs.size x y:=hs₈.extBut _ _ (Nat.ne_of_gt Lk) (hs₇.extBut _ _ (Nat.ne_of_gt Lk) (Heap.get?_push_size _ rfl))
 have Ui:h₈.objs.size=h₅.objs.size+1:=by rw[hs₈.1,hs₇.1,Heap.size_push]
 rw[hsz] at hz₈ hT₈ Ui
 refine wpAny_pure ⟨_,rfl,?_⟩
 show Q (.ref h₅.objs.size) _
 rw[hsz]
 have DE:∀{i l:Addr}{k:Nat},i≠z->h₅.IsTupleIter i l k->h₈.IsTupleIter i l k:=fun hn ⟨o,e,r⟩=>⟨o,up _ o hn e,r⟩
 exact hQ h₈ hz₈ (up _ _ D.TOz hTO₅) (DE D.i1z h1₅) (DE D.i2z h2₅) hT₈ Ui fun c o c1 c2 c3 c4 e=>up c o c1 (hk₅ c o c1 c2 c3 c4 e)
theorem Ah{a:Addr}{Q:Option Obj->Shared->Prop}(h:Q (s.heap.get? a) s):wpAny (model prog w) A (loadIfAlive a) Q E s:=fun Γ p _=>by
 unfold loadIfAlive
 rw[Sem.wp_loadIfAlive]
 exact h
theorem yA{z TI TO T:Addr}{b:Bool}{o:Obj}{Q:Bool->Shared->Prop}(hz:cJ s.heap z TI TO (rawInt T) (.bool b))(ha:s.heap.get? T=some o)
  (hQ:∀h',cJ h' z TI TO (rawInt T) (.bool true)->Heap.SameBut z s.heap h'->Q false {s with heap:=h'}):wpAny (model prog w) A (Builtin.SmallTypes.ownedTupleIsFree (.ref z)) Q E s:=by
 unfold Builtin.SmallTypes.ownedTupleIsFree
 refine wpAny_bind (wpAny_field hz rfl (x:=rawInt T) rfl ?_)
 show wpAny _ _ (loadIfAlive ((T:Int).toNat) >>= _) _ _ _
 rw[Int.toNat_natCast]
 refine wpAny_bind (Ah ?_)
 rw[ha]
 show wpAny _ _ (field (.ref z) 1 >>= _) _ _ _
 refine wpAny_bind (wpAny_field hz rfl (x:= .bool b) rfl ?_)
 cases b with
 |true=>exact wpAny_pure (hQ s.heap hz ⟨rfl,fun _ _=>rfl⟩)
 |false=>exact wpAny_bind (wpAny_setField_rec hz (by simp) fun h' PK Bd=>wpAny_pure (hQ h' PK Bd))
theorem zA{z TI TO T i1 i2 l1 l2:Addr}{f:Bool}{o:Obj}{k1 k2:Nat}{xs ys:Array Value}{x y:Value}{Q:Value->Shared->Prop}(D:ZipApart z TI TO i1 i2 l1 l2)
  (hz:cJ s.heap z TI TO (rawInt T) (.bool f))(ha:s.heap.get? T=some o)(jB:IsPair s.heap TI (.ref i1) (.ref i2))
  (h1:s.heap.IsTupleIter i1 l1 k1)(h2:s.heap.IsTupleIter i2 l2 k2)(lG:s.heap.IsTuple l1 xs)(ib:s.heap.IsTuple l2 ys)(hx:xs[k1]? =some x)(hy:ys[k2]? =some y)
  (hQ:∀h',cJ h' z TI TO (rawInt T) (.bool true)->h'.IsTupleIter i1 l1 (k1+1)->h'.IsTupleIter i2 l2 (k2+1)->IsPair h' s.heap.objs.size x y->h'.objs.size=s.heap.objs.size+1->
   (∀c o,c≠z->c≠i1->c≠i2->s.heap.get? c=some o->h'.get? c=some o)->Q (.ref s.heap.objs.size) {s with heap:=h'}):
  wpAny (model prog w) A (Builtin.«zip.__next__» ⟨[.ref z],[]⟩) (fun fin s'=>∃v,fin= .done (.ret v)/\Q v s') E s:=by
 show wpAny _ _ (field (.ref z) 2 >>= _) _ _ _
 refine wpAny_bind (wpAny_field hz rfl (x:= .bool true) rfl ?_)
 show wpAny _ _ (field (.ref z) 3 >>= _) _ _ _
 refine wpAny_bind (wpAny_field hz rfl (x:= .ref TI) rfl ?_)
 refine wpAny_bind (wpAny_seqItems jB rfl ?_)
 show wpAny _ _ (Builtin.SmallTypes.ownedTupleIsFree (.ref z) >>= _) _ _ _
 refine wpAny_bind (yA hz ha fun h₁ hz₁ hs₁=>?_)
 show wpAny _ _ (_ >>= _) _ _ _
 refine wpAny_bind ?_
 simp only[List.forIn_toArray,List.forIn_cons,List.forIn_nil]
 refine wpAny_bind (wpAny_bind (wpAny_holding ?_))
 show wpAny _ _ (Builtin.SmallTypes.nextOrEnd (.ref i1)) _ _ _
 refine ed (h1.extBut hs₁.extBut D.i1z) (lG.extBut hs₁.extBut D.l1z) hx fun h₂ h1₂ hs₂=>wpAny_pure ?_
 refine wpAny_bind (wpAny_bind (wpAny_holding ?_))
 show wpAny _ _ (Builtin.SmallTypes.nextOrEnd (.ref i2)) _ _ _
 refine ed ((h2.extBut hs₁.extBut D.i2z).extBut hs₂.extBut D.i12.symm) ((ib.extBut hs₁.extBut D.l2z).extBut hs₂.extBut D.l2i1) hy fun h₄ h2₄ hs₄=>wpAny_pure (wpAny_pure ?_)
 refine wpAny_bind (wpAny_newTuple ?_ (by show(2:Nat)<=sizeLine;decide))
 have hsz:h₄.objs.size=s.heap.objs.size:=by rw[hs₄.1,hs₂.1,hs₁.1]
 have up:∀c o,h₄.get? c=some o->(h₄.push {cls:= .type "tuple",data:= .seq #[x,y]}).get? c=some o:=fun c o e=>Heap.get?_push_of_some _ e
 have DE:∀{i l:Addr}{k:Nat},h₄.IsTupleIter i l k->(h₄.push {cls:= .type "tuple",data:= .seq #[x,y]}).IsTupleIter i l k:=fun⟨o,e,r⟩=>⟨o,up _ o e,r⟩
 refine wpAny_pure ⟨_,rfl,?_⟩
 show Q (.ref h₄.objs.size) _
 have hp:IsPair (h₄.push {cls:= .type "tuple",data:= .seq #[x,y]}) h₄.objs.size x y:=Heap.get?_push_size _ rfl
 have Uj:(h₄.push {cls:= .type "tuple",data:= .seq #[x,y]}).objs.size=h₄.objs.size+1:=Heap.size_push ..
 rw[hsz] at hp Uj ⊢
 exact hQ _ (up _ _ (hs₄.extBut _ _ D.i2z.symm (hs₂.extBut _ _ D.i1z.symm hz₁))) (DE (h1₂.extBut hs₄.extBut D.i12)) (DE h2₄) hp Uj fun c o c1 c3 c4 e=>up c o (hs₄.extBut _ _ c4 (hs₂.extBut _ _ c3 (hs₁.extBut _ _ c1 e)))
theorem Bj{z TI TO T i1 i2 l1 l2:Addr}{f:Bool}{o:Obj}{k1 k2:Nat}{xs ys:Array Value}{Q:Fin->Shared->Prop}(hh:A.handled=none)(D:ZipApart z TI TO i1 i2 l1 l2)
  (hz:cJ s.heap z TI TO (rawInt T) (.bool f))(ha:s.heap.get? T=some o)(jB:IsPair s.heap TI (.ref i1) (.ref i2))
  (h1:s.heap.IsTupleIter i1 l1 k1)(h2:s.heap.IsTupleIter i2 l2 k2)(lG:s.heap.IsTuple l1 xs)(ib:s.heap.IsTuple l2 ys)(hx:xs[k1]? =none)(hy:ys[k2]? =none)
  (hE:∀h' e,(∀c o,c≠z->c≠i1->c≠i2->s.heap.get? c=some o->h'.get? c=some o)->(∃o,h'.get? e=some o/\o.cls= .type "StopIteration")->E (.ref e) {s with heap:=h'}):
  wpAny (model prog w) A (Builtin.«zip.__next__» ⟨[.ref z],[]⟩) Q E s:=by
 show wpAny _ _ (field (.ref z) 2 >>= _) _ _ _
 refine wpAny_bind (wpAny_field hz rfl (x:= .bool true) rfl ?_)
 show wpAny _ _ (field (.ref z) 3 >>= _) _ _ _
 refine wpAny_bind (wpAny_field hz rfl (x:= .ref TI) rfl ?_)
 refine wpAny_bind (wpAny_seqItems jB rfl ?_)
 show wpAny _ _ (Builtin.SmallTypes.ownedTupleIsFree (.ref z) >>= _) _ _ _
 refine wpAny_bind (yA hz ha fun h₁ hz₁ hs₁=>?_)
 show wpAny _ _ (_ >>= _) _ _ _
 refine wpAny_bind ?_
 simp only[List.forIn_toArray,List.forIn_cons,List.forIn_nil]
 refine wpAny_bind (wpAny_bind (wpAny_holding ?_))
 show wpAny _ _ (Builtin.SmallTypes.nextOrEnd (.ref i1)) _ _ _
 refine eR hh (h1.extBut hs₁.extBut D.i1z) (lG.extBut hs₁.extBut D.l1z) hx fun h₂ hs₂=>?_
 show wpAny _ _ (_ >>= fun r=>pure (ForInStep.done (some r,#[]))) _ _ _
 refine wpAny_bind ?_
 wp_delta
 rw[if_neg (show ¬((#[]:Array Value).size > 0) by decide)]
 show wpAny _ _ (forIn [(Value.ref i2,1)] PUnit.unit _ >>= _) _ _ _
 simp only[List.forIn_cons,List.forIn_nil]
 refine wpAny_bind (wpAny_bind (wpAny_bind (eR hh ((h2.extBut hs₁.extBut D.i2z).extBut hs₂ D.i12.symm) ((ib.extBut hs₁.extBut D.l2z).extBut hs₂ D.l2i1) hy fun h₃ hs₃=>?_)))
 refine wpAny_pure (wpAny_pure ?_)
 refine wpAny_bind (wpAny_rule ?_)
 show wpAny _ _ (newExc (.type "StopIteration") [] >>= _) _ _ _
 refine wpAny_bind ?_
 simp only[newExc,newTuple]
 refine wpAny_bind (wpAny_newObj_type ?_ (by size_fits))
 refine wpAny_bind (m:=firstArgMember _ _) (wpAny_of_eq (a:=Value.none) (by first|rfl| (simp only[firstArgMember];rfl)) ?_)
 refine wpAny_newObj_type ?_ (by size_fits)
 simp only[raiseNew]
 refine wpAny_bind (wpAny_handled ?_)
 rw[hh]
 refine wpAny_bind (wpAny_pure (wpAny_throw ?_))
 exact hE _ _ (fun c o c1 c3 c4 e=>Heap.get?_push_of_some _ (Heap.get?_push_of_some _ (hs₃ _ _ c4 (hs₂ _ _ c3 (hs₁.extBut _ _ c1 e))))) ⟨_,Heap.get?_push_size _ rfl,rfl⟩
theorem sh{T newId:String}{Bn:Builtin}{args:List Value}{kw:List (Str×Value)}{S:Spec}{Q:Value->Shared->Prop}(ft:TypeCalled T newId "object.__init__")
  (lF:(some newId != some "object.__new__")=true)(hct:checkTypeCall T ⟨args,kw⟩=pure ())(Yz:checkBuiltinCall newId ⟨.type T::args,kw⟩=pure ())
  (cx:∀obj,argsOk "object.__init__" ⟨obj::args,kw⟩)(IV:entryFor table newId=some Bn)(g:Meets (Bn ⟨.type T::args,kw⟩) S)
  (gi:∀obj,Meets (Builtin.«object.__init__» ⟨obj::args,kw⟩) (fun _ R s=>s.TypeIs obj T/\R (.ok (.ret .none)) s))
  (h:S A.in1 (wants (fun obj s₁=>s₁.TypeIs obj T/\Q obj s₁) E) s):wpAny (model prog w) A (call (.type T) args kw) Q E s:=by
 obtain⟨c,tl,Yf⟩:=ft.mro
 have UA:=ft.made
 have P9:=ft.sub
 refine wpAny_call (codeAny_of_tree ?_)
 show wpAny _ _ (callAny (.type T) _) _ _ _
 refine wpAny_pure ⟨Code.quiet_builtin _ (by decide+kernel),codeAny_builtin F.entry_type_call ?_⟩
 rw[Around.under_plain (weight_type_call_type T args kw) (units_type_call_type T args kw)]
 have h1:=ft.notType
 have h2:=ft.canCreate
 repeat (any_goals (first|assumption|wp_step))
 refine codeAny_mono (codeAny_call_builtin ft.plain IV (wpAny_of_eq Yz (g prog w A.in1 _ s h))) fun r s₁ hr=>?_
 cases r with
 |error e=>exact hr
 |ok fl=>
  cases fl with
  |ret obj=>
   have hT:s₁.TypeIs obj T:=hr.1
   have hli:=ft.init.lookup
   have hbi:=ft.init.bind obj
   repeat (any_goals (first|assumption|wp_step))
   refine codeAny_mono (codeAny_call_builtin ft.init.plain F.entry_object_init (ft.init.check _ _ _ _ _ _ _ _ hT (cx obj) (gi obj prog w A.in1 (wants (fun r s₂=>r= .none/\Q obj s₂) E) s₁ ⟨hT,rfl,hr.2⟩))) fun r₂ s₂ hr₂=>?_
   cases r₂ with
   |error e=>exact hr₂
   |ok fl₂=>
    cases fl₂ with
    |ret r=>
     obtain⟨rfl,hq⟩:=hr₂
     repeat (any_goals (first|assumption|wp_step))
    |_=>exact hr₂.elim
  |_=>exact hr.elim
abbrev gL:List (Str×Value):=[("strict",.bool true)]
theorem rV(a b:Value):checkTypeCall "zip" ⟨[a,b],gL⟩=pure ():=by kernel_rfl
theorem t8(a b:Value):checkBuiltinCall "zip.__new__" ⟨[.type "zip",a,b],gL⟩=pure ():=by kernel_rfl
theorem rJ(a b c:Value):argsOk "object.__init__" ⟨[a,b,c],gL⟩:=by
 unfold argsOk;rw[signature?_of (id:="object.__init__") (n:=['_','_','t','i','n','i','_','_']) (o:=['t','c','e','j','b','o']) (by kernel_rfl) F.owner_object];kernel_rfl
end
abbrev Nf(h:Heap)(l1:Addr):Heap:=h.push {cls:= .type "tuple_iterator",data:= .fields #[.ref l1,.int 0 0]}
abbrev Nd(h:Heap)(l1 l2:Addr):Heap:=(Nf h l1).push {cls:= .type "tuple_iterator",data:= .fields #[.ref l2,.int 0 0]}
abbrev Nc(h:Heap)(l1 l2:Addr):Heap:=(Nd h l1 l2).push {cls:= .type "tuple",data:= .seq #[.ref h.objs.size,.ref (Nf h l1).objs.size]}
abbrev Nb(h:Heap)(l1 l2:Addr):Heap:=(Nc h l1 l2).push {cls:= .type "tuple",data:= .seq #[.none,.none]}
abbrev GQ(h:Heap)(l1 l2:Addr):Heap:=(Nb h l1 l2).push {cls:= .type "zip",data:= .fields #[.none,.bool false,.bool true,.ref (Nd h l1 l2).objs.size,.ref (Nc h l1 l2).objs.size]}
theorem qX(l1 l2:Addr)(xs ys:Array Value):
  Meets (Builtin.«zip.__new__» ⟨[.type "zip",.ref l1,.ref l2],gL⟩) (fun _ R s=>s.heap.IsTuple l1 xs/\s.heap.IsTuple l2 ys/\
   R (.ok (.ret (.ref (Nb s.heap l1 l2).objs.size))) {s with heap:=GQ s.heap l1 l2}):=
 .of_wp fun prog w A R s h=>by
  obtain⟨hp,g,d,tk,os⟩:=s;obtain⟨lG,ib,h⟩:=h
  have P9:=sub_zip
  have YL:Heap.IsTuple (Shared.heap ⟨hp,g,d,tk,os⟩) l1 xs:=lG
  have YK:Heap.IsTuple (Shared.heap ⟨hp.push {cls:= .type "tuple_iterator",data:= .fields #[.ref l1,.int 0 0]},g,d,tk,os⟩) l2 ys:=Heap.IsTuple.push ib _
  wp_walk using wpAny_pyIter_tuple YL,wpAny_pyIter_tuple YK
  exact⟨_,rfl,h⟩
theorem zB{self a b:Value}:Meets (Builtin.«object.__init__» ⟨[self,a,b],gL⟩) (fun _ R s=>s.TypeIs self "zip"/\R (.ok (.ret .none)) s):=by
 have hl:=F.called_zip.init.lookup
 have hm:=F.called_zip.made
 have lF:(some "zip.__new__" != some "object.__new__")=true:=by decide
 refine Meets.of_wp fun prog w A R s hs=>?_
 obtain⟨hT,hq⟩:=hs
 repeat (any_goals (first|assumption|wp_step))
 exact⟨_,rfl,hq⟩
section
variable {prog:Program}{w:World}{A:Around}{E:Value->Shared->Prop}{s:Shared}
theorem AN{l1 l2:Addr}{xs ys:Array Value}{Q:Value->Shared->Prop}(lG:s.heap.IsTuple l1 xs)(ib:s.heap.IsTuple l2 ys)
  (h:∀h',cJ h' (s.heap.objs.size+4) (s.heap.objs.size+2) (s.heap.objs.size+3) .none (.bool false)->IsPair h' (s.heap.objs.size+2) (.ref s.heap.objs.size) (.ref (s.heap.objs.size+1))->
   IsPair h' (s.heap.objs.size+3) .none .none->h'.IsTupleIter s.heap.objs.size l1 0->h'.IsTupleIter (s.heap.objs.size+1) l2 0->h'.objs.size=s.heap.objs.size+5->
   (∀c o,s.heap.get? c=some o->h'.get? c=some o)->Q (.ref (s.heap.objs.size+4)) {s with heap:=h'}):
  wpAny (model prog w) A (call (.type "zip") [.ref l1,.ref l2] gL) Q E s:=by
 refine sh F.called_zip (by decide) (rV _ _) (t8 _ _) (fun obj=>rJ obj _ _) F.entry_zip_new
  (qX l1 l2 xs ys) (fun obj=>zB) ⟨lG,ib,?_⟩
 have z1:(Nf s.heap l1).objs.size=s.heap.objs.size+1:=Heap.size_push ..
 have z2:(Nd s.heap l1 l2).objs.size=s.heap.objs.size+2:=by rw[Heap.size_push,z1]
 have z3:(Nc s.heap l1 l2).objs.size=s.heap.objs.size+3:=by rw[Heap.size_push,z2]
 have z4:(Nb s.heap l1 l2).objs.size=s.heap.objs.size+4:=by rw[Heap.size_push,z3]
 have z5:(GQ s.heap l1 l2).objs.size=s.heap.objs.size+5:=by rw[Heap.size_push,z4]
 have g5:(GQ s.heap l1 l2).get? (Nb s.heap l1 l2).objs.size=some _:=Heap.get?_push_size _ rfl
 have g4:(GQ s.heap l1 l2).get? (Nc s.heap l1 l2).objs.size=some _:=Heap.get?_push_of_some _ (Heap.get?_push_size _ rfl)
 have g3:(GQ s.heap l1 l2).get? (Nd s.heap l1 l2).objs.size=some _:=Heap.get?_push_of_some _ (Heap.get?_push_of_some _ (Heap.get?_push_size _ rfl))
 have g2:(GQ s.heap l1 l2).get? (Nf s.heap l1).objs.size=some _:=Heap.get?_push_of_some _ (Heap.get?_push_of_some _ (Heap.get?_push_of_some _ (Heap.get?_push_size _ rfl)))
 have g1:(GQ s.heap l1 l2).get? s.heap.objs.size=some _:=Heap.get?_push_of_some _ (Heap.get?_push_of_some _ (Heap.get?_push_of_some _ (Heap.get?_push_of_some _ (Heap.get?_push_size _ rfl))))
 show _/\_
 rw[z2,z3,z4] at g5
 rw[z1,z2] at g3
 rw[z3] at g4
 rw[z1] at g2
 rw[z4]
 exact⟨⟨_,g5,rfl⟩,h _ g5 g3 g4 ⟨_,g1,rfl,rfl⟩ ⟨_,g2,rfl,rfl⟩ z5 fun c o x=>
  Heap.get?_push_of_some _ (Heap.get?_push_of_some _ (Heap.get?_push_of_some _ (Heap.get?_push_of_some _ (Heap.get?_push_of_some _ x))))⟩
theorem vR{I S:Addr}{acc:Array Value}{c:Nat}{res:Value}{R:Result->Shared->Prop}(hn:acc.size < sizeLine)
  (h:wpAny (model prog w) A.in1 (pyNext (.ref I)) (fun r s'=>∃v,r=some v/\s'.heap.get? S=some {cls:= .type "list",dict:=none,data:= .seq acc c,slots:=#[]}/\
   ∀h' c',h'.get? S=some {cls:= .type "list",dict:=none,data:= .seq (acc.push v) c',slots:=#[]}->(∀b o,b≠S->s'.heap.get? b=some o->h'.get? b=some o)->h'.objs.size=s'.heap.objs.size->
    codeAny (model prog w) A (.builtin "list.extend.loop" ⟨[.ref S,.ref I,res],[]⟩) R {s' with heap:=h'}) (fun e s'=>R (.error e) s') s):
  codeAny (model prog w) A (.builtin "list.extend.loop" ⟨[.ref S,.ref I,res],[]⟩) R s:=by
 refine codeAny_builtin F.entry_extend_loop ?_
 rw[Around.under_plainId F.plain_extend_loop _]
 show wpAny _ A.in1 (pyNext (.ref I) >>= _) _ _ s
 refine wpAny_bind (wpAny_mono h (fun r s' hr=>?_) fun _ _ x=>x)
 obtain⟨v,rfl,Gz,k⟩:=hr
 show wpAny _ A.in1 (updateSeq S (·.push v) >>= _) _ _ _
 refine wpAny_bind (wpAny_updateSeq Gz rfl (wpAny_pure ⟨plainId_quiet F.plain_extend_loop _,k _ _ (Heap.get?_update_self _ Gz rfl) (fun b o hb e=>(Heap.get?_update_other _ _ (Ne.symm hb)).trans e) (Heap.size_update ..)⟩) (by omega) (by show(acc.push v).size<=sizeLine+1;rw[Array.size_push];omega))
theorem vS{I S:Addr}{res:Value}{R:Result->Shared->Prop}(h:wpAny (model prog w) A.in1 (pyNext (.ref I)) (fun r s'=>r=none/\R (.ok (.ret res)) s') (fun e s'=>R (.error e) s') s):
  codeAny (model prog w) A (.builtin "list.extend.loop" ⟨[.ref S,.ref I,res],[]⟩) R s:=by
 refine codeAny_builtin F.entry_extend_loop ?_
 rw[Around.under_plainId F.plain_extend_loop _]
 show wpAny _ A.in1 (pyNext (.ref I) >>= _) _ _ s
 refine wpAny_bind (wpAny_mono h (fun r s' hr=>?_) fun _ _ x=>x)
 obtain⟨rfl,k⟩:=hr
 exact wpAny_pure k
theorem xp{z TI TO i1 i2 l1 l2:Addr}{k1 k2:Nat}{xs ys:Array Value}{x y a b:Value}{Q:Option Value->Shared->Prop}(D:ZipApart z TI TO i1 i2 l1 l2)
  (hz:cJ s.heap z TI TO .none (.bool false))(jB:IsPair s.heap TI (.ref i1) (.ref i2))(qh:IsPair s.heap TO a b)
  (h1:s.heap.IsTupleIter i1 l1 k1)(h2:s.heap.IsTupleIter i2 l2 k2)(lG:s.heap.IsTuple l1 xs)(ib:s.heap.IsTuple l2 ys)(hx:xs[k1]? =some x)(hy:ys[k2]? =some y)
  (hQ:∀h',cJ h' z TI TO (rawInt s.heap.objs.size) (.bool false)->IsPair h' TO x y->h'.IsTupleIter i1 l1 (k1+1)->h'.IsTupleIter i2 l2 (k2+1)->IsPair h' s.heap.objs.size x y->h'.objs.size=s.heap.objs.size+1->
   (∀c o,c≠z->c≠TO->c≠i1->c≠i2->s.heap.get? c=some o->h'.get? c=some o)->Q (some (.ref s.heap.objs.size)) {s with heap:=h'}):
  wpAny (model prog w) A (pyNext (.ref z)) Q E s:=by
 have hT:s.TypeIs (.ref z) "zip":=⟨_,hz,rfl⟩
 unfold pyNext
 exact wpAny_bind (wpAny_attempt (wpAny_callSpecial?_slot (name:=Str.ofString "__next__") hT F.slot_zip_next
  (wpAny_call_entry F.slot_zip_next hT F.entry_zip_next
   (wI D hz jB qh h1 h2 lG ib hx hy fun h' a1 a2 a3 a4 a5 a6 a7=>wpAny_pure (hQ h' a1 a2 a3 a4 a5 a6 a7)) (F.args_zip_next_1 _))))
theorem zZ{z TI TO T i1 i2 l1 l2:Addr}{f:Bool}{o:Obj}{k1 k2:Nat}{xs ys:Array Value}{x y:Value}{Q:Option Value->Shared->Prop}(D:ZipApart z TI TO i1 i2 l1 l2)
  (hz:cJ s.heap z TI TO (rawInt T) (.bool f))(ha:s.heap.get? T=some o)(jB:IsPair s.heap TI (.ref i1) (.ref i2))
  (h1:s.heap.IsTupleIter i1 l1 k1)(h2:s.heap.IsTupleIter i2 l2 k2)(lG:s.heap.IsTuple l1 xs)(ib:s.heap.IsTuple l2 ys)(hx:xs[k1]? =some x)(hy:ys[k2]? =some y)
  (hQ:∀h',cJ h' z TI TO (rawInt T) (.bool true)->h'.IsTupleIter i1 l1 (k1+1)->h'.IsTupleIter i2 l2 (k2+1)->IsPair h' s.heap.objs.size x y->h'.objs.size=s.heap.objs.size+1->
   (∀c o,c≠z->c≠i1->c≠i2->s.heap.get? c=some o->h'.get? c=some o)->Q (some (.ref s.heap.objs.size)) {s with heap:=h'}):
  wpAny (model prog w) A (pyNext (.ref z)) Q E s:=by
 have hT:s.TypeIs (.ref z) "zip":=⟨_,hz,rfl⟩
 unfold pyNext
 exact wpAny_bind (wpAny_attempt (wpAny_callSpecial?_slot (name:=Str.ofString "__next__") hT F.slot_zip_next
  (wpAny_call_entry F.slot_zip_next hT F.entry_zip_next
   (zA D hz ha jB h1 h2 lG ib hx hy fun h' a1 a3 a4 a5 a6 a7=>wpAny_pure (hQ h' a1 a3 a4 a5 a6 a7)) (F.args_zip_next_1 _))))
theorem next_end{z TI TO T i1 i2 l1 l2:Addr}{f:Bool}{o:Obj}{k1 k2:Nat}{xs ys:Array Value}{Q:Option Value->Shared->Prop}(hh:A.handled=none)(D:ZipApart z TI TO i1 i2 l1 l2)
  (hz:cJ s.heap z TI TO (rawInt T) (.bool f))(ha:s.heap.get? T=some o)(jB:IsPair s.heap TI (.ref i1) (.ref i2))
  (h1:s.heap.IsTupleIter i1 l1 k1)(h2:s.heap.IsTupleIter i2 l2 k2)(lG:s.heap.IsTuple l1 xs)(ib:s.heap.IsTuple l2 ys)(hx:xs[k1]? =none)(hy:ys[k2]? =none)
  (hQ:∀h',(∀c o,c≠z->c≠i1->c≠i2->s.heap.get? c=some o->h'.get? c=some o)->Q none {s with heap:=h'}):wpAny (model prog w) A (pyNext (.ref z)) Q E s:=by
 have hT:s.TypeIs (.ref z) "zip":=⟨_,hz,rfl⟩
 unfold pyNext
 refine wpAny_bind (wpAny_attempt (wpAny_callSpecial?_slot (name:=Str.ofString "__next__") hT F.slot_zip_next
  (wpAny_call_entry F.slot_zip_next hT F.entry_zip_next (Bj hh D hz ha jB h1 h2 lG ib hx hy fun h' e hk he=>?_) (F.args_zip_next_1 _))))
 obtain⟨o,ho,hc⟩:=he
 refine wpAny_bind (wpAny_isInstance (T:="StopIteration") (b:=true) ⟨o,ho,hc⟩ isSubtype_stop ?_)
 exact wpAny_pure (hQ _ hk)
theorem zC{z TI TO i1 i2 l1 l2:Addr}{k1 k2:Nat}{xs ys:Array Value}{a b:Value}{Q:Fin->Shared->Prop}(hh:A.handled=none)(D:ZipApart z TI TO i1 i2 l1 l2)
  (hz:cJ s.heap z TI TO .none (.bool false))(jB:IsPair s.heap TI (.ref i1) (.ref i2))(qh:IsPair s.heap TO a b)
  (h1:s.heap.IsTupleIter i1 l1 k1)(h2:s.heap.IsTupleIter i2 l2 k2)(lG:s.heap.IsTuple l1 xs)(ib:s.heap.IsTuple l2 ys)(hx:xs[k1]? =none)(hy:ys[k2]? =none)
  (hE:∀(h':Heap) (e:Addr),(∀c o,c≠z->c≠i1->c≠i2->s.heap.get? c=some o->h'.get? c=some o)->(∃o,h'.get? e=some o/\o.cls= .type "StopIteration")->E (.ref e) {s with heap:=h'}):
  wpAny (model prog w) A (Builtin.«zip.__next__» ⟨[.ref z],[]⟩) Q E s:=by
 show wpAny _ _ (field (.ref z) 2 >>= _) _ _ _
 refine wpAny_bind (wpAny_field hz rfl (x:= .bool true) rfl ?_)
 show wpAny _ _ (field (.ref z) 3 >>= _) _ _ _
 refine wpAny_bind (wpAny_field hz rfl (x:= .ref TI) rfl ?_)
 refine wpAny_bind (wpAny_seqItems jB rfl ?_)
 show wpAny _ _ (Builtin.SmallTypes.ownedTupleIsFree (.ref z) >>= _) _ _ _
 refine wpAny_bind ?_
 unfold Builtin.SmallTypes.ownedTupleIsFree
 refine wpAny_bind (wpAny_field hz rfl (x:= .none) rfl (wpAny_pure ?_))
 simp only[if_true]
 refine wpAny_bind (wpAny_rule ?_)
 refine wpAny_bind (wpAny_field hz rfl (x:= .ref TO) rfl ?_)
 refine wpAny_bind (wpAny_setField_rec hz (by simp) fun h₁ hz₁ hs₁=>?_)
 replace hz₁:cJ h₁ z TI TO .ellipsis (.bool false):=hz₁
 refine wpAny_bind ?_
 simp only[List.zipIdx_cons,List.zipIdx_nil,List.forIn_cons,List.forIn_nil]
 refine wpAny_bind (wpAny_bind (wpAny_onRaise ?_))
 show wpAny _ _ (Builtin.SmallTypes.nextOrEnd (.ref i1)) _ _ _
 refine eR hh (h1.extBut hs₁.extBut D.i1z) (lG.extBut hs₁.extBut D.l1z) hx fun h₂ hs₂=>?_
 have hz₂:cJ h₂ z TI TO .ellipsis (.bool false):=hs₂ _ _ D.i1z.symm hz₁
 show wpAny _ _ (setField (.ref z) 0 .none >>= _) _ _ _
 refine wpAny_bind (wpAny_setField_rec hz₂ (by simp) fun h₃ hz₃ hs₃=>?_)
 refine wpAny_bind ?_
 wp_delta
 rw[if_neg (show ¬(0 > 0) by decide)]
 show wpAny _ _ (forIn [(Value.ref i2,1)] PUnit.unit _ >>= _) _ _ _
 simp only[List.forIn_cons,List.forIn_nil]
 refine wpAny_bind (wpAny_bind (wpAny_bind (eR hh (((h2.extBut hs₁.extBut D.i2z).extBut hs₂ D.i12.symm).extBut hs₃.extBut D.i2z) (((ib.extBut hs₁.extBut D.l2z).extBut hs₂ D.l2i1).extBut hs₃.extBut D.l2z) hy fun h₄ hs₄=>?_)))
 refine wpAny_pure (wpAny_pure ?_)
 refine wpAny_bind (wpAny_rule ?_)
 show wpAny _ _ (newExc (.type "StopIteration") [] >>= _) _ _ _
 refine wpAny_bind ?_
 simp only[newExc,newTuple]
 refine wpAny_bind (wpAny_newObj_type ?_ (by size_fits))
 refine wpAny_bind (m:=firstArgMember _ _) (wpAny_of_eq (a:=Value.none) (by first|rfl| (simp only[firstArgMember];rfl)) ?_)
 refine wpAny_newObj_type ?_ (by size_fits)
 simp only[raiseNew]
 refine wpAny_bind (wpAny_handled ?_)
 rw[hh]
 refine wpAny_bind (wpAny_pure (wpAny_throw ?_))
 exact hE _ _ (fun c o c1 c3 c4 e=>Heap.get?_push_of_some _ (Heap.get?_push_of_some _ (hs₄ _ _ c4 (hs₃.extBut _ _ c1 (hs₂ _ _ c3 (hs₁.extBut _ _ c1 e)))))) ⟨_,Heap.get?_push_size _ rfl,rfl⟩
theorem Aa{z TI TO i1 i2 l1 l2:Addr}{k1 k2:Nat}{xs ys:Array Value}{a b:Value}{Q:Option Value->Shared->Prop}(hh:A.handled=none)(D:ZipApart z TI TO i1 i2 l1 l2)
  (hz:cJ s.heap z TI TO .none (.bool false))(jB:IsPair s.heap TI (.ref i1) (.ref i2))(qh:IsPair s.heap TO a b)
  (h1:s.heap.IsTupleIter i1 l1 k1)(h2:s.heap.IsTupleIter i2 l2 k2)(lG:s.heap.IsTuple l1 xs)(ib:s.heap.IsTuple l2 ys)(hx:xs[k1]? =none)(hy:ys[k2]? =none)
  (hQ:∀h':Heap,(∀c o,c≠z->c≠i1->c≠i2->s.heap.get? c=some o->h'.get? c=some o)->Q none {s with heap:=h'}):wpAny (model prog w) A (pyNext (.ref z)) Q E s:=by
 have hT:s.TypeIs (.ref z) "zip":=⟨_,hz,rfl⟩
 unfold pyNext
 refine wpAny_bind (wpAny_attempt (wpAny_callSpecial?_slot (name:=Str.ofString "__next__") hT F.slot_zip_next
  (wpAny_call_entry F.slot_zip_next hT F.entry_zip_next (zC hh D hz jB qh h1 h2 lG ib hx hy fun h' e hk he=>?_) (F.args_zip_next_1 _))))
 obtain⟨o,ho,hc⟩:=he
 refine wpAny_bind (wpAny_isInstance (T:="StopIteration") (b:=true) ⟨o,ho,hc⟩ isSubtype_stop ?_)
 exact wpAny_pure (hQ _ hk)
abbrev wq(h:Heap)(S:Addr)(acc:Array Value)(c:Nat):Prop:=h.get? S=some {cls:= .type "list",dict:=none,data:= .seq acc c,slots:=#[]}
def eS(xs ys:Array Value)(n0:Nat)(h:Heap)(acc:Array Value)(i:Nat):Prop:=
 acc.size=i/\(∀j,j < i->∃T x y,acc[j]? =some (.ref T)/\xs[j]? =some x/\ys[j]? =some y/\IsPair h T x y/\n0<=T)/\∀(i j:Nat) (T:Addr),acc[i]? =some (Value.ref T)->acc[j]? =some (Value.ref T)->i=j
theorem eS.keep{xs ys:Array Value}{n0:Nat}{h h':Heap}{acc:Array Value}{i:Nat}(p:eS xs ys n0 h acc i)(k:∀b o,n0<=b->h.get? b=some o->h'.get? b=some o):eS xs ys n0 h' acc i:=
 ⟨p.1,fun j hj=>let ⟨T,x,y,a,b,c,d,e⟩:=p.2.1 j hj;⟨T,x,y,a,b,c,k _ _ e d,e⟩,p.2.2⟩
theorem eS.push{xs ys:Array Value}{n0 T:Nat}{h:Heap}{acc:Array Value}{i:Nat}{x y:Value}(p:eS xs ys n0 h acc i)(hx:xs[i]? =some x)(hy:ys[i]? =some y)(hT:IsPair h T x y)(hn:n0<=T)(new:∀j:Nat,acc[j]? ≠some (Value.ref T)):eS xs ys n0 h (acc.push (.ref T)) (i+1):=by
 refine⟨by rw[Array.size_push,p.1],fun j hj=>?_,fun a b S ha hb=>?_⟩
 rotate_left
 ·rw[Array.getElem?_push] at ha hb
  split at ha<;>split at hb
  ·omega
  ·cases ha;exact absurd hb (new b)
  ·cases hb;exact absurd ha (new a)
  ·exact p.2.2 a b S ha hb
 by_cases e:j=i
 ·subst e
  exact⟨T,x,y,by rw[Array.getElem?_push,if_pos p.1.symm],hx,hy,hT,hn⟩
 ·obtain⟨T',x',y',a,r⟩:=p.2.1 j (by omega)
  exact⟨T',x',y',by rw[Array.getElem?_push,if_neg (by rw[p.1];exact e)];exact a,r⟩
theorem CQ{z TI TO T i1 i2 l1 l2 S:Addr}{n0:Nat}{xs ys:Array Value}{res:Value}{R:Result->Shared->Prop}(hh:A.handled=none)(D:ZipApart z TI TO i1 i2 l1 l2)(PM:ys.size=xs.size)(hn:xs.size<=sizeLine)
  (lz:z < n0)(Pr:i1 < n0)(Pq:i2 < n0)(lS:S < n0)(Sz:S≠z)(ST:S≠TI)(S1:S≠i1)(S2:S≠i2)(Z6:S≠l1)(Z5:S≠l2)(lT:n0<=T):
  ∀(k i:Nat) (f:Bool) (s:Shared) (acc:Array Value) (c:Nat),xs.size - i=k->i<=xs.size->n0<=s.heap.objs.size->cJ s.heap z TI TO (rawInt T) (.bool f)->(∃o,s.heap.get? T=some o)->IsPair s.heap TI (.ref i1) (.ref i2)->
  s.heap.IsTupleIter i1 l1 i->s.heap.IsTupleIter i2 l2 i->s.heap.IsTuple l1 xs->s.heap.IsTuple l2 ys->wq s.heap S acc c->eS xs ys n0 s.heap acc i->
  (∀h' jF c',(∀b o,b≠z->b≠i1->b≠i2->b≠S->s.heap.get? b=some o->h'.get? b=some o)->wq h' S jF c'->eS xs ys n0 h' jF xs.size->R (.ok (.ret res)) {s with heap:=h'})->
  codeAny (model prog w) A (.builtin "list.extend.loop" ⟨[.ref S,.ref z,res],[]⟩) R s:=by
 intro k
 induction k with
 |zero=>
  intro i f s acc c hk hi hsz hz ⟨o,ha⟩ jB h1 h2 lG ib hS hp hR
  have e:i=xs.size:=by omega
  subst e
  refine vS (next_end (A:=A.in1) hh D hz ha jB h1 h2 lG ib (by simp) (by rw[<-PM];simp) fun h' kp=>⟨rfl,hR h' acc c (fun b o a1 a2 a3 _ e=>kp b o a1 a2 a3 e) (kp _ _ Sz S1 S2 hS) (hp.keep fun b o hb e=>kp b o (Nat.ne_of_gt (Nat.lt_of_lt_of_le lz hb)) (Nat.ne_of_gt (Nat.lt_of_lt_of_le Pr hb)) (Nat.ne_of_gt (Nat.lt_of_lt_of_le Pq hb)) e)⟩)
 |succ k ih=>
  intro i f s acc c hk hi hsz hz ⟨o,ha⟩ jB h1 h2 lG ib hS hp hR
  have eB:i < xs.size:=by omega
  refine vR (acc:=acc) (c:=c) (by rw[hp.1];omega) (zZ D hz ha jB h1 h2 lG ib (x:=xs[i]) (y:=ys[i]) (by simp) (by simp) fun h' z' a1 a2 pr sz kp=>⟨_,rfl,kp _ _ Sz S1 S2 hS,fun GC c' Q2 Am OB=>?_⟩)
  have DH:∀b o,b≠z->b≠i1->b≠i2->b≠S->s.heap.get? b=some o->GC.get? b=some o:=fun b o b1 b2 b3 b4 e=>Am b o b4 (kp b o b1 b2 b3 e)
  have sd:eS xs ys n0 h' acc i:=hp.keep fun b o hb e=>kp b o (Nat.ne_of_gt (Nat.lt_of_lt_of_le lz hb)) (Nat.ne_of_gt (Nat.lt_of_lt_of_le Pr hb)) (Nat.ne_of_gt (Nat.lt_of_lt_of_le Pq hb)) e
  have Yc:∀j:Nat,acc[j]? ≠some (Value.ref s.heap.objs.size):=fun j e=>by
   have hj:j < i:=by rw[<-hp.1];exact(Array.getElem?_eq_some_iff.mp e).1
   obtain⟨T',x',y',a,_,_,d,_⟩:=hp.2.1 j hj
   rw[a] at e
   cases e
   exact absurd (Heap.lt_size d) (Nat.lt_irrefl _)
  have cH:eS xs ys n0 GC (acc.push (.ref s.heap.objs.size)) (i+1):=(sd.push (T:=s.heap.objs.size) (by simp[eB]) (by rw[Array.getElem?_eq_getElem (by omega)]) pr hsz Yc).keep fun b o hb e=>Am b o (Nat.ne_of_gt (Nat.lt_of_lt_of_le lS hb)) e
  refine ih (i+1) true {s with heap:=GC} _ c' (by omega) eB (by show n0<=GC.objs.size;have:GC.objs.size=h'.objs.size:=OB;omega) (Am _ _ Sz.symm z') ⟨o,DH _ _ (Nat.ne_of_gt (Nat.lt_of_lt_of_le lz lT)) (Nat.ne_of_gt (Nat.lt_of_lt_of_le Pr lT)) (Nat.ne_of_gt (Nat.lt_of_lt_of_le Pq lT)) (Nat.ne_of_gt (Nat.lt_of_lt_of_le lS lT)) ha⟩ (DH _ _ D.TIz D.TIi1 D.TIi2 ST.symm jB)
   (let ⟨o,e,r⟩:=a1;⟨o,Am _ _ S1.symm e,r⟩) (let ⟨o,e,r⟩:=a2;⟨o,Am _ _ S2.symm e,r⟩) (let ⟨o,e,r⟩:=lG;⟨o,DH _ _ D.l1z D.l1i1 D.l1i2 Z6.symm e,r⟩) (let ⟨o,e,r⟩:=ib;⟨o,DH _ _ D.l2z D.l2i1 D.l2i2 Z5.symm e,r⟩) Q2 cH
   fun h4 jF c4 k4 l4 p4=>hR h4 jF c4 (fun b o b1 b2 b3 b4 e=>k4 b o b1 b2 b3 b4 (DH b o b1 b2 b3 b4 e)) l4 p4
theorem wH:typeLookup (.type "zip") "__len__"=pure none:=by rw[typeLookup_type,builtinLookup_eq_fast];kernel_rfl
theorem uY:typeLookup (.type "zip") "__length_hint__"=pure none:=by rw[typeLookup_type,builtinLookup_eq_fast];kernel_rfl
theorem Ap{z TI TO:Addr}{f0 f1:Value}{Q:Value->Shared->Prop}(hz:cJ s.heap z TI TO f0 f1)(h:Q (.ref z) s):wpAny (model prog w) A (pyIter (.ref z)) Q E s:=by
 have hT:s.TypeIs (.ref z) "zip":=⟨_,hz,rfl⟩
 refine wpAny_pyIter_slot hT F.slot_zip_iter (wpAny_call_entry F.slot_zip_iter hT F.entry_zip_iter ?_ (F.args_zip_iter_1 _))
 show wpAny _ _ (ret (.ref z)) _ _ s
 exact wpAny_pure ⟨_,rfl,"zip",_,hT,F.slot_zip_next.lookup,h⟩
theorem Ai{z TI TO i1 i2 l1 l2:Addr}{xs ys:Array Value}{a b:Value}{Q:Value->Shared->Prop}(hh:A.handled=none)(D:ZipApart z TI TO i1 i2 l1 l2)(PM:ys.size=xs.size)(hn:xs.size<=sizeLine)
  (hz:cJ s.heap z TI TO .none (.bool false))(jB:IsPair s.heap TI (.ref i1) (.ref i2))(qh:IsPair s.heap TO a b)(h1:s.heap.IsTupleIter i1 l1 0)(h2:s.heap.IsTupleIter i2 l2 0)(lG:s.heap.IsTuple l1 xs)(ib:s.heap.IsTuple l2 ys)
  (hQ:∀h' acc c',(∀b o,b≠z->b≠TO->b≠i1->b≠i2->s.heap.get? b=some o->h'.get? b=some o)->wq h' s.heap.objs.size acc c'->eS xs ys (s.heap.objs.size+1) h' acc xs.size->Q (.ref s.heap.objs.size) {s with heap:=h'}):
  wpAny (model prog w) A (call (.type "list") [.ref z]) Q E s:=by
 refine callType_codes (Q₁:=fun obj s₁=>obj= .ref s.heap.objs.size/\s₁={s with heap:=s.heap.push {cls:= .type "list",data:= .seq #[]}}) F.called_list (F.typeCall_list_1 _) F.entry_list_init
  (code_list_new _ ⟨rfl,rfl⟩) fun obj s₁ h₁=>?_
 obtain⟨rfl,rfl⟩:=h₁
 have hS:(s.heap.push {cls:= .type "list",data:= .seq #[]}).get? s.heap.objs.size=some {cls:= .type "list",data:= .seq #[]}:=Heap.get?_push_size _ rfl
 refine⟨⟨_,hS,rfl⟩,F.args_list_init_2 _ _,?_⟩
 have ps:∀b o,s.heap.get? b=some o->(s.heap.push {cls:= .type "list",data:= .seq #[]}).get? b=some o:=fun b o e=>Heap.get?_push_of_some _ e
 have lt:∀{b o},s.heap.get? b=some o->b≠s.heap.objs.size:=fun e=>Nat.ne_of_lt (Heap.lt_size e)
 have nz:=lt hz
 show wpAny _ _ (do let old <-Builtin.List.listItems (.ref s.heap.objs.size);Builtin.List.listUpdate (.ref s.heap.objs.size) (fun _=>#[]);letGo old.toList.reverse;Builtin.List.listExtendWith (.ref s.heap.objs.size) (.ref z) .none) _ _ _
 refine wpAny_bind ?_
 unfold Builtin.List.listItems
 refine wpAny_bind (wpAny_seqItems hS rfl (wpAny_pure ?_))
 show wpAny _ _ (updateSeq s.heap.objs.size (fun _=>#[]) >>= fun _=>letGo (#[]:Array Value).toList.reverse >>= fun _=>Builtin.List.listExtendWith (.ref s.heap.objs.size) (.ref z) .none) _ _ _
 refine wpAny_bind (wpAny_updateSeq hS rfl ?_)
 have hS₂:=Heap.get?_update_self (Obj.mapSeq (fun _=>(#[]:Array Value))) hS rfl
 refine wpAny_bind (wpAny_letGo ?_)
 unfold Builtin.List.listExtendWith
 have sG:∀b o,b≠s.heap.objs.size->(s.heap.push {cls:= .type "list",data:= .seq #[]}).get? b=some o->((s.heap.push {cls:= .type "list",data:= .seq #[]}).update s.heap.objs.size (Obj.mapSeq (fun _=>(#[]:Array Value)))).get? b=some o:=
  fun b o hb e=>(Heap.get?_update_other _ _ (Ne.symm hb)).trans e
 generalize hH:(s.heap.push {cls:= .type "list",data:= .seq #[]}).update s.heap.objs.size (Obj.mapSeq (fun _=>(#[]:Array Value)))=H0 at*
 have FN:H0.objs.size=s.heap.objs.size+1:=by rw[<-hH,Heap.size_update,Heap.size_push]
 have up:∀b o,s.heap.get? b=some o->H0.get? b=some o:=fun b o e=>sG b o (lt e) (ps b o e)
 have Uk:cJ H0 z TI TO .none (.bool false):=up _ _ hz
 have hT:Shared.TypeIs {s with heap:=H0} (.ref z) "zip":=⟨_,Uk,rfl⟩
 refine wpAny_bind (wpAny_typeOf hT ?_)
 have e1:Builtin.List.listSameRef (.ref s.heap.objs.size) (.ref z)=false:=by simp[Builtin.List.listSameRef,Ne.symm nz]
 have e2:(Value.type "zip"==Value.type "list")=false:=by decide
 have e3:(Value.type "zip"==Value.type "tuple")=false:=by decide
 simp only[e1,e2,e3,Bool.or_false,Bool.false_eq_true,if_false]
 refine wpAny_bind (Ap Uk ?_)
 refine wpAny_bind (wpAny_holding ?_)
 unfold Builtin.List.listLengthHint
 refine wpAny_bind (wpAny_specialOf hT wH ?_)
 show wpAny _ _ (specialOf (Value.ref z) (Str.ofString "__length_hint__") >>= _) _ _ _
 refine wpAny_bind (wpAny_specialOf hT uY ?_)
 refine wpAny_pure ?_
 show wpAny _ _ (rule "list.extend.makes-room" >>= fun _=>Builtin.List.listTouch (.ref s.heap.objs.size) >>= fun _=>again (.builtin "list.extend.loop" ⟨[.ref s.heap.objs.size,.ref z,.none],[]⟩)) _ _ _
 refine wpAny_bind (wpAny_rule ?_)
 refine wpAny_bind ?_
 show wpAny _ _ (updateSeq s.heap.objs.size (·.push .none) >>= fun _=>updateSeq s.heap.objs.size (·.pop)) _ _ _
 refine wpAny_bind (wpAny_updateSeq hS₂ rfl ?_)
 have hS₃:=Heap.get?_update_self (Obj.mapSeq (·.push Value.none)) hS₂ rfl
 refine wpAny_updateSeq hS₃ rfl ?_
 have hS₄:=Heap.get?_update_self (Obj.mapSeq (·.pop)) hS₃ rfl
 have O2:∀b o,b≠s.heap.objs.size->H0.get? b=some o->((H0.update s.heap.objs.size (Obj.mapSeq (·.push Value.none))).update s.heap.objs.size (Obj.mapSeq (·.pop))).get? b=some o:=
  fun b o hb e=>(Heap.get?_update_other _ _ (Ne.symm hb)).trans ((Heap.get?_update_other _ _ (Ne.symm hb)).trans e)
 generalize YO:(H0.update s.heap.objs.size (Obj.mapSeq (·.push Value.none))).update s.heap.objs.size (Obj.mapSeq (·.pop))=H1 at*
 have V9:H1.objs.size=s.heap.objs.size+1:=by rw[<-YO,Heap.size_update,Heap.size_update,FN]
 have up1:∀b o,s.heap.get? b=some o->H1.get? b=some o:=fun b o e=>O2 b o (lt e) (up b o e)
 have UR:wq H1 s.heap.objs.size #[] _:=hS₄
 have DE:∀{i l:Addr}{k:Nat},s.heap.IsTupleIter i l k->H1.IsTupleIter i l k:=fun⟨o,e,r⟩=>⟨o,up1 _ _ e,r⟩
 have Nh:∀{l:Addr}{vs:Array Value},s.heap.IsTuple l vs->H1.IsTuple l vs:=fun⟨o,e,r⟩=>⟨o,up1 _ _ e,r⟩
 have n1:i1≠s.heap.objs.size:=by obtain⟨_,e,_⟩:=h1;exact lt e
 have n2:i2≠s.heap.objs.size:=by obtain⟨_,e,_⟩:=h2;exact lt e
 have m1:l1≠s.heap.objs.size:=by obtain⟨_,e,_⟩:=lG;exact lt e
 have m2:l2≠s.heap.objs.size:=by obtain⟨_,e,_⟩:=ib;exact lt e
 have L:∀{b o},s.heap.get? b=some o->b < s.heap.objs.size+1:=fun e=>Nat.lt_succ_of_lt (Heap.lt_size e)
 by_cases IB:0 < xs.size
 rotate_left
 ·have x0:xs[0]? =none:=Array.getElem?_eq_none (by omega)
  have y0:ys[0]? =none:=Array.getElem?_eq_none (by omega)
  refine wpAny_pure ⟨plainId_quiet F.plain_extend_loop _,vS (Aa (s:={s with heap:=H1}) hh D (up1 _ _ hz) (up1 _ _ jB) (up1 _ _ qh) (DE h1) (DE h2) (Nh lG) (Nh ib) x0 y0 fun h' hk=>⟨rfl,rfl,?_⟩)⟩
  refine hQ h' #[] _ (fun b o b1 b2 b3 b4 e=>hk b o b1 b3 b4 (up1 _ _ e)) (hk _ _ (Ne.symm nz) (Ne.symm n1) (Ne.symm n2) UR) ⟨?_,fun j hj=>absurd hj (by omega),fun i j T e=>?_⟩
  ·show 0=xs.size
   omega
  ·simp at e
 refine wpAny_pure ⟨plainId_quiet F.plain_extend_loop _,vR (acc:=#[]) (by show 0 < sizeLine;omega) (xp (s:={s with heap:=H1}) D (up1 _ _ hz) (up1 _ _ jB) (up1 _ _ qh) (DE h1) (DE h2) (Nh lG) (Nh ib) (x:=xs[0]) (y:=ys[0]) (by simp[IB]) (by rw[Array.getElem?_eq_getElem (by omega)]) fun h' z' t' a1 a2 pr sz kp=>⟨_,rfl,kp _ _ (Ne.symm nz) (Ne.symm (lt qh)) (Ne.symm n1) (Ne.symm n2) UR,fun g2 c' JX Am OB=>?_⟩)⟩
 have T0:H1.objs.size≠s.heap.objs.size:=by omega
 have DH:∀b o,b≠z->b≠TO->b≠i1->b≠i2->b≠s.heap.objs.size->H1.get? b=some o->g2.get? b=some o:=fun b o b1 b2 b3 b4 b5 e=>Am b o b5 (kp b o b1 b2 b3 b4 e)
 have FW:IsPair g2 H1.objs.size xs[0] ys[0]:=Am _ _ T0 pr
 refine CQ (A:=A.in1) (n0:=s.heap.objs.size+1) (T:=H1.objs.size) (l1:=l1) (l2:=l2) (xs:=xs) (ys:=ys) hh D PM hn (L hz) (by obtain⟨_,e,_⟩:=h1;exact L e) (by obtain⟨_,e,_⟩:=h2;exact L e) (Nat.lt_succ_self _) (Ne.symm nz) (Ne.symm (lt jB)) (Ne.symm n1) (Ne.symm n2) (Ne.symm m1) (Ne.symm m2) (by omega)
  (xs.size - 1) 1 false {s with heap:=g2} _ c' rfl IB (by show s.heap.objs.size+1<=g2.objs.size;have e:g2.objs.size=h'.objs.size:=OB;have e':h'.objs.size=H1.objs.size+1:=sz;omega) (Am _ _ nz z') ⟨_,FW⟩ (DH _ _ D.TIz D.TITO D.TIi1 D.TIi2 (lt jB) (up1 _ _ jB))
  (let ⟨o,e,r⟩:=a1;⟨o,Am _ _ n1 e,r⟩) (let ⟨o,e,r⟩:=a2;⟨o,Am _ _ n2 e,r⟩) (let ⟨o,e,r⟩:=lG;⟨o,DH _ _ D.l1z D.l1TO D.l1i1 D.l1i2 m1 (up1 _ _ e),r⟩) (let ⟨o,e,r⟩:=ib;⟨o,DH _ _ D.l2z D.l2TO D.l2i1 D.l2i2 m2 (up1 _ _ e),r⟩) JX ?_ ?_
 ·refine⟨rfl,fun j hj=>?_,fun i j T a b=>?_⟩
  rotate_left
  ·have:=(Array.getElem?_eq_some_iff.mp a).1
   have:=(Array.getElem?_eq_some_iff.mp b).1
   simp at*
   omega
  have e:j=0:=by omega
  subst e
  exact⟨H1.objs.size,_,_,rfl,Array.getElem?_eq_getElem IB,Array.getElem?_eq_getElem (by omega),FW,Nat.le_of_eq V9.symm⟩
 ·intro h3 jF c3 k3 l3 p3
  exact⟨rfl,hQ h3 jF c3 (fun b o b1 b2 b3 b4 e=>k3 b o b1 b3 b4 (lt e) (DH b o b1 b2 b3 b4 (lt e) (up1 _ _ e))) l3 p3⟩
end
open PySem PySem.Spec PyProof.Rows L2
section
variable {X:Cx}{pins:List (Addr×Obj)}{σ:L2.St}{H H':Hp}{s:Shared}{h':Heap}
theorem Inv.Ld{t':Nat}(I:Inv X pins σ H s)(k:∀b o,s.heap.get? b=some o->h'.get? b=some o)(old:∀b,b < s.heap.objs.size->H' b=H b)(new:∀b u,s.heap.objs.size<=b->H' b=some u->cK X.prog X.w H' h' b u):
  Inv X pins σ H' {s with heap:=h',toks:=t'}:=by
 have lt:∀b u,H b=some u->b < s.heap.objs.size:=fun b u e=>by
  obtain⟨o,q⟩:=e6 (I.cx b u e)
  exact Heap.lt_size q
 have up:∀b u,H b=some u->H' b=some u:=fun b u e=>by rw[old b (lt b u e)];exact e
 refine I.step (g':=s.gens) (d':=s.drawn) (ch:=[]) (fun _ z=>nomatch z) (fun b o _ _ _ e _=>k b o e) (fun b o _ _ _ e _=>⟨o.slots,k b o e⟩) (fun b o _ e n=>by rw[old b (Heap.lt_size e)];exact n) (fun b o _ e=>⟨o,k b o e⟩)
  (fun b xs e=>up b _ e) (fun b o u e=>up b _ e) (fun b ps e=>⟨#[],by rw[up b _ e];simp⟩) (fun m ⟨o,es,ep,e,r⟩=>⟨o,es,ep,k _ o e,r⟩) (fun b u e=>?_) I.bare
 by_cases hb:b < s.heap.objs.size
 ·rw[old b hb] at e
  exact(I.cx b u e).lD (fun d v _ q=>k d v q) (fun d q=>up d _ q) fun d xs q=>up d _ q
 ·exact new b u (Nat.le_of_not_lt hb) e
end
theorem lO{h:Heap}{a:Addr}{items:Array Value}(t:IsTup h a items):h.IsTuple a items:=by
 obtain⟨o,e,c,r⟩:=t
 exact⟨o,e,c,r⟩
inductive Jl(K:W.Frag)(vs:List V)(H1:Hp)(Q:VK):Prop where
 |mk(t1 t2:Addr)(xs ys:List V)(c1:vs=[.ref t1,.ref t2])(c2:aS K H1 t1 xs)(c3:aS K H1 t2 ys)(c4:ys.length=xs.length)
   (c6:∀l rs H',H1 l=none->aQ H1 H'->H' l=some (.lst rs)->Paired (fun r (q:V×V)=>∃T,r=V.ref T/\H' T=some (.tup [q.1,q.2])) rs (xs.zip ys)->Q (.ref l) H')
def Ke(K:W.Frag)(ta tb:TE):TE:=fun σ H Q=>gC ta (gC tb ot) σ H fun vs H1=>Jl K vs H1 Q
theorem zz(n t1 t2:Nat)(l1:t1 < n)(l2:t2 < n):ZipApart (n+4) (n+2) (n+3) n (n+1) t1 t2:=by
 constructor<;>(show(_:Nat)≠_;omega)
theorem qO{α β γ:Type}{F:α->β×γ->Prop}:∀{rs:List α}{xs:List β}{ys:List γ},rs.length=xs.length->ys.length=xs.length->(∀(j:Nat) r x y,rs[j]? =some r->xs[j]? =some x->ys[j]? =some y->F r (x,y))->Paired F rs (xs.zip ys)
 |[],[],[],_,_,_=> .nil
 |r::rs,x::xs,y::ys,h1,h2,h=> .cons (h 0 r x y rfl rfl rfl) (qO (Nat.succ.inj h1) (Nat.succ.inj h2) fun j r x y a b c=>h (j+1) r x y a b c)
theorem nS{M:Model}{A:Around}{E:Value->Shared->Prop}{s:Shared}{pos:Pos}{T:String}{first:List Value}{args:List (Bool×Sem Value)}{keywords:List (Option Str×Sem Value)}{Q:Value->Shared->Prop}
  (xB:args.any (·.1)=false)(Yk:keywords.any (·.1.isNone)=false)
  (h:wpAny M A (evalArgs (.type T) true args keywords) (fun a s₁=>wpAny M A (call (.type T) (first++a.pos) a.kw) Q E s₁) E s):wpAny M A (callWith pos (.type T) first args keywords) Q E s:=by
 unfold callWith
 refine wpAny_bind (wpAny_holding (wpAny_mono h (fun a s₁ h₁=>wpAny_bind (wpAny_standAt ?_)) fun _ _ x=>x))
 simp only[xB,Yk,Bool.or_false]
 refine wpAny_bind (wpAny_pure ?_)
 exact wpAny_bind (wpAny_mono h₁ (fun r s₂ hr=>wpAny_bind (wpAny_holding (wpAny_point (wpAny_pure hr)))) fun _ _ x=>x)
section
variable {X:Cx}
theorem Ej{a b:Expr}{ta tb:TE}{p p2 pos BO kp cp:Pos}{c0}(hh:X.A.handled=none)(hg:Gl X "zip")(hm:X.mg "zip"=none)(QH:Gl X "list")(NH:X.mg "list"=none)(ha:PE X a ta)(hb:PE X b tb)(pa:dD a=true:=by rfl)(pb:dD b=true:=by rfl):
  PE X (.Call (.Name "list" p2) [.Call (.Name "zip" p) [a,b] [⟨some "strict",.Constant (.bool true) c0 cp,kp⟩] pos] [] BO) (Ke X.K ta tb):=by
 intro pins s σ H Q I hw
 have II:PA X [a,b] (gC ta (gC tb ot)):=ak ha (ak hb aj pb) pa
 refine wpAny_Call_Name_kw (iB I QH NH boot_list ?_)
 refine PyProof.Rows.callWith_type1 (e:= .Call (.Name "zip" p) [a,b] [⟨some "strict",.Constant (.bool true) c0 cp,kp⟩] pos) (rest:=[]) ?_ rfl rfl
 show wpAny _ _ (spliced ((false,eval (.Call (.Name "zip" p) [a,b] [⟨some "strict",.Constant (.bool true) c0 cp,kp⟩] pos) X.env)::backTo BO (starEach [] X.env))) _ _ s
 refine Calls.spliced_cons ?_
 refine wpAny_Call_Name_kw (iB I hg hm boot_zip ?_)
 have e0:starEach [a,b] X.env=(false,eval a X.env)::starEach [b] X.env:=bP pa
 refine nS (eE (es:=[a,b]) (by simp[pa,pb])) rfl ?_
 have e1:backTo pos (starEach [a,b] X.env)=(false,eval a X.env)::backTo pos (starEach [b] X.env):=by rw[e0];rfl
 rw[e1]
 refine evalArgs_kwB rfl ?_
 rw[<-e1]
 refine dB (II pos pins s σ H _ I hw) fun us s1 h1=>?_
 obtain⟨vs,H1,I1,r1,t1,t2,xs,ys,rfl,hx,hy,hlen,k⟩:=h1
 refine kws_cons (dB (e4 pins s1 σ H1 (fun v H'=>v= .bl true/\H'=H1) I1 ⟨rfl,rfl⟩) fun u s2 h2=>?_)
 obtain⟨v,Hn,I2,ru,rfl,eH⟩:=h2
 have I2:L2.Inv X pins σ H1 s2:=eH ▸ I2
 obtain rfl:u=Value.bool true:=ru
 refine kws_nil ?_
 obtain⟨u1,u2,rfl,OO,ON⟩:=vals2 r1
 cases(show u1=Value.ref t1 from OO)
 cases(show u2=Value.ref t2 from ON)
 show wpAny _ _ (call (.type "zip") [.ref t1,.ref t2] gL) _ _ s2
 obtain⟨PF,Hh,p1,z1⟩:=I2.tuple hx
 obtain⟨Ug,Hg,Ww,z2⟩:=I2.tuple hy
 have T1:=lO p1
 have T2:=lO Ww
 have l1:t1 < s2.heap.objs.size:=by obtain⟨_,e,_⟩:=T1;exact Heap.lt_size e
 have l2:t2 < s2.heap.objs.size:=by obtain⟨_,e,_⟩:=T2;exact Heap.lt_size e
 refine AN T1 T2 fun h' hz jB qh QF AE hsz kp=>?_
 refine wpAny_items_nil ?_
 have D:=zz s2.heap.objs.size t1 t2 l1 l2
 have e1:PF.toArray.size=xs.length:=by rw[List.size_toArray,Hh.length]
 have e2:Ug.toArray.size=xs.length:=by rw[List.size_toArray,<-Hg.length,hlen]
 refine Ai (s:={s2 with heap:=h'}) hh D (by rw[e1,e2]) (by rw[e1];exact z1) hz jB qh QF AE (let ⟨o,e,r⟩:=T1;⟨o,kp _ _ e,r⟩) (let ⟨o,e,r⟩:=T2;⟨o,kp _ _ e,r⟩) fun h2 acc c' Am hS hP=>?_
 have hsS:h'.objs.size=s2.heap.objs.size+5:=hsz
 have hS:wq h2 h'.objs.size acc c':=hS
 have hP:eS PF.toArray Ug.toArray (h'.objs.size+1) h2 acc PF.toArray.size:=hP
 have all:∀j:Nat,j < xs.length->∃T x y u w,acc[j]? =some (Value.ref T)/\xs[j]? =some x/\ys[j]? =some y/\RelV x u/\RelV y w/\IsPair h2 T u w/\h'.objs.size+1<=T:=fun j hj=>by
  obtain⟨T,u,w,a1,a2,a3,a4,a5⟩:=hP.2.1 j (by rw[e1];exact hj)
  obtain⟨u',eu,ru⟩:=Hh.get (List.getElem?_eq_getElem hj)
  obtain⟨w',ew,By⟩:=Hg.get (List.getElem?_eq_getElem (show j < ys.length by omega))
  rw[List.getElem?_toArray] at a2 a3
  rw[a2] at eu
  rw[a3] at ew
  cases eu
  cases ew
  exact⟨T,_,_,u,w,a1,List.getElem?_eq_getElem hj,List.getElem?_eq_getElem (show j < ys.length by omega),ru,By,a4,a5⟩
 have Fh:acc.size=xs.length:=by rw[hP.1,e1]
 let rs:List V:=acc.toList.map fun v=>match v with| .ref T=>V.ref T|_=>V.d0
 have Wi:∀(j:Nat) (T:Addr),acc[j]? =some (Value.ref T)->rs[j]? =some (V.ref T):=fun j T e=>by
  show(acc.toList.map _)[j]? =_
  rw[List.getElem?_map,Array.getElem?_toList,e]
  rfl
 have Wh:Vals rs acc.toList:=by
  have g:∀l:List Value,(∀v∈l,∃T,v=Value.ref T)->Vals (l.map fun v=>match v with| .ref T=>V.ref T|_=>V.d0) l:=by
   intro l
   induction l with
   |nil=>intro _;exact .nil
   |cons v l ih=>
    intro hl
    obtain⟨T,rfl⟩:=hl v (by simp)
    exact .cons rfl (ih fun v hv=>hl v (by simp[hv]))
  refine g _ fun v hv=>?_
  obtain⟨j,hj,ev⟩:=List.getElem_of_mem hv
  obtain⟨T,_,_,_,_,a1,_⟩:=all j (by rw[<-Fh];simpa using hj)
  refine⟨T,?_⟩
  have e3:acc.toList[j]? =some v:=by rw[List.getElem?_eq_getElem hj,ev]
  rw[Array.getElem?_toList,a1] at e3
  exact(Option.some.inj e3).symm
 let R:Addr->HO->Prop:=fun b u=>(b=h'.objs.size/\u= .lst rs) ∨ ∃(j:Nat) (x y:V),acc[j]? =some (Value.ref b)/\xs[j]? =some x/\ys[j]? =some y/\u= .tup [x,y]
 have big:∀(j:Nat) (T:Addr),acc[j]? =some (Value.ref T)->h'.objs.size+1<=T:=fun j T e=>by
  obtain⟨T',_,_,_,_,a1,_,_,_,_,_,a5⟩:=all j (by rw[<-Fh];exact(Array.getElem?_eq_some_iff.mp e).1)
  rw[a1] at e
  cases e
  exact a5
 have uniq:∀b u u',R b u->R b u'->u=u':=by
  rintro b u u' (⟨hb,hu⟩|⟨j,x,y,a1,a2,a3,hu⟩) (⟨og,PZ⟩|⟨j',x',y',Vm,Vl,Vk,PZ⟩)
  ·rw[hu,PZ]
  ·have:=big _ _ Vm
   rw[hb] at this
   exact absurd this (Nat.not_succ_le_self _)
  ·have:=big _ _ a1
   rw[og] at this
   exact absurd this (Nat.not_succ_le_self _)
  ·have ej:=hP.2.2 j j' b a1 Vm
   subst ej
   rw[a2] at Vl
   rw[a3] at Vk
   cases Vl
   cases Vk
   rw[hu,PZ]
 classical
 let H2:Hp:=fun b=>if b < s2.heap.objs.size then H1 b else if h:∃u,R b u then some (Classical.choose h) else none
 have Vp:∀b u,s2.heap.objs.size<=b->R b u->H2 b=some u:=fun b u hb hr=>by
  show(if b < s2.heap.objs.size then H1 b else if h:∃u,R b u then some (Classical.choose h) else none)=some u
  rw[if_neg (Nat.not_lt.mpr hb),dif_pos ⟨u,hr⟩]
  exact congrArg some (uniq b _ _ (Classical.choose_spec (⟨u,hr⟩:∃u,R b u)) hr)
 have R2H:∀b u,s2.heap.objs.size<=b->H2 b=some u->R b u:=fun b u hb e=>by
  have e:(if b < s2.heap.objs.size then H1 b else if h:∃u,R b u then some (Classical.choose h) else none)=some u:=e
  rw[if_neg (Nat.not_lt.mpr hb)] at e
  by_cases h:∃u,R b u
  ·rw[dif_pos h] at e
   rw[<-Option.some.inj e]
   exact Classical.choose_spec h
  ·rw[dif_neg h] at e
   cases e
 have old:∀b,b < s2.heap.objs.size->H2 b=H1 b:=fun b hb=>if_pos hb
 have XF:∀b o,s2.heap.get? b=some o->h2.get? b=some o:=fun b o e=>by
  have hb:=Heap.lt_size e
  exact Am b o (Nat.ne_of_lt (Nat.lt_of_lt_of_le hb (Nat.le_add_right _ _))) (Nat.ne_of_lt (Nat.lt_of_lt_of_le hb (Nat.le_add_right _ _))) (Nat.ne_of_lt hb) (Nat.ne_of_lt (Nat.lt_of_lt_of_le hb (Nat.le_add_right _ _))) (kp b o e)
 have sS:s2.heap.objs.size<=h'.objs.size:=by omega
 have I3:L2.Inv X pins σ H2 {s2 with heap:=h2,toks:=s2.toks}:=Inv.Ld I2 XF old fun b u hb e=>by
  rcases R2H b u hb e with⟨rfl,rfl⟩|⟨j,x,y,a1,a2,a3,rfl⟩
  ·refine⟨?_,acc.toList,c',Wh,by rw[hS]⟩
   show(acc.toList.map _).length<=sizeLine
   rw[List.length_map,Array.length_toList,Fh]
   exact z1
  ·obtain⟨T',x',y',u,w,b1,b2,b3,b4,b5,b6,_⟩:=all j (List.getElem?_eq_some_iff.mp a2).1
   rw[a1] at b1
   cases b1
   rw[a2] at b2
   cases b2
   rw[a3] at b3
   cases b3
   exact⟨by show 2<=sizeLine;decide,[u,w],.cons b4 (.cons b5 .nil),_,b6,rfl,_,rfl⟩
 have sm:aQ H1 H2:=fun b o e=>by
  have hb:b < s2.heap.objs.size:=by
   obtain⟨o',q⟩:=e6 (I2.cx b o e)
   exact Heap.lt_size q
  rw[old b hb]
  exact e
 refine⟨.ref h'.objs.size,H2,I3,rfl,k _ rs H2 (I2.cx.fresh sS) sm (Vp _ _ sS (.inl ⟨rfl,rfl⟩)) (qO ?_ hlen fun j r x y a1 a2 a3=>?_)⟩
 ·show(acc.toList.map _).length=_
  rw[List.length_map,Array.length_toList,Fh]
 ·obtain⟨T,x',y',u,w,b1,b2,b3,_,_,_,b7⟩:=all j (List.getElem?_eq_some_iff.mp a2).1
  rw[Wi j T b1] at a1
  cases a1
  exact⟨T,rfl,Vp _ _ (Nat.le_trans sS (Nat.le_of_succ_le b7)) (.inr ⟨j,x,y,b1,a2,a3,rfl⟩)⟩
end
def top(i:Nat):Stmt:=PySem.Challenge.pw_namecall_k14_whole_one_end.main.body.getD i (.Pass ⟨0,0,0,0⟩)
structure cV(mg:Str->Option Value):Prop where
 len:mg "len"=none
 abs:mg "abs"=none
 min:mg "min"=none
 isinstance:mg "isinstance"=none
 list:mg "list"=none
 tuple:mg "tuple"=none
 str:mg "str"=none
 reversed:mg "reversed"=none
 int:mg "int"=none
 bool:mg "bool"=none
 sorted:mg "sorted"=none
 range:mg "range"=none
 zip:mg "zip"=none
section
variable {P:Program}{w:World}{K:W.Frag}{mg:Str->Option Value}{base:Heap}
seal L2.PE L2.PA L2.PT L2.PS L2.nZ L2.PW L2.PG L2.uW L2.PI L2.PO L2.gy L2.wc L2.cE L2.mw L2.rS L2.rR
abbrev kN:Stmt:=top 13
theorem w8:a8 ["part"] ["part"] (aw kN):=⟨rfl,rfl,rfl,by decide+kernel,rfl,by decide+kernel,by decide+kernel⟩
inductive wk(vs:List V)(H:Hp)(Q:VK):Prop where
 |mk(v:_)(t:_)(c1:vs=[v])(c2:au H v t)(c3:Q (.bl t.ri) H)
def lZ:Sp:=fun vs H Q lK=>wk vs H Q
theorem xm{f:Addr}{fd:FuncData}(F:jS K "is_spot" "is_spot" kN f fd):cg P w K mg base bK 1 f fd ["part"] lZ:=by
 refine F.ok w8 (fun vs H Q E h=>?_) (fun fx A outer s H vs Q E hr h=>?_)
 ·obtain⟨v,t,rfl,_⟩:=h
  rfl
 ·obtain⟨v,t,rfl,ht,k⟩:=h
  refine⟨_,(ai (aU (oQ (dP bC (aD ay (pv 0) ah (fun _ _=>rfl)) aC (aA _)) (oP (dP bC (aD ay (aD ay (pv 0) ah (fun _ _=>rfl)) ah (fun _ _=>rfl)) aC (aA _)))))),?_⟩
  cases ht with
  |name h=>exact⟨_,rfl,_,_,_,_,rfl,rfl,aS.of h,bW,rfl,_,rfl,dh pF k⟩
  |place h=>exact⟨_,rfl,_,_,_,_,rfl,rfl,aS.of h,bW,rfl,_,rfl,dh pD k⟩
  |aa h _=>exact⟨_,rfl,_,_,_,_,rfl,rfl,aS.of h,bW,rfl,_,rfl,dh vB k⟩
  |call h hx hy=>
   obtain⟨a',y,r,rfl,h'⟩:=hx.tup
   refine⟨_,rfl,_,_,_,_,rfl,rfl,aS.of h,bW,rfl,_,rfl,ia rfl ⟨_,rfl,_,_,_,_,rfl,rfl,aS.of h,gb,_,_,_,_,rfl,rfl,aS.of h',bW,rfl,?_⟩⟩
   rw[qy]
   exact k
abbrev gp:Stmt:=top 18
theorem rZ:a8 ["_law_found"] ["_law_found"] (aw gp):=⟨rfl,rfl,rfl,by decide+kernel,rfl,by decide+kernel,by decide+kernel⟩
inductive AV(vs:List V)(H:Hp)(Q:VK):Prop where
 |mk(i:_)(c1:vs=[.int i])(c2:Q (.bl true) H)
def mK:Sp:=fun vs H Q lK=>AV vs H Q
theorem r0{f:Addr}{fd:FuncData}(F:jS K "_law_whole" "_law_whole" gp f fd)(N_:cV mg):cg P w K mg base bK 1 f fd ["_law_found"] mK:=by
 refine F.ok rZ (fun vs H Q E h=>?_) (fun fx A outer s H vs Q E hr h=>?_)
 ·obtain⟨i,rfl,_⟩:=h
  rfl
 ·obtain⟨i,rfl,k⟩:=h
  refine⟨_,(ai (aU (oQ (mh gR (by rfl) N_.isinstance boot_isinstance (ak (pv 0) (ak (jr (v:=V.ty "int") rfl N_.int boot_int rfl) aj))) (oP (Hr (mh gR (by rfl) N_.isinstance boot_isinstance (ak (pv 0) (ak (jr (v:=V.ty "bool") rfl N_.bool boot_bool rfl) aj)))))))),?_⟩
  exact⟨_,rfl,_,_,_,_,rfl,.int i,HU K,_,rfl,fu ⟨_,rfl,_,_,_,_,rfl,.int i,HV K,_,rfl,k⟩⟩
abbrev jk:Stmt:=top 28
theorem pd:a8 ["_law_cell","_law_size"] ["_law_cell"] (aw jk):=⟨rfl,rfl,rfl,by decide+kernel,rfl,by decide+kernel,by decide+kernel⟩
inductive Fs(vs:List V)(H:Hp)(Q:VK):Prop where
 |mk(c:_)(c1:vs=[.int c])(c2:∀i H',aQ H H'->Q (.int i) H')
def tQ:Sp:=fun vs H Q lK=>Fs vs H Q
theorem vw{f:Addr}{fd:FuncData}(F:jS K "_law_any" "_law_any" jk f fd):cg P w K mg base bK 1 f fd ["_law_cell"] tQ:=by
 refine F.ok pd (fun vs H Q E h=>?_) (fun fx A outer s H vs Q E hr h=>?_)
 ·obtain⟨c,rfl,_⟩:=h
  rfl
 ·obtain⟨c,rfl,k⟩:=h
  refine⟨_,(ag (aE (i:=1) pd.nd rfl (Or.inl rfl) (bU gH (bU kQ (pv 0) ah) (bU BZ ah ah)))
   (ai (aU (bU B3 (pv 1) (aD ee (et (ak ah (ak (yt tD ah) aj))) (bU gH (pv 0) ah) (fun _ _=>rfl)))))),?_⟩
  show(let cP:TS:=_;aL _ cP _ _ _)
  intro cP
  refine⟨_,rfl,_,_,rfl,rfl,⟨by decide,by decide⟩,_,_,rfl,rfl,⟨by decide,by decide,by decide⟩,_,_,rfl,rfl,(show(0:Int) < 10 ^ (59:Int).toNat by decide+kernel),?_⟩
  refine⟨_,rfl,_,rfl,az (by simp),fun p H1 np s1 h1=>⟨_,rfl,_,_,rfl,rfl,(show(0:Int) < 2 by decide),?_⟩⟩
  have hc:c % 2=0 ∨ c % 2=1:=by omega
  rcases hc with e|e
  ·refine⟨_,_,_,_,rfl,rfl,bp.of h1,by rw[e];exact bW,_,_,rfl,rfl,Or.inr ⟨by decide,by decide⟩,k _ _ s1⟩
  ·refine⟨_,_,_,_,rfl,rfl,bp.of h1,by rw[e];exact gb,_,_,rfl,rfl,Or.inr ⟨by decide,by decide⟩,k _ _ s1⟩
abbrev eM:Stmt:=top 27
theorem dz:a8 ["_law_cell","_law_left","_law_word"] ["_law_cell"] (aw eM):=⟨rfl,rfl,rfl,by decide+kernel,rfl,by decide+kernel,by decide+kernel⟩
inductive uL(vs:List V)(H:Hp)(Q:VK):Prop where
 |mk(c:_)(c1:vs=[.int c])(c2:∀w:Str,Q (.str w) H)
def kh:Sp:=fun vs H Q lK=>uL vs H Q
theorem wJ{k L:Nat}(h:26 ^ k*L<=10 ^ 39)(hL:1<=L):k<=28:=by
 refine Nat.le_of_not_lt fun z=>?_
 have h1:26 ^ 28<=26 ^ k:=Nat.pow_le_pow_right (by decide) (by omega)
 have h2:26 ^ k*1<=26 ^ k*L:=Nat.mul_le_mul_left _ hL
 have h3:¬(26 ^ 28<=10 ^ 39):=by decide+kernel
 omega
theorem oR{f:Addr}{fd:FuncData}(F:jS K "_law_any_word" "_law_any_word" eM f fd)(N_:cV mg):cg P w K mg base bK 1 f fd ["_law_cell"] kh:=by
 refine F.ok dz (fun vs H Q E h=>?_) (fun fx A outer s H vs Q E hr h=>?_)
 ·obtain⟨c,rfl,_⟩:=h
  rfl
 ·obtain⟨c,rfl,k⟩:=h
  refine⟨_,(ag (aE (i:=1) dz.nd rfl (Or.inl rfl) (bU gH (mh rH (by rfl) N_.abs boot_abs (ak (pv 0) aj)) (bU BZ ah ah)))
   (ag (aE (i:=2) dz.nd rfl (Or.inl rfl) aC)
   (ag (dY PassesOwn.never (ax B4 (pv 1) ah (aA _)) (ag (aE (i:=2) dz.nd rfl (Or.inl rfl) (bU xk (aD Ig aC (bU gH (pv 1) ah) (fun _ _=>rfl)) (pv 2)))
   (ai (aE (i:=1) dz.nd rfl (Or.inl rfl) (bU mi (bU kQ (pv 1) ah) ah)))))
   (ai (aU (pv 2)))))),?_⟩
  show(let cP:TS:=_;let dj:TS:=_;let eW:TS:=aL _ dj;let fy:TS:=aL (gc _ eW) cP;let fW:TS:=aL _ fy;aL _ fW _ _ _)
  intro cP dj eW fy fW
  refine⟨_,rfl,_,rfl,_,_,rfl,rfl,⟨by decide,by decide,by decide⟩,_,_,rfl,rfl,(show(0:Int) < 10 ^ (39:Int).toNat by decide+kernel),?_⟩
  obtain⟨M,hM⟩:∃M,((if c < 0 then -c else c) % (10:Int) ^ ((39:Int).toNat))=M:=⟨_,rfl⟩
  have hM0:0<=M:=by rw[<-hM];exact Int.emod_nonneg _ (by decide+kernel)
  have hM1:M < 10 ^ 39:=by rw[<-hM];exact Int.emod_lt_of_pos _ (by decide+kernel)
  refine⟨fun m σ H'=>∃(n:Nat) (w:Str),σ=[some (.int c),some (.int ((m:Int) - 1)),some (.str w)]/\H'=H/\w.length=n/\26 ^ n*m<=10 ^ 39,⟨M.toNat+1,0,"",?_,rfl,rfl,?_⟩,?_⟩
  ·have e:((M.toNat+1:Nat):Int) - 1=M:=by omega
   rw[e,<-hM]
   rfl
  ·have:M.toNat+1<=10 ^ 39:=by omega
   simpa using this
  ·rintro m σ H' ⟨n,w,rfl,rfl,hn,hb⟩
   refine⟨_,rfl,_,_,rfl,rfl,_,rfl,uj (fun hc=>?_) (fun hc=>⟨_,rfl,k w⟩)⟩
   have hm:1<=m:=by omega
   have Ye:=wJ hb hm
   refine⟨fun σ' H''=>∃m',m' < m/\∃(n:Nat) (w:Str),σ'=[some (.int c),some (.int ((m':Int) - 1)),some (.str w)]/\H''=H'/\w.length=n/\26 ^ n*m'<=10 ^ 39,fun _ _ h=>h,?_⟩
   obtain⟨ch,Bf,_⟩:=Vf (xs:=(Str.ofString "abcdefghijklmnopqrstuvwxyz").cps.toList) (i:=((m:Int) - 1) % 26) (by omega) (by
    rw[show(Str.ofString "abcdefghijklmnopqrstuvwxyz").cps.toList.length=26 by decide+kernel];omega)
   refine⟨_,rfl,_,_,rfl,rfl,(show(0:Int) < 26 by decide),_,_,_,rfl,rfl,az (by decide+kernel),Bf,_,rfl,_,_,rfl,rfl,az (by rw[hn];show 1+n<=_;omega),?_⟩
   refine⟨_,rfl,_,_,rfl,rfl,⟨by decide,by decide⟩,_,_,rfl,rfl,?_⟩
   refine⟨(m - 1) / 26,by omega,n+1,⟨#[ch]⟩++w,?_,rfl,?_,?_⟩
   ·have e:((m:Int) - 1) / 26 - 1=(((m - 1) / 26:Nat):Int) - 1:=by omega
    rw[<-e]
    rfl
   ·rw[Str.length_append,hn]
    show 1+n=n+1
    omega
   ·have h1:26 ^ (n+1)*((m - 1) / 26)=26 ^ n*(26*((m - 1) / 26)):=by rw[Nat.pow_succ,Nat.mul_assoc]
    rw[h1]
    refine Nat.le_trans (Nat.mul_le_mul_left _ ?_) hb
    omega
abbrev g0:Stmt:=top 29
theorem tU:a8 ["_law_script","_law_most","_law_bound"] ["_law_script","_law_most","_law_bound"] (aw g0):=⟨rfl,rfl,rfl,by decide+kernel,rfl,by decide+kernel,by decide+kernel⟩
inductive Dg(K:W.Frag)(vs:List V)(H:Hp)(Q:VK):Prop where
 |mk(a:_)(ns:List Int)(m:_)(b:_)(c1:vs=[.ref a,m,b])(c2:bp K H a (ns.map V.int))(c3:ns.length<=63)(c4:Q m H)
def tM(K:W.Frag):Sp:=fun vs H Q lK=>Dg K vs H Q
theorem tZ{f:Addr}{fd:FuncData}(F:jS K "_law_room" "_law_room" g0 f fd)(N_:cV mg):cg P w K mg base bK 1 f fd ["_law_script","_law_most","_law_bound"] (tM K):=by
 refine F.ok tU (fun vs H Q E h=>?_) (fun fx A outer s H vs Q E hr h=>?_)
 ·obtain⟨a,ns,m,b,rfl,_⟩:=h
  rfl
 ·obtain⟨a,ns,m,b,rfl,hS,hl,k⟩:=h
  refine⟨_,(ag (bj (ax mY (mh bf (by rfl) N_.len boot_len (ak (pv 0) aj)) ah (aA _)) (ai (aU (pv 2))) aZ)
   (ai (aU (pv 1)))),?_⟩
  show(let cP:TS:=_;let dj:TS:=_;aL (bS _ dj _) cP _ _ _)
  intro cP dj
  exact⟨_,rfl,_,_,rfl,Or.inl hS,_,_,rfl,rfl,_,rfl,dh (by rw[List.length_map];omega) ⟨_,rfl,k⟩⟩
end
section
variable {P:Program}{w:World}{K:W.Frag}{mg:Str->Option Value}{base:Heap}
seal L2.PE L2.PA L2.PT L2.PS L2.nZ L2.PW L2.PG L2.uW L2.PI L2.PO L2.gy L2.wc L2.cE L2.mw L2.rS L2.rR
abbrev gr:Stmt:=top 20
theorem bT:a8 ["_law_cells","_law_pile","_law_cell","_law_way","_law_inner","_law_other","_law_one","_law_menu"] ["_law_cells"] (aw gr):=⟨rfl,rfl,rfl,by decide+kernel,rfl,by decide+kernel,by decide+kernel⟩
def mJ(f:Tm->Nat)(ts:List Tm):Nat:=(ts.map f).sum
theorem d5(f:Tm->Nat)(ts:List Tm)(t:Tm):mJ f (ts++[t])=mJ f ts+f t:=by
 unfold mJ
 rw[List.map_append,List.sum_append]
 simp
theorem qA{f:Tm->Nat}(h:∀t,1<=f t):∀ts:List Tm,ts.length<=mJ f ts
 |[]=>Nat.le_refl _
 |t::ts=>by
  have h1:=h t
  have h2:=qA h ts
  show ts.length+1<=f t+mJ f ts
  omega
theorem su{f g:Tm->Nat}(h:∀t,f t<=g t):∀ts:List Tm,mJ f ts<=mJ g ts
 |[]=>Nat.le_refl _
 |t::ts=>Nat.add_le_add (h t) (su h ts)
theorem C5(t:Tm):1<=cost t:=Nat.le_trans (Cn t) (yG t)
inductive AZ(K:W.Frag)(vs:List V)(H:Hp)(Q:VK):Prop where
 |mk(a:_)(ns:List Int)(c1:vs=[.ref a])(c2:bp K H a (ns.map V.int))(c3:ns.length<=100)(c4:∀v t H',aQ H H'->au H' v t->kp t<=max 1 ns.length->Q v H')
def qF(K:W.Frag):Sp:=fun vs H Q lK=>AZ K vs H Q
inductive Dx(H:Hp)(p:Addr)(n:Nat)(H':Hp):Prop where
 |mk(xs:_)(ts:_)(c1:aQ H H')(c2:H' p=some (.lst xs))(c3:Paired (au H') xs ts)(c4:mJ cost ts<=n)
def Fz(H:Hp)(p:Addr)(n:Nat)(H':Hp):Prop:=Dx H p n H'
inductive M5(H:Hp)(p:Addr)(n:Nat)(H':Hp):Prop where
 |mk(xs:_)(ts:_)(c1:aQ H H')(c2:H' p=some (.lst xs))(c3:Paired (au H') xs ts)(c4:mJ kp ts<=n)(c5:ts≠[])
def M6(H:Hp)(p:Addr)(n:Nat)(H':Hp):Prop:=M5 H p n H'
theorem wQ{H H':Hp}{xs:List V}{ts:List Tm}(h:Paired (au H) xs ts)(k:aQ H H'):Paired (au H') xs ts:=aq (fun a b h=>h.same k) h
theorem zp(i:Int):(if i < 0 then -i else i)=((i.natAbs:Nat):Int):=by split<;>omega
theorem r8{f:Addr}{fd:FuncData}(F:jS K "_law_grown" "_law_grown" gr f fd)(N_:cV mg)(fQ:GF P w K mg base bK 1 "_law_any" ["_law_cell"] tQ)(gh:GF P w K mg base bK 1 "_law_any_word" ["_law_cell"] kh):
  cg P w K mg base bK 2 f fd ["_law_cells"] (qF K):=by
 refine F.ok bT (fun vs H Q E h=>?_) (fun fx A outer s H vs Q E hr h=>?_)
 ·obtain⟨a,ns,rfl,_⟩:=h
  rfl
 ·obtain⟨a,ns,rfl,hS,hl,k⟩:=h
  have lP:=hr.qu
  refine⟨_,(ag (aE (i:=1) bT.nd rfl (Or.inl rfl) (et aj))
   (ag (iu PassesOwn.never rfl (pY (pv 0)) (cU (i:=2) bT.nd rfl (Or.inl rfl)) (ag (aE (i:=3) bT.nd rfl (Or.inl rfl) (bU gH (pv 2) ah))
   (ai (bj (PW.pt (ei (ax bC (pv 3) ah (aA _)) (dt (ax (gG lP) (pv 1) (et aj) (aA _))))) (ag (aE (i:=4) bT.nd rfl (Or.inl rfl) (iA (pv 1)))
   (ai (a0 (eA (pv 1) (cB (ak aC (ak (pv 4) aj))))))) (ai (bj (PW.pt (ei (ax mY (pv 3) ah (aA _)) (dt (ax mY (mh bf (by rfl) N_.len boot_len (ak (pv 1) aj)) ah (aA _))))) (ag (aE (i:=5) bT.nd rfl (Or.inl rfl) (iA (pv 1)))
   (ag (aE (i:=6) bT.nd rfl (Or.inl rfl) (iA (pv 1)))
   (ag (bj (ax mY (pv 3) ah (aA _)) (ai (aE (i:=6) bT.nd rfl (Or.inl rfl) (cB (ak aC (ak (pv 6) aj))))) aZ)
   (ai (a0 (eA (pv 1) (cB (ak aC (ak (pv 6) (ak (pv 5) aj)))))))))) (ag (aE (i:=7) bT.nd rfl (Or.inl rfl) (et (ak (cB (ak aC (ak ah aj))) (ak (cB (ak aC (ak ah aj))) (ak (cB (ak aC (ak ah aj))) (ak (cB (ak aC (ak aC aj))) (ak (cB (ak aC (ak aC aj))) aj)))))))
   (ag (a0 (eA (pv 7) (cB (ak aC (ak (mh rH (by rfl) N_.abs boot_abs (ak (cA fQ (hr.mono (by decide)) rfl bt (ak (pv 2) aj)) aj)) aj)))))
   (ag (a0 (eA (pv 7) (cB (ak aC (ak (cA gh (hr.mono (by decide)) rfl bt (ak (bU kQ (pv 2) ah) aj)) aj)))))
   (ai (a0 (eA (pv 1) (aD ee (pv 7) (bU gH (bU kQ (pv 2) ah) ah) (fun _ _=>rfl))))))))))))))
   (ag (bj (ax (qQ lP) (pv 1) (et aj) (aA _)) (ai (a0 (eA (pv 1) (cB (ak aC (ak aC aj)))))) aZ)
   (ag (dY PassesOwn.never (ax mY (mh bf (by rfl) N_.len boot_len (ak (pv 1) aj)) ah (aA _)) (ag (aE (i:=5) bT.nd rfl (Or.inl rfl) (iA (pv 1)))
   (ag (aE (i:=6) bT.nd rfl (Or.inl rfl) (iA (pv 1)))
   (ai (a0 (eA (pv 1) (cB (ak aC (ak (pv 6) (ak (pv 5) aj))))))))))
   (ai (aU (aD ee (pv 1) ah (fun _ _=>rfl)))))))),?_⟩
  show(let cP:TS:=_;let dj:TS:=_;let eW:TS:=aL _ dj;let fy:TS:=aL _ eW;let fW:TS:=aL (gc _ fy) cP;let iI:TS:=_;let kE:TS:=aL (bS _ iI _) fW;let kD:TS:=_;let lJ:TS:=aL _ kD;let eD:TS:=_;let fb:TS:=_;let kG:TS:=aL (bS _ fb _) eD;let kF:TS:=aL _ kG;let nY:TS:=aL _ kF;let nX:TS:=_;let wb:TS:=aL _ nX;let wa:TS:=aL _ wb;let uH:TS:=aL _ wa;let v9:TS:=bS _ nY uH;let Dc:TS:=bS _ lJ v9;let C9:TS:=aL _ Dc;let AU:TS:=aL (qz _ _ C9) kE;aL _ AU _ _ _)
  intro cP dj eW fy fW iI kE kD lJ eD fb kG kF nY nX wb wa uH v9 Dc C9 AU
  refine⟨az (by simp),fun p H1 np s1 Be=>?_⟩
  refine⟨_,rfl,a,rfl,⟨_,s1.seq hS⟩,nI (K:=K) (a:=a) (xs:=ns.map V.int) (fun i σ H'=>Fz H p i H'/\i<=ns.length/\∃x2 x3 x4 x5 x6 x7,σ=[some (.ref a),some (.ref p),x2,x3,x4,x5,x6,x7])
   ⟨⟨[],[],s1,Be,.nil,Nat.le_refl _⟩,Nat.zero_le _,_,_,_,_,_,_,rfl⟩ (fun i σ H' _ ⟨⟨_,_,s',_,_,_⟩,_⟩=>s'.seq hS) ?_ ?_⟩
  ·rintro i y σ H2 hi ⟨⟨xs,ts,s2,sd,yL,fO⟩,qf,x2,x3,x4,x5,x6,x7,rfl⟩
   have LS:i < ns.length:=by
    have:=(List.getElem?_eq_some_iff.mp hi).1
    rw[List.length_map] at this
    exact this
   obtain⟨c,rfl⟩:∃z,y=V.int z:=by
    rw[List.getElem?_map] at hi
    cases e:ns[i]? with
    |none=>rw[e] at hi;cases hi
    |some z=>rw[e] at hi;exact⟨z,(Option.some.inj hi).symm⟩
   have eB:ts.length<=200:=Nat.le_trans (qA C5 ts) (by omega)
   have Bc:xs.length<=200:=by rw[Paired.length yL];exact eB
   refine⟨_,rfl,_,_,rfl,rfl,(show(0:Int) < 7 by decide),?_⟩
   have s3:=aQ.refl H2
   have WJ:H p=none:=np
   refine⟨_,rfl,rfl,_,rfl,uj (fun hA=>⟨_,rfl,az (by simp),fun e0 H3 n3 s3 h3=>⟨_,_,_,rfl,rfl,bp.of (s3 _ _ sd),bp.of h3,_,rfl,Ij (fun hE=>?aa)
     (fun hE=>⟨_,rfl,_,_,rfl,rfl,_,rfl,dh (by have e:c % 7=2:=(by injection hA);show ¬((2:Int) < c % 7);omega) (cf ?Lb)⟩)⟩⟩)
    (fun hA=>cf ⟨_,rfl,_,_,rfl,rfl,_,rfl,uj (fun hB=>⟨_,rfl,_,_,rfl,Or.inl (bp.of sd),_,_,rfl,rfl,_,rfl,uj (fun hC=>?call) (fun hC=>?K4)⟩) (fun hB=>cf ?La)⟩)⟩
   case aa=>
     have YS:ts≠[]:=by
      intro z
      subst z
      cases cC yL
      exact absurd hE (by simp)
     obtain⟨SX,t1,rfl⟩:=fS YS
     obtain⟨iJ,x,rfl,P4,hx⟩:=bo yL
     have cH:=s3 _ _ sd
     refine⟨_,rfl,Or.inl ⟨rfl,_,bp.of cH⟩,_,_,_,rfl,rfl,cH,fun H4 k4 uS=>?_⟩
     refine⟨_,rfl,Or.inl ⟨rfl,_,bp.of uS⟩,_,rfl,az (by simp),fun q H5 n5 s5 h5=>⟨_,_,_,rfl,rfl,s5 _ _ uS,small (by simp at Bc;omega),fun H6 k6 iC=>?_⟩⟩
     have Az:=s5 _ _ uS
     have tu:bY H2 H6:=(bY.of_same s3).trans ((k4.dS cH).trans ((bY.of_same s5).trans (k6.dS Az)))
     refine⟨⟨_,SX++[.aa t1],bH ((bH (s2.trans s3) k4 np).trans s5) k6 np,iC,aJ (.aa (k6.dS Az _ _ h5) (hx.mono tu)) (aq (fun a b h=>h.mono tu) P4),?_⟩,LS,_,_,_,_,_,_,rfl⟩
     rw[d5] at fO ⊢
     show mJ cost SX+(cost t1+1)<=_
     omega
   case call=>
    have CI:1 < ts.length:=by
     have:(1:Int) < (xs.length:Int):=hC
     rw[Paired.length yL] at this
     omega
    obtain⟨Oj,t1,rfl⟩:=fS (show ts≠[] by intro z;rw[z] at CI;simp at CI)
    obtain⟨GX,t2,rfl⟩:=fS (show Oj≠[] by intro z;rw[z] at CI;simp at CI)
    obtain⟨VV,x1,rfl,Im,pH⟩:=bo yL
    obtain⟨Ng,VX,rfl,Cv,ml⟩:=bo Im
    rw[d5,d5] at fO
    simp only[List.length_append,List.length_singleton] at Bc
    refine⟨_,rfl,Or.inl ⟨rfl,_,bp.of sd⟩,_,_,_,rfl,rfl,sd,fun H3 k3 cH=>⟨_,rfl,Or.inl ⟨rfl,_,bp.of cH⟩,_,_,_,rfl,rfl,cH,fun H4 k4 uS=>?_⟩⟩
    have FF:bY H2 H4:=(k3.dS sd).trans (k4.dS cH)
    have s4:aQ H H4:=bH (bH s2 k3 np) k4 np
    refine⟨_,rfl,_,_,rfl,rfl,_,rfl,uj (fun hF=>?_) (fun hF=>?_)⟩
    ·refine⟨_,rfl,az (by simp),fun q H5 n5 s5 h5=>?_⟩
     refine⟨_,rfl,Or.inl ⟨rfl,_,bp.of (s5 _ _ uS)⟩,_,rfl,_,rfl,az (by simp),fun r H6 n6 s6 h6=>⟨_,_,_,rfl,rfl,s6 _ _ (s5 _ _ uS),small (by omega),fun H7 k7 pJ=>?_⟩⟩
     have iC:=s6 _ _ (s5 _ _ uS)
     have tu:bY H4 H7:=(bY.of_same (s5.trans s6)).trans (k7.dS iC)
     have GW:=FF.trans tu
     refine⟨⟨_,GX++[.call (.aa t2) t1],bH ((s4.trans s5).trans s6) k7 np,pJ,aJ (.call (k7.dS iC _ _ h6) (.aa (k7.dS iC _ _ (s6 _ _ h5)) (ml.mono GW)) (pH.mono GW)) (aq (fun a b h=>h.mono GW) Cv),?_⟩,LS,_,_,_,_,_,_,rfl⟩
     rw[d5]
     show mJ cost GX+(cost t2+1+cost t1+0)<=_
     omega
    ·refine⟨_,rfl,Or.inl ⟨rfl,_,bp.of uS⟩,_,rfl,_,rfl,az (by simp),fun r H6 n6 s6 h6=>⟨_,_,_,rfl,rfl,s6 _ _ uS,small (by omega),fun H7 k7 pJ=>?_⟩⟩
     have iC:=s6 _ _ uS
     have tu:bY H4 H7:=(bY.of_same s6).trans (k7.dS iC)
     have GW:=FF.trans tu
     refine⟨⟨_,GX++[.call t2 t1],bH (s4.trans s6) k7 np,pJ,aJ (.call (k7.dS iC _ _ h6) (ml.mono GW) (pH.mono GW)) (aq (fun a b h=>h.mono GW) Cv),?_⟩,LS,_,_,_,_,_,_,rfl⟩
     rw[d5]
     show mJ cost GX+(cost t2+cost t1+(if t2.bx=true then 0 else 1))<=_
     split<;>omega
   case Lb|La|K4=>
    have cH:=s3 _ _ sd
    refine⟨az (by simp),fun q0 A0 n0 t0 h0=>⟨az (by simp),fun q1 A1 n1 t1 h1=>⟨az (by simp),fun q2 A2 n2 t2 h2=>⟨az (by simp),fun q3 A3 n3 t3 h3=>⟨az (by simp),fun q4 A4 n4 t4 h4=>⟨az (by simp),fun mn A5 n5 t5 h5=>?_⟩⟩⟩⟩⟩⟩
    have sA:aQ H2 A4:=s3.trans (t0.trans (t1.trans (t2.trans (t3.trans t4))))
    have JU:p≠mn:=aY (sA _ _ sd) n5
    have nm:H mn=none:=(s2.trans sA).free n5
    refine⟨_,rfl,Or.inl ⟨rfl,_,bp.of h5⟩,_,rfl,_,rfl,fun i0 B0 u0=>⟨_,rfl,az (by simp),fun q5 B1 m5 u1 g5=>⟨_,_,_,rfl,rfl,u1 _ _ (u0 _ _ h5),small (by simp),fun B2 PB Q6=>?_⟩⟩⟩
    refine⟨_,rfl,Or.inl ⟨rfl,_,bp.of Q6⟩,_,rfl,_,_,rfl,rfl,⟨by decide,by decide⟩,_,rfl,fun w0=>⟨az (by simp),fun q6 C1 m6 w1 g6=>⟨_,_,_,rfl,rfl,w1 _ _ Q6,small (by simp),fun C2 Pz L9=>?_⟩⟩⟩
    have Qz:=u1 _ _ (u0 _ _ h5)
    have Qy:=w1 _ _ Q6
    have J6:bY C1 C2:=Pz.dS Qy
    have Oh:bY B2 C2:=(bY.of_same w1).trans J6
    have J7:bY B1 C2:=(PB.dS Qz).trans Oh
    have Oi:bY A5 C2:=(bY.of_same (u0.trans u1)).trans J7
    have zF:bY A4 C2:=(bY.of_same t5).trans Oi
    have Qh:C2 p=some (.lst xs):=Pz.at (w1 _ _ (PB.at (u1 _ _ (u0 _ _ (t5 _ _ (sA _ _ sd)))) JU)) JU
    have sC:aQ H C2:=bH ((bH ((s2.trans (sA.trans t5)).trans (u0.trans u1)) PB nm).trans w1) Pz nm
    have all:∀v∈([V.ref q0,.ref q1,.ref q2,.ref q3,.ref q4]++[V.ref q5])++[V.ref q6],∃t:Tm,au C2 v t/\cost t=1:=by
     intro v hv
     simp only[List.cons_append,List.nil_append,List.mem_cons,List.not_mem_nil,or_false] at hv
     rcases hv with rfl|rfl|rfl|rfl|rfl|rfl|rfl
     ·exact⟨.place 0,.place (zF _ _ (t4 _ _ (t3 _ _ (t2 _ _ (t1 _ _ h0))))),rfl⟩
     ·exact⟨.place 1,.place (zF _ _ (t4 _ _ (t3 _ _ (t2 _ _ h1)))),rfl⟩
     ·exact⟨.place 2,.place (zF _ _ (t4 _ _ (t3 _ _ h2))),rfl⟩
     ·exact⟨.name _,.name (zF _ _ (t4 _ _ h3)),rfl⟩
     ·exact⟨.name _,.name (zF _ _ h4),rfl⟩
     ·refine⟨.place i0.natAbs,.place ?_,rfl⟩
      have q:=J7 _ _ g5
      rw[zp] at q
      exact q
     ·exact⟨.name w0,.name (J6 _ _ g6),rfl⟩
    obtain⟨v,L4,hv⟩:=Vf (xs:=([V.ref q0,.ref q1,.ref q2,.ref q3,.ref q4]++[V.ref q5])++[V.ref q6]) (i:=c / 7 % 7) (by omega) (by simp;omega)
    obtain⟨t,ht,Ip⟩:=all v hv
    refine⟨_,rfl,Or.inl ⟨rfl,_,bp.of Qh⟩,_,rfl,_,rfl,_,_,rfl,rfl,⟨by decide,by decide⟩,_,_,rfl,rfl,(show(0:Int) < 7 by decide),_,_,_,_,rfl,rfl,bp.of L9,L4,_,_,_,rfl,rfl,Qh,small (by omega),fun D1 Tx YT=>?_⟩
    have SW:bY C2 D1:=Tx.dS Qh
    refine⟨⟨_,ts++[t],bH sC Tx WJ,YT,aJ (ht.mono SW) (aq (fun a b h=>h.mono (((bY.of_same sA).trans zF).trans SW)) yL),?_⟩,LS,_,_,_,_,_,_,rfl⟩
    rw[d5]
    omega
  ·rintro σ H2 ⟨⟨xs,ts,s2,sd,yL,fO⟩,qf,x2,x3,x4,x5,x6,x7,rfl⟩
   rw[List.length_map] at fO
   refine⟨_,rfl,az (by simp),fun e0 H3 n3 s3 h3=>⟨_,_,_,rfl,rfl,bp.of (s3 _ _ sd),bp.of h3,_,rfl,Ij
    (fun hE=>⟨_,rfl,Or.inl ⟨rfl,_,bp.of (s3 _ _ sd)⟩,az (by simp),fun q H4 n4 s4 h4=>⟨_,_,_,rfl,rfl,s4 _ _ (s3 _ _ sd),?len,fun H5 k5 Az=>have hI:M6 H p (max 1 ns.length) H5:=?QF;?w1⟩⟩)
    (fun hE=>have hI:M6 H p (max 1 ns.length) H3:=?AE;?w2)⟩⟩
   case len=>
    have e:xs=[]:=List.isEmpty_iff.mp (by simpa using hE)
    rw[e]
    exact small (by simp)
   case QF=>
    have e:xs=[]:=List.isEmpty_iff.mp (by simpa using hE)
    subst e
    have uS:=s4 _ _ (s3 _ _ sd)
    exact⟨_,[.name "sat"],bH ((s2.trans s3).trans s4) k5 np,Az,.cons (.name (k5.dS uS _ _ h4)) .nil,(by show 1<=_;exact Nat.le_max_left _ _),by simp⟩
   case AE=>
    refine⟨xs,ts,s2.trans s3,s3 _ _ sd,wQ yL s3,Nat.le_trans (su yG ts) (Nat.le_trans fO (Nat.le_max_right _ _)),?_⟩
    intro z
    subst z
    cases cC yL
    exact absurd hE (by simp)
   case w1|w2=>
    refine⟨fun m σ H'=>(∃xs ts,aQ H H'/\H' p=some (.lst xs)/\Paired (au H') xs ts/\mJ kp ts<=max 1 ns.length/\ts≠[]/\m=ts.length)/\∃x2 x3 x4 x5 x6 x7,σ=[some (.ref a),some (.ref p),x2,x3,x4,x5,x6,x7],?_,?_⟩
    ·obtain⟨xs,ts,a1,a2,a3,a4,a5⟩:=hI
     exact⟨_,⟨xs,ts,a1,a2,a3,a4,a5,rfl⟩,_,_,_,_,_,_,rfl⟩
    ·rintro m σ H6 ⟨⟨xs,ts,s6,iC,yL,fO,lF,rfl⟩,x2,x3,x4,x5,x6,x7,rfl⟩
     refine⟨_,rfl,_,_,rfl,Or.inl (bp.of iC),_,_,rfl,rfl,_,rfl,uj (fun hC=>?_) (fun hC=>?_)⟩
     ·have CI:1 < ts.length:=by
       have:(1:Int) < (xs.length:Int):=hC
       rw[Paired.length yL] at this
       omega
      refine⟨fun σ' H'=>∃m',m' < ts.length/\((∃xs ts,aQ H H'/\H' p=some (.lst xs)/\Paired (au H') xs ts/\mJ kp ts<=max 1 ns.length/\ts≠[]/\m'=ts.length)/\∃x2 x3 x4 x5 x6 x7,σ'=[some (.ref a),some (.ref p),x2,x3,x4,x5,x6,x7]),fun _ _ h=>h,?_⟩
      obtain⟨Oj,t1,rfl⟩:=fS lF
      obtain⟨GX,t2,rfl⟩:=fS (show Oj≠[] by intro z;rw[z] at CI;simp at CI)
      obtain⟨VV,x1,rfl,Im,pH⟩:=bo yL
      obtain⟨Ng,VX,rfl,Cv,ml⟩:=bo Im
      rw[d5,d5] at fO
      have hln:=qA Cn GX
      have hmx:max 1 ns.length<=101:=Nat.max_le.mpr ⟨by decide,by omega⟩
      refine⟨_,rfl,Or.inl ⟨rfl,_,bp.of iC⟩,_,_,_,rfl,rfl,iC,fun H7 k7 pJ=>⟨_,rfl,Or.inl ⟨rfl,_,bp.of pJ⟩,_,_,_,rfl,rfl,pJ,fun H8 k8 iY=>?_⟩⟩
      have ib:=Paired.length Cv
      refine⟨_,rfl,Or.inl ⟨rfl,_,bp.of iY⟩,_,rfl,_,rfl,az (by simp),fun r H9 n9 s9 h9=>⟨_,_,_,rfl,rfl,s9 _ _ iY,small (by omega),fun gz iX Qi=>?_⟩⟩
      have jN:=s9 _ _ iY
      have tu:bY H6 gz:=((k7.dS iC).trans (k8.dS pJ)).trans ((bY.of_same s9).trans (iX.dS jN))
      refine⟨_,?_,⟨_,GX++[.call t2 t1],bH ((bH (bH s6 k7 np) k8 np).trans s9) iX np,Qi,aJ (.call (iX.dS jN _ _ h9) (ml.mono tu) (pH.mono tu)) (aq (fun a b h=>h.mono tu) Cv),?_,by simp,rfl⟩,_,_,_,_,_,_,rfl⟩
      ·simp
      ·rw[d5]
       have:=EM t2 t1
       exact Nat.le_trans (by omega) fO
     ·have CI:¬1 < ts.length:=by
       intro z
       refine hC ?_
       show(1:Int) < (xs.length:Int)
       rw[Paired.length yL]
       omega
      match ts,yL,lF,CI,fO with
      |[t],.cons (a:=x) (l₁:=r) hx hr,_,_,fO=>
       cases hr
       refine⟨_,rfl,_,_,_,_,rfl,rfl,bp.of iC,bW,k _ t H6 s6 hx ?_⟩
       exact fO
      |_::_::_,_,_,CI,_=>exact absurd CI (by simp)
end
section
variable {P:Program}{w:World}{K:W.Frag}{mg:Str->Option Value}{base:Heap}
seal L2.PE L2.PA L2.PT L2.PS L2.nZ L2.PW L2.PG L2.uW L2.PI L2.PO L2.gy L2.wc L2.cE L2.mw L2.rS L2.rR
abbrev jj:Stmt:=top 4
theorem vf:a8 ["part","forms"] ["part","forms"] (aw jj):=⟨rfl,rfl,rfl,by decide+kernel,rfl,by decide+kernel,by decide+kernel⟩
def T.outer(t:Tm)(k:Nat):Bool:=match t with| .place n=>decide (k<=n)|_=>false
inductive uK(vs:List V)(H:Hp)(Q:VK):Prop where
 |mk(v:_)(t:_)(k:Nat)(c1:vs=[v,.int (k:Int)])(c2:au H v t)(c3:Q (.bl (T.outer t k)) H)
def eZ:Sp:=fun vs H Q lK=>uK vs H Q
theorem vp{f:Addr}{fd:FuncData}(F:jS K "is_outer" "is_outer" jj f fd):cg P w K mg base bK 1 f fd ["part","forms"] eZ:=by
 refine F.ok vf (fun vs H Q E h=>?_) (fun fx A outer s H vs Q E hr h=>?_)
 ·obtain⟨v,t,k,rfl,_⟩:=h
  rfl
 ·obtain⟨v,t,n,rfl,ht,k⟩:=h
  refine⟨_,(ai (aU (oQ (dP bC (aD ay (pv 0) ah (fun _ _=>rfl)) aC (aA _)) (oP (dP B4 (aD ay (pv 0) ah (fun _ _=>rfl)) (pv 1) (aA _)))))),?_⟩
  cases ht with
  |name h=>exact⟨_,rfl,_,_,_,_,rfl,rfl,aS.of h,bW,rfl,_,rfl,dh Ab k⟩
  |aa h _=>exact⟨_,rfl,_,_,_,_,rfl,rfl,aS.of h,bW,rfl,_,rfl,dh HG k⟩
  |call h _ _=>exact⟨_,rfl,_,_,_,_,rfl,rfl,aS.of h,bW,rfl,_,rfl,dh HH k⟩
  |@place a m h=>
   refine⟨_,rfl,_,_,_,_,rfl,rfl,aS.of h,bW,rfl,_,rfl,ia rfl ⟨_,rfl,_,_,_,_,rfl,rfl,aS.of h,gb,_,rfl,_,_,rfl,rfl,?_⟩⟩
   have e:decide ((m:Int)≥(n:Int))=T.outer (.place m) n:=by
    show _=decide (n<=m)
    by_cases q:n<=m
    ·rw[decide_eq_true q,decide_eq_true (by omega)]
    ·rw[decide_eq_false q,decide_eq_false (by omega)]
   show Q (V.bl (decide ((n:Int)<=(m:Int)))) H
   rw[show decide ((n:Int)<=(m:Int))=T.outer (.place m) n from e]
   exact k
abbrev qJ:Stmt:=top 1
theorem mO:a8 ["term","around","inward","found","todo","pair","part"] ["term","around","inward"] (aw qJ):=⟨rfl,rfl,rfl,by decide+kernel,rfl,by decide+kernel,by decide+kernel⟩
inductive Fp(J:Hp->Prop)(vs:List V)(H:Hp)(Q:VK):Prop where
 |mk(v:_)(k:Nat)(c1:vs=[v,.int (k:Int)])(c2:J H)(c3:Q (.int ((k+1:Nat):Int)) H)
def Bt(J:Hp->Prop):Sp:=fun vs H Q lK=>Fp J vs H Q
inductive De(kf:Nat)(P:Program)(w:World)(K:W.Frag)(mg:Str->Option Value)(base:Heap)(vs:List V)(H:Hp)(Q:VK):Prop where
 |mk(v:_)(t:_)(k0:Nat)(f:_)(ps:_)(J:_)(c1:vs=[v,.int (k0:Int),.ref f])(c2:au H v t)(c3:t.size<=100000)(c4:FV P w K mg base bK kf f ps (Bt J))(c5:(∀H',aQ H H'->J H'))(c6:∀l rs H',aQ H H'->H l=none->H' l=some (.lst rs)->Paired (bB H') rs (t.parts k0)->Q (.ref l) H')
def tK(kf:Nat)(P:Program)(w:World)(K:W.Frag)(mg:Str->Option Value)(base:Heap):Sp:=fun vs H Q lK=>De kf P w K mg base vs H Q
inductive Ds(H:Hp)(v:V)(t:Tm)(k0:Nat)(u:V)(f d:Addr)(m:Nat)(σ:L2.St)(H':Hp):Prop where
 |mk(aN:_)(xs:_)(fs:_)(ps:_)(x3:_)(x4:_)(c1:σ=[some v,some (.int (k0:Int)),some u,some (.ref f),some (.ref d),x3,x4])(c2:aQ H H')(c3:H' f=some (.lst fs))(c4:H' d=some (.lst xs))(c5:Paired (bB H') xs aN)(c6:Paired (bB H') fs ps)(c7:ps++pe aN=t.parts k0)(c8:m=bG aN)(c9:bG aN<=t.size)
def zr(H:Hp)(v:V)(t:Tm)(k0:Nat)(u:V)(f d:Addr)(m:Nat)(σ:L2.St)(H':Hp):Prop:=Ds H v t k0 u f d m σ H'
theorem Sy{α:Type}{a b:α}:uU [a,b] (-1)=some b:=rfl
theorem Et{f:Addr}{fd:FuncData}{kf:Nat}(F:jS K "walk" "walk" qJ f fd):cg P w K mg base bK (kf+1) f fd ["term","around","inward"] (tK kf P w K mg base):=by
 refine F.ok mO (fun vs H Q E h=>?_) (fun fx A outer s H vs Q E hr h=>?_)
 ·obtain⟨v,t,k0,g,ps,J,rfl,_⟩:=h
  rfl
 ·obtain⟨v,t,k0,g,gps,J,rfl,ht,hsz,QJ,hJ,k⟩:=h
  have ND:dr kf (A.deeper (envOfC "walk" (aw qJ) s.heap.objs.size _ fx)):=hr
  refine⟨_,(ag (aE (i:=3) mO.nd rfl (Or.inl rfl) (et aj))
   (ag (aE (i:=4) mO.nd rfl (Or.inl rfl) (et (ak (cB (ak (pv 0) (ak (pv 1) aj))) aj)))
   (ag (dY PassesOwn.never (kn (pv 4) (fun _=>rfl)) (ag (aE (i:=5) mO.nd rfl (Or.inl rfl) (iA (pv 4)))
   (ag (a0 (eA (pv 3) (pv 5)))
   (ag (aE (i:=6) mO.nd rfl (Or.inl rfl) (aD ay (pv 5) ah (fun _ _=>rfl)))
   (ai (bj (ax bC (aD ay (pv 6) ah (fun _ _=>rfl)) aC (aA _)) (ai (a0 (eA (pv 4) (cB (ak (aD ay (pv 6) (yt tD ah) (fun _ _=>rfl)) (ak (xh 2 ND bt (ak (pv 6) (ak (aD ay (pv 5) ah (fun _ _=>rfl)) aj))) aj)))))) (ai (bj (ax bC (aD ay (pv 6) ah (fun _ _=>rfl)) aC (aA _)) (ag (a0 (eA (pv 4) (cB (ak (aD ay (pv 6) ah (fun _ _=>rfl)) (ak (aD ay (pv 5) ah (fun _ _=>rfl)) aj)))))
   (ai (a0 (eA (pv 4) (cB (ak (aD ay (pv 6) ah (fun _ _=>rfl)) (ak (aD ay (pv 5) ah (fun _ _=>rfl)) aj))))))) aZ))))))))
   (ai (aU (pv 3)))))),?_⟩
  show(let cP:TS:=_;let dj:TS:=_;let eW:TS:=_;let fy:TS:=aL _ eW;let fW:TS:=bS _ fy _;let iI:TS:=bS _ dj fW;let kE:TS:=aL _ iI;let kD:TS:=aL _ kE;let lJ:TS:=aL _ kD;let eD:TS:=aL (gc _ lJ) cP;let fb:TS:=aL _ eD;aL _ fb _ _ _)
  intro cP dj eW fy fW iI kE kD lJ eD fb
  refine⟨az (by simp),fun f H1 nf s1 xF=>⟨_,rfl,_,rfl,az (by simp),fun q H3 nq s3 IA=>⟨az (by simp),fun d H4 nd s4 E4=>?_⟩⟩⟩
  have zK:aQ H H4:=(s1.trans s3).trans s4
  have LW:H4 f=some (.lst []):=s4 _ _ (s3 _ _ xF)
  have vA:f≠d:=aY (s3 _ _ xF) nd
  have JN:H f=none:=nf
  have Bb:H d=none:=(s1.trans s3).free nd
  have nL:∀x∈[f,d],H x=none:=fun x hx=>by
   rcases List.mem_cons.mp hx with e|hx
   ·rw[e];exact JN
   ·rw[List.mem_singleton.mp hx];exact Bb
  refine⟨zr H v t k0 (.ref g) f d,⟨bG [(t,k0)],?_⟩,?_⟩
  ·refine⟨[(t,k0)],[.ref q],[],[],none,none,rfl,zK,LW,E4,.cons ⟨q,v,rfl,s4 _ _ IA,ht.same zK⟩ .nil,.nil,?_,rfl,?_⟩
   ·show[]++(t.parts k0++[])=_
    rw[List.append_nil,List.nil_append]
   ·show t.size+0<=t.size
    omega
  ·rintro m σ H5 ⟨aN,xs,fs,ps,x3,x4,rfl,s5,DI,qg,hit,wC,heq,rfl,fO⟩
   by_cases lE:aN=[]
   ·subst lE
    cases cC hit
    refine⟨_,rfl,false,Or.inl ⟨_,bp.of qg,rfl⟩,cf ⟨_,rfl,?_⟩⟩
    have e:ps=t.parts k0:=by rw[<-heq];unfold pe;simp
    subst e
    exact k f fs H5 s5 JN DI wC
   ·obtain⟨its',⟨t1,k1⟩,rfl⟩:=fS lE
    obtain⟨iJ,x,rfl,uk,a,tv,rfl,ha,pI⟩:=bo hit
    have pI:au H5 tv t1:=pI
    refine⟨_,rfl,true,Or.inl ⟨_,bp.of qg,by simp⟩,fu ⟨fun σ' H'=>∃m',m' < bG (its'++[(t1,k1)])/\zr H v t k0 (.ref g) f d m' σ' H',fun _ _ h=>h,?_⟩⟩
    refine⟨_,rfl,Or.inl ⟨rfl,_,bp.of qg⟩,d,iJ,.ref a,rfl,rfl,qg,fun H6 k6 jW=>?_⟩
    have hL:=fM DI qg
    have K6:bh [f,d] H5 H6:=k6.sub (by simp)
    have tG:=K6.cM hL
    have Gy:=tG _ _ ha
    have wF:H6 f=some (.lst fs):=k6.at DI vA
    have s6:aQ H H6:=bN s5 K6 nL
    have qd:=aq (fun a b h=>bB.mono h tG) uk
    have BM:=aq (fun a b h=>bB.mono h tG) wC
    have Bg:=fM wF jW
    rw[jo] at heq
    rw[bF] at fO
    rw[bF]
    have Bc:iJ.length<=t.size:=by
     rw[Paired.length qd]
     have:=mj its'
     have h1:bG its'+t1.size<=t.size:=fO
     omega
    have UI:fs.length<=t.size:=by
     rw[Paired.length BM]
     have h1:=congrArg List.length heq
     rw[List.length_append,gw] at h1
     omega
    have NB:bG its'+t1.size<=t.size:=fO
    refine⟨_,rfl,Or.inl ⟨rfl,_,bp.of wF⟩,_,rfl,_,_,_,rfl,rfl,wF,small (by omega),fun H7 k7 xD=>?_⟩
    have K7:bh [f,d] H6 H7:=k7.sub (by simp)
    have rp:H7 d=some (.lst iJ):=k7.at jW vA.symm
    have DF:=K7.cM Bg
    have L5:=DF _ _ Gy
    have Ct:=(pI.mono tG).mono DF
    have s7:aQ H H7:=bN s6 K7 nL
    have EV:=aq (fun a b h=>bB.mono h DF) qd
    have Eg:=aJ (x:=V.ref a) (y:=(t1,k1)) ⟨a,tv,rfl,L5,Ct⟩ (aq (fun a b h=>bB.mono h DF) BM)
    have GA:=fM xD rp
    refine⟨_,rfl,_,_,_,_,rfl,rfl,aS.of L5,bW,?_⟩
    have heq:ps++(t1.parts k1++pe its')=t.parts k0:=heq
    cases Ct with
    |name h=>
     refine⟨_,rfl,_,_,_,_,rfl,rfl,aS.of h,bW,rfl,_,rfl,dh pE ⟨_,rfl,_,_,_,_,rfl,rfl,aS.of h,bW,rfl,_,rfl,dh pF ?_⟩⟩
     refine⟨_,by show bG its' < bG its'+1;omega,its',iJ,_,_,_,_,rfl,s7,xD,rp,EV,Eg,?_,rfl,by omega⟩
     rw[List.append_assoc];exact heq
    |place h=>
     refine⟨_,rfl,_,_,_,_,rfl,rfl,aS.of h,bW,rfl,_,rfl,dh pC ⟨_,rfl,_,_,_,_,rfl,rfl,aS.of h,bW,rfl,_,rfl,dh pD ?_⟩⟩
     refine⟨_,by show bG its' < bG its'+1;omega,its',iJ,_,_,_,_,rfl,s7,xD,rp,EV,Eg,?_,rfl,by omega⟩
     rw[List.append_assoc];exact heq
    |@aa a1 bv b h hb=>
     have QV:T.size (.aa b:Tm)=b.size+1:=rfl
     refine⟨_,rfl,_,_,_,_,rfl,rfl,aS.of h,bW,rfl,_,rfl,ia rfl ?_⟩
     refine⟨_,rfl,Or.inl ⟨rfl,_,bp.of rp⟩,_,rfl,_,rfl,_,_,_,_,rfl,rfl,aS.of h,Sy,g,_,_,rfl,QJ,_,rfl,_,rfl,_,_,_,_,rfl,rfl,aS.of L5,gb,_,k1,rfl,hJ _ s7,az (by show 2<=1000000;decide),fun b9 H9 n9 s9 h9=>⟨_,_,_,rfl,rfl,s9 _ _ rp,small (by omega),fun gz iX gY=>?_⟩⟩
     have wo:bh [f,d] H7 gz:=(bh.of_same s9).trans (iX.sub (by simp))
     have e8:=wo.cM GA
     refine⟨_,?_,its'++[(b,k1+1)],_,_,_,_,_,rfl,bN s7 wo nL,iX.at (s9 _ _ xD) vA,gY,aJ ⟨b9,bv,rfl,iX.dS (s9 _ _ rp) _ _ h9,hb.mono e8⟩ (aq (fun a b h=>bB.mono h e8) EV),aq (fun a b h=>bB.mono h e8) Eg,?_,rfl,?_⟩
     ·rw[bF];show bG its'+b.size < bG its'+(b.size+1);omega
     ·rw[jo,List.append_assoc];exact heq
     ·rw[bF];show bG its'+b.size<=t.size;omega
    |@call a1 xv yv x y h hx hy=>
     have JW:T.size (.call x y:Tm)=x.size+y.size+1:=rfl
     refine⟨_,rfl,_,_,_,_,rfl,rfl,aS.of h,bW,rfl,_,rfl,dh m7 ⟨_,rfl,_,_,_,_,rfl,rfl,aS.of h,bW,rfl,_,rfl,ia rfl ?_⟩⟩
     refine⟨_,rfl,Or.inl ⟨rfl,_,bp.of rp⟩,_,rfl,_,_,_,_,rfl,rfl,aS.of h,at2,_,rfl,_,_,_,_,rfl,rfl,aS.of L5,gb,az (by show 2<=1000000;decide),fun b9 H9 n9 s9 h9=>⟨_,_,_,rfl,rfl,s9 _ _ rp,small (by omega),fun gz iX gY=>?_⟩⟩
     have wo:bh [f,d] H7 gz:=(bh.of_same s9).trans (iX.sub (by simp))
     have e8:=wo.cM GA
     have CC:=iX.at (s9 _ _ xD) vA
     have IP:=fM CC gY
     have Ih:=aJ (x:=V.ref b9) (y:=(y,k1)) ⟨b9,yv,rfl,iX.dS (s9 _ _ rp) _ _ h9,hy.mono e8⟩ (aq (fun a b h=>bB.mono h e8) EV)
     refine⟨_,rfl,Or.inl ⟨rfl,_,bp.of gY⟩,_,rfl,_,_,_,_,rfl,rfl,aS.of (e8 _ _ h),gb,_,rfl,_,_,_,_,rfl,rfl,aS.of (e8 _ _ L5),gb,az (by show 2<=1000000;decide),fun c9 GP m9 rP g9=>⟨_,_,_,rfl,rfl,rP _ _ gY,small (by rw[List.length_append,List.length_singleton];omega),fun Na ES IF=>?_⟩⟩
     have MZ:bh [f,d] gz Na:=(bh.of_same rP).trans (ES.sub (by simp))
     have wO:=MZ.cM IP
     refine⟨_,?_,(its'++[(y,k1)])++[(x,k1)],_,_,_,_,_,rfl,bN s7 (wo.trans MZ) nL,ES.at (rP _ _ CC) vA,IF,aJ ⟨c9,xv,rfl,ES.dS (rP _ _ gY) _ _ g9,(hx.mono e8).mono wO⟩ (aq (fun a b h=>bB.mono h wO) Ih),aq (fun a b h=>(bB.mono h e8).mono wO) Eg,?_,rfl,?_⟩
     ·rw[bF,bF];show bG its'+y.size+x.size < bG its'+(x.size+y.size+1);omega
     ·rw[jo,jo,List.append_assoc]
      show ps++((.call x y,k1)::(x.parts k1++(y.parts k1++pe its')))=_
      rw[<-heq]
      show _=ps++((.call x y,k1)::(x.parts k1++y.parts k1)++pe its')
      simp
     ·rw[bF,bF];show bG its'+y.size+x.size<=_;omega
abbrev di:Stmt:=top 3
theorem ve:a8 ["term"] ["term"] (aw di):=⟨rfl,rfl,rfl,by decide+kernel,rfl,by decide+kernel,by decide+kernel⟩
abbrev aM:Expr:=BH di 0 2
def aR:Str:=("parts_of":Str)++".<locals>."++"<lambda>"
theorem rY:gX ["form","forms"] [] (iV aM):=⟨rfl,rfl,rfl,by decide+kernel,by decide+kernel,by decide+kernel,by decide+kernel,by decide+kernel⟩
theorem Hz{f c:Addr}{pm je:Value}{J:Hp->Prop}(ho:base.get? f=some (PySem.W.kla_obj "<lambda>" aR (qc aM) (qb aM) (iV aM) [] pm c je))(hJ:∀H,J H->H c=some (dA c aR)):
  FV P w K mg base bK 1 f ["form","forms"] (Bt J):=by
 refine⟨_,_,_,_,yW (k:=0) (CX:=bK) (fvs:=[]) (fs:=[]) ho rY .nil ?_ ?_ ?_ ?_ ?_,ho,?_⟩
 ·intro x c' h;cases h
 ·intro x y c' h1 h2;cases h1
 ·intro vs H Q E h
  obtain⟨v,k,rfl,_⟩:=h
  rfl
 ·intro vs H Q E h
  obtain⟨v,k,rfl,j,_⟩:=h
  exact hJ _ j
 ·intro A outer s H vs Q E hr h
  obtain⟨v,n,rfl,hj,k⟩:=h
  exact⟨_,(bU gI (pv 1) ah),_,rfl,_,_,rfl,rfl,k⟩
 ·exact .all fun us hl=>match us,hl with|[_,_],_=>rfl
inductive AX(TL:cS)(vs:List V)(H:Hp)(Q:VK):Prop where
 |mk(v:_)(t:_)(c1:vs=[v])(c2:au H v t)(c3:t.size<=100000)(c4:TO TL H)(c5:∀l rs H',ST TL H H'->si (TL.map (·.1)) H H'->H l=none->H' l=some (.lst rs)->Paired (bB H') rs (t.parts 0)->Q (.ref l) H')
def qD(TL:cS):Sp:=fun vs H Q lK=>AX TL vs H Q
theorem vo{f c0 T0:Addr}{fd:FuncData}{TL:cS}(F:sj K "parts_of" "parts_of" di f fd c0)(hC:PySem.W.codeHdIn K c0 T0=true)(BB:fC base mg)(xO:xW TL)(hT:(T0,bz aM,aR)∈TL)
  (JD:GB P w K mg base bK 2 "walk" ["term","around","inward"] (tK 1 P w K mg)):cg P w K mg base bK 3 f fd ["term"] (qD TL):=by
 refine F.ok ve (fun vs H Q E h=>?_) (fun A outer s H vs Q E hr h=>?_)
 ·obtain⟨v,t,rfl,_⟩:=h
  rfl
 ·obtain⟨v,t,rfl,ht,hsz,to,k⟩:=h
  refine⟨_,(ai (aU (yu (E:=E0) JD (hr.mono (by decide)) rfl (fun _ _ _ _ _ _ _ _ h=>h.elim) (ak (pv 0) (ak ah (ak (BU (params:=qc aM) (body:=qb aM) (scope:=iV aM) (pos:=bz aM) (qual:=aR) (clos:=[]) rfl hC BB rfl rfl) aj)))))),?_⟩
  refine⟨_,rfl,to _ hT,fun f c H1 nf sx DU L0 xF sG=>⟨[f],fun b hb=>?_,fun cw lg=>?_⟩⟩
  ·rw[List.mem_singleton.mp hb]
   exact vO xF
  ·obtain⟨pm,je,ho⟩:=lg.ext f (by simp) _ xF
   have FH:=to.made xO hT sx DU sG
   have HE:c∉[f]:=fun z=>lg.ju c z _ L0
   refine⟨v,t,0,f,_,fun H=>H c=some (dA c aR),rfl,(ht.mono sx.cM).mono (mG lg.only),hsz,Hz ho (fun _ h=>h),fun H' s'=>s' _ _ (by rw[cy HE];exact L0),fun l rs H2 s2 nl ib EZ gone=>?_⟩
   have lf:l∉[f]:=fun z=>by rw[gone l z] at ib;cases ib
   rw[cy lf] at nl
   have tu:=mH (H:=H1) gone
   refine k l rs _ (.trans ⟨sx,FH⟩ (.of_same FH (vg s2))) ((si.HB sG (List.mem_map.mpr ⟨_,hT,rfl⟩)).trans (.of_same (vg s2))) (Ae sx DU sG nl) (by rw[du lf];exact ib) (aq (fun _ _ h=>bB.mono h tu) EZ)
abbrev gq:Stmt:=top 21
theorem eG:a8 ["_law_term","_law_row","_law_todo","_law_part","_law_deep"] ["_law_term"] (aw gq):=⟨rfl,rfl,rfl,by decide+kernel,rfl,by decide+kernel,by decide+kernel⟩
inductive xX(vs:List V)(H:Hp)(Q:VK):Prop where
 |mk(v:_)(t:_)(c1:vs=[v])(c2:au H v t)(c3:t.size<=100000)(c4:∀l rs H',aQ H H'->H l=none->H' l=some (.lst rs)->Paired (bB H') rs (t.bq 0).reverse->Q (.ref l) H')
def iQ:Sp:=fun vs H Q lK=>xX vs H Q
inductive yd(H:Hp)(v:V)(t:Tm)(f d:Addr)(m:Nat)(σ:L2.St)(H':Hp):Prop where
 |mk(aN:_)(xs:_)(fs:_)(ps:_)(x3:_)(x4:_)(c1:σ=[some v,some (.ref f),some (.ref d),x3,x4])(c2:aQ H H')(c3:H' f=some (.lst fs))(c4:H' d=some (.lst xs))(c5:Paired (bB H') xs aN)(c6:Paired (bB H') fs ps)(c7:ps++pf aN=t.bq 0)(c8:m=bG aN)(c9:bG aN<=t.size)
def tf(H:Hp)(v:V)(t:Tm)(f d:Addr)(m:Nat)(σ:L2.St)(H':Hp):Prop:=yd H v t f d m σ H'
theorem r6{f:Addr}{fd:FuncData}(F:jS K "_law_parts" "_law_parts" gq f fd)(N_:cV mg):cg P w K mg base bK 1 f fd ["_law_term"] iQ:=by
 refine F.ok eG (fun vs H Q E h=>?_) (fun fx A outer s H vs Q E hr h=>?_)
 ·obtain⟨v,t,rfl,_⟩:=h
  rfl
 ·obtain⟨v,t,rfl,ht,hsz,k⟩:=h
  have lP:=hr.qu
  refine⟨_,(ag (aE (i:=1) eG.nd rfl (Or.inl rfl) (et aj))
   (ag (aE (i:=2) eG.nd rfl (Or.inl rfl) (et (ak (cB (ak (pv 0) (ak ah aj))) aj)))
   (ag (dY PassesOwn.never (ax (gG lP) (pv 2) (et aj) (aA _)) (ag (BL (iA (pv 2)) (oO rfl (dF (cU (i:=3) eG.nd rfl (Or.inl rfl)) (dF (cU (i:=4) eG.nd rfl (Or.inl rfl)) kP))))
   (ag (a0 (eA (pv 1) (cB (ak (pv 3) (ak (pv 4) aj)))))
   (ag (bj (ax bC (aD ay (pv 3) ah (fun _ _=>rfl)) aC (aA _)) (ai (a0 (eA (pv 2) (cB (ak (aD ay (pv 3) ah (fun _ _=>rfl)) (ak (bU gI (pv 4) ah) aj)))))) aZ)
   (ai (bj (ax bC (aD ay (pv 3) ah (fun _ _=>rfl)) aC (aA _)) (ag (a0 (eA (pv 2) (cB (ak (aD ay (pv 3) ah (fun _ _=>rfl)) (ak (pv 4) aj)))))
   (ai (a0 (eA (pv 2) (cB (ak (aD ay (pv 3) ah (fun _ _=>rfl)) (ak (pv 4) aj))))))) aZ))))))
   (ai (aU (Ek hr.hd rfl N_.reversed rfl N_.list (pv 1))))))),?_⟩
  show(let cP:TS:=_;let dj:TS:=_;let eW:TS:=aL _ dj;let fy:TS:=bS _ eW _;let fW:TS:=_;let iI:TS:=aL (bS _ fW _) fy;let kE:TS:=aL _ iI;let kD:TS:=aL _ kE;let lJ:TS:=aL (gc _ kD) cP;let eD:TS:=aL _ lJ;aL _ eD _ _ _)
  intro cP dj eW fy fW iI kE kD lJ eD
  refine⟨az (by simp),fun f H1 nf s1 xF=>⟨_,rfl,az (by simp),fun q H3 nq s3 IA=>⟨az (by simp),fun d H4 nd s4 E4=>?_⟩⟩⟩
  have zK:aQ H H4:=(s1.trans s3).trans s4
  have LW:H4 f=some (.lst []):=s4 _ _ (s3 _ _ xF)
  have vA:f≠d:=aY (s3 _ _ xF) nd
  have JN:H f=none:=nf
  have Bb:H d=none:=(s1.trans s3).free nd
  have nL:∀x∈[f,d],H x=none:=fun x hx=>by
   rcases List.mem_cons.mp hx with e|hx
   ·rw[e];exact JN
   ·rw[List.mem_singleton.mp hx];exact Bb
  refine⟨tf H v t f d,⟨bG [(t,0)],?_⟩,?_⟩
  ·refine⟨[(t,0)],[.ref q],[],[],none,none,rfl,zK,LW,E4,.cons ⟨q,v,rfl,s4 _ _ IA,ht.same zK⟩ .nil,.nil,?_,rfl,?_⟩
   ·show[]++(t.bq 0++[])=_
    rw[List.append_nil,List.nil_append]
   ·show t.size+0<=t.size
    omega
  ·rintro m σ H5 ⟨aN,xs,fs,ps,x3,x4,rfl,s5,DI,qg,hit,wC,heq,rfl,fO⟩
   refine⟨_,rfl,az (by simp),fun e0 Dy Tr vi LY=>⟨_,_,_,rfl,rfl,bp.of (vi _ _ qg),bp.of LY,_,rfl,?_⟩⟩
   have xE:=vi _ _ DI
   have pL:=vi _ _ qg
   have hit:=aq (fun a b h=>bB.mono h (.of_same vi)) hit
   have wC:=aq (fun a b h=>bB.mono h (.of_same vi)) wC
   have s5:=s5.trans vi
   clear DI qg
   by_cases lE:aN=[]
   ·subst lE
    cases cC hit
    have e:ps=t.bq 0:=by rw[<-heq];unfold pf;simp
    subst e
    refine cf ⟨_,rfl,_,_,rfl,bp.of xE,fun l nl=>?_⟩
    have sm:aQ Dy (upd Dy l (.lst fs.reverse)):=bZ nl
    exact k l _ _ (s5.trans sm) (s5.free nl) aH (gF (aq (fun a b h=>bB.mono h (.of_same sm)) wC))
   ·obtain⟨its',⟨t1,k1⟩,rfl⟩:=fS lE
    obtain⟨iJ,x,rfl,uk,a,tv,rfl,ha,pI⟩:=bo hit
    have pI:au Dy tv t1:=pI
    rw[show(if true=true then !(iJ++[V.ref a]).isEmpty else (iJ++[V.ref a]).isEmpty)=true by simp]
    refine fu ⟨fun σ' H'=>∃m',m' < bG (its'++[(t1,k1)])/\tf H v t f d m' σ' H',fun _ _ h=>h,?_⟩
    refine⟨_,rfl,Or.inl ⟨rfl,_,bp.of pL⟩,d,iJ,.ref a,rfl,rfl,pL,fun H6 k6 jW=>?_⟩
    have hL:=fM xE pL
    have K6:bh [f,d] Dy H6:=k6.sub (by simp)
    have tG:=K6.cM hL
    have Gy:=tG _ _ ha
    have Cu:=pI.mono tG
    have wF:H6 f=some (.lst fs):=k6.at xE vA
    have s6:aQ H H6:=bN s5 K6 nL
    have qd:=aq (fun a b h=>bB.mono h tG) uk
    have BM:=aq (fun a b h=>bB.mono h tG) wC
    have Bg:=fM wF jW
    rw[jq] at heq
    rw[bF] at fO
    rw[bF]
    have Bc:iJ.length<=t.size:=by
     rw[Paired.length qd]
     have:=mj its'
     have h1:bG its'+t1.size<=t.size:=fO
     omega
    have UI:fs.length<=t.size:=by
     rw[Paired.length BM]
     have h1:=congrArg List.length heq
     rw[List.length_append,cD] at h1
     omega
    have NB:bG its'+t1.size<=t.size:=fO
    refine⟨a,_,rfl,aS.of Gy,rfl,_,_,rfl,_,_,rfl,rfl,?_⟩
    refine⟨_,rfl,Or.inl ⟨rfl,_,bp.of wF⟩,_,rfl,_,rfl,az (by show 2<=1000000;decide),fun p9 H9 np9 Np jN=>⟨_,_,_,rfl,rfl,Np _ _ wF,small (by omega),fun H7 k7 xD=>?_⟩⟩
    have K7:bh [f,d] H6 H7:=(bh.of_same Np).trans (k7.sub (by simp))
    have rp:H7 d=some (.lst iJ):=k7.at (Np _ _ jW) vA.symm
    have DF:=K7.cM Bg
    have Ct:=Cu.mono DF
    have s7:aQ H H7:=bN s6 K7 nL
    have EV:=aq (fun a b h=>bB.mono h DF) qd
    have Eg:=aJ (x:=V.ref p9) (y:=(t1,k1)) ⟨p9,tv,rfl,k7.dS (Np _ _ wF) _ _ jN,Ct⟩ (aq (fun a b h=>bB.mono h DF) BM)
    have GA:=fM xD rp
    have heq:ps++(t1.bq k1++pf its')=t.bq 0:=heq
    cases Ct with
    |name h=>
     refine⟨_,rfl,_,_,_,_,rfl,rfl,aS.of h,bW,rfl,_,rfl,dh pE ⟨_,rfl,_,_,_,_,rfl,rfl,aS.of h,bW,rfl,_,rfl,dh pF ?_⟩⟩
     refine⟨_,by show bG its' < bG its'+1;omega,its',iJ,_,_,_,_,rfl,s7,xD,rp,EV,Eg,?_,rfl,by omega⟩
     rw[List.append_assoc];exact heq
    |place h=>
     refine⟨_,rfl,_,_,_,_,rfl,rfl,aS.of h,bW,rfl,_,rfl,dh pC ⟨_,rfl,_,_,_,_,rfl,rfl,aS.of h,bW,rfl,_,rfl,dh pD ?_⟩⟩
     refine⟨_,by show bG its' < bG its'+1;omega,its',iJ,_,_,_,_,rfl,s7,xD,rp,EV,Eg,?_,rfl,by omega⟩
     rw[List.append_assoc];exact heq
    |@aa a1 bv b h hb=>
     have QV:T.size (.aa b:Tm)=b.size+1:=rfl
     refine⟨_,rfl,_,_,_,_,rfl,rfl,aS.of h,bW,rfl,_,rfl,ia rfl ?_⟩
     refine⟨_,rfl,Or.inl ⟨rfl,_,bp.of rp⟩,_,rfl,_,_,_,_,rfl,rfl,aS.of h,gb,_,rfl,_,_,rfl,rfl,az (by show 2<=1000000;decide),fun b9 H9 n9 s9 h9=>⟨_,_,_,rfl,rfl,s9 _ _ rp,small (by omega),fun gz iX gY=>?_⟩⟩
     have wo:bh [f,d] H7 gz:=(bh.of_same s9).trans (iX.sub (by simp))
     have e8:=wo.cM GA
     refine⟨_,rfl,_,_,_,_,rfl,rfl,aS.of (e8 _ _ h),bW,rfl,_,rfl,dh vB ?_⟩
     refine⟨_,?_,its'++[(b,k1+1)],_,_,_,_,_,rfl,bN s7 wo nL,iX.at (s9 _ _ xD) vA,gY,aJ ⟨b9,bv,rfl,iX.dS (s9 _ _ rp) _ _ h9,hb.mono e8⟩ (aq (fun a b h=>bB.mono h e8) EV),aq (fun a b h=>bB.mono h e8) Eg,?_,rfl,?_⟩
     ·rw[bF];show bG its'+b.size < bG its'+(b.size+1);omega
     ·rw[jq,List.append_assoc];exact heq
     ·rw[bF];show bG its'+b.size<=t.size;omega
    |@call a1 xv yv x y h hx hy=>
     have JW:T.size (.call x y:Tm)=x.size+y.size+1:=rfl
     refine⟨_,rfl,_,_,_,_,rfl,rfl,aS.of h,bW,rfl,_,rfl,dh m7 ⟨_,rfl,_,_,_,_,rfl,rfl,aS.of h,bW,rfl,_,rfl,ia rfl ?_⟩⟩
     refine⟨_,rfl,Or.inl ⟨rfl,_,bp.of rp⟩,_,rfl,_,_,_,_,rfl,rfl,aS.of h,gb,_,rfl,az (by show 2<=1000000;decide),fun b9 H9 n9 s9 h9=>⟨_,_,_,rfl,rfl,s9 _ _ rp,small (by omega),fun gz iX gY=>?_⟩⟩
     have wo:bh [f,d] H7 gz:=(bh.of_same s9).trans (iX.sub (by simp))
     have e8:=wo.cM GA
     have CC:=iX.at (s9 _ _ xD) vA
     have IP:=fM CC gY
     have Ih:=aJ (x:=V.ref b9) (y:=(x,k1)) ⟨b9,xv,rfl,iX.dS (s9 _ _ rp) _ _ h9,hx.mono e8⟩ (aq (fun a b h=>bB.mono h e8) EV)
     refine⟨_,rfl,Or.inl ⟨rfl,_,bp.of gY⟩,_,rfl,_,_,_,_,rfl,rfl,aS.of (e8 _ _ h),at2,_,rfl,az (by show 2<=1000000;decide),fun c9 GP m9 rP g9=>⟨_,_,_,rfl,rfl,rP _ _ gY,small (by rw[List.length_append,List.length_singleton];omega),fun Na ES IF=>?_⟩⟩
     have MZ:bh [f,d] gz Na:=(bh.of_same rP).trans (ES.sub (by simp))
     have wO:=MZ.cM IP
     refine⟨_,?_,(its'++[(x,k1)])++[(y,k1)],_,_,_,_,_,rfl,bN s7 (wo.trans MZ) nL,ES.at (rP _ _ CC) vA,IF,aJ ⟨c9,yv,rfl,ES.dS (rP _ _ gY) _ _ g9,(hy.mono e8).mono wO⟩ (aq (fun a b h=>bB.mono h wO) Ih),aq (fun a b h=>(bB.mono h e8).mono wO) Eg,?_,rfl,?_⟩
     ·rw[bF,bF];show bG its'+x.size+y.size < bG its'+(x.size+y.size+1);omega
     ·rw[jq,jq,List.append_assoc]
      show ps++((.call x y,k1)::(y.bq k1++(x.bq k1++pf its')))=_
      rw[<-heq]
      show _=ps++((.call x y,k1)::(y.bq k1++x.bq k1)++pf its')
      simp
     ·rw[bF,bF];show bG its'+x.size+y.size<=_;omega
end
def gg(H:Hp)(p:Addr)(vs:List V)(S:List Tm):Prop:=H p=some (.lst vs)/\Paired (au H) vs S.reverse
theorem gg.pop{H:Hp}{p:Addr}{vs:List V}{S:List Tm}{x:Tm}(h:gg H p vs (x::S)):∃my v,vs=my++[v]/\au H v x/\Paired (au H) my S.reverse:=by
 have q:=h.2
 rw[List.reverse_cons] at q
 obtain⟨my,v,e,r,tv⟩:=bo q
 exact⟨my,v,e,tv,r⟩
theorem gg.same{H H':Hp}{p:Addr}{vs:List V}{S:List Tm}(h:gg H p vs S)(s:aQ H H'):gg H' p vs S:=⟨s _ _ h.1,aq (fun _ _ q=>q.same s) h.2⟩
theorem bb{H H':Hp}{p:Addr}{vs:List V}(k:bh [p] H H')(h:H p=some (.lst vs)):bY H H':=fun b xs q=>k b _ (fun z=>by rw[List.mem_singleton.mp z,h] at q;cases q) q
theorem gg.len{H:Hp}{p:Addr}{vs:List V}{S:List Tm}(h:gg H p vs S):vs.length=S.length:=by rw[Paired.length h.2,List.length_reverse]
theorem cN{H H':Hp}{p:Addr}{vs:List V}{us:List V}{S:List Tm}(q:Paired (au H) us S)(k:bh [p] H H')(h:H p=some (.lst vs)):Paired (au H') us S:=aq (fun _ _ z=>z.mono (bb k h)) q
section
variable {P:Program}{w:World}{K:W.Frag}{mg:Str->Option Value}{base:Heap}
seal L2.PE L2.PA L2.PT L2.PS L2.nZ L2.PW L2.PG L2.uW L2.PI L2.PO L2.gy L2.wc L2.cE L2.mw L2.rS L2.rR
abbrev fT:Stmt:=top 22
theorem cj:a8 ["_law_term","_law_by","_law_pile","_law_part","_law_deep","_law_made","_law_other"] ["_law_term","_law_by"] (aw fT):=⟨rfl,rfl,rfl,by decide+kernel,rfl,by decide+kernel,by decide+kernel⟩
inductive wj(vs:List V)(H:Hp)(Q:VK):Prop where
 |mk(v:_)(t:_)(m:Nat)(c1:vs=[v,.int (m:Int)])(c2:au H v t)(c3:t.size<=100000)(c4:∀v' H',aQ H H'->au H' v' (t.lift m)->Q v' H')
def lY:Sp:=fun vs H Q lK=>wj vs H Q
inductive wt(g:Tm->Nat->Tm)(H:Hp)(v u:V)(t:Tm)(p l:Addr)(rs:List V)(i:Nat)(σ:L2.St)(H':Hp):Prop where
 |mk(vs:_)(S:_)(x3:_)(x4:_)(x5:_)(x6:_)(c1:σ=[some v,some u,some (.ref p),x3,x4,x5,x6])(c2:aQ H H')(c3:gg H' p vs S)(c4:H' l=some (.lst rs))(c5:Paired (bB H') rs (t.bq 0).reverse)(c6:S.length<=i)(c7:eI g ((t.bq 0).reverse.drop i) S=some [t.ae g 0])
def jG(g:Tm->Nat->Tm)(H:Hp)(v u:V)(t:Tm)(p l:Addr)(rs:List V)(i:Nat)(σ:L2.St)(H':Hp):Prop:=wt g H v u t p l rs i σ H'
theorem qT{f:Addr}{fd:FuncData}(F:jS K "_law_raised" "_law_raised" fT f fd)(cO:GF P w K mg base bK 1 "_law_parts" ["_law_term"] iQ):cg P w K mg base bK 2 f fd ["_law_term","_law_by"] lY:=by
 refine F.ok cj (fun vs H Q E h=>?_) (fun fx A outer s H vs Q E hr h=>?_)
 ·obtain⟨v,t,m,rfl,_⟩:=h
  rfl
 ·obtain⟨v,t,m,rfl,ht,hsz,k⟩:=h
  refine⟨_,(ag (aE (i:=2) cj.nd rfl (Or.inl rfl) (et aj))
   (ag (iu PassesOwn.never rfl (pY (cA cO (hr.mono (by decide)) rfl bt (ak (pv 0) aj))) (oO rfl (dF (cU (i:=3) cj.nd rfl (Or.inl rfl)) (dF (cU (i:=4) cj.nd rfl (Or.inl rfl)) kP))) (ag (aE (i:=5) cj.nd rfl (Or.inl rfl) (pv 3))
   (ag (bj (ax bC (aD ay (pv 3) ah (fun _ _=>rfl)) aC (aA _)) (ai (aE (i:=5) cj.nd rfl (Or.inl rfl) (cB (ak aC (ak (iA (pv 2)) aj))))) (ai (bj (ax bC (aD ay (pv 3) ah (fun _ _=>rfl)) aC (aA _)) (ag (aE (i:=6) cj.nd rfl (Or.inl rfl) (iA (pv 2)))
   (ai (aE (i:=5) cj.nd rfl (Or.inl rfl) (cB (ak aC (ak (iA (pv 2)) (ak (pv 6) aj))))))) (ai (bj (PW.pt (ei (ax bC (aD ay (pv 3) ah (fun _ _=>rfl)) aC (aA _)) (dt (ax B4 (aD ay (pv 3) ah (fun _ _=>rfl)) (pv 4) (aA _))))) (ai (aE (i:=5) cj.nd rfl (Or.inl rfl) (cB (ak aC (ak (bU gI (aD ay (pv 3) ah (fun _ _=>rfl)) (pv 1)) aj))))) aZ)))))
   (ai (a0 (eA (pv 2) (pv 5)))))))
   (ai (aU (aD ee (pv 2) ah (fun _ _=>rfl)))))),?_⟩
  show(let cP:TS:=_;let dj:TS:=_;let eW:TS:=_;let fy:TS:=_;let fW:TS:=aL _ fy;let iI:TS:=_;let kE:TS:=bS _ iI _;let kD:TS:=bS _ fW kE;let lJ:TS:=aL (bS _ eW kD) dj;let eD:TS:=aL _ lJ;let fb:TS:=aL (qz _ _ eD) cP;aL _ fb _ _ _)
  intro cP dj eW fy fW iI kE kD lJ eD fb
  refine⟨az (by simp),fun p H1 np s1 Be=>⟨_,rfl,v,t,rfl,ht.same s1,hsz,fun l rs H2 s2 nl ib EZ=>?_⟩⟩
  have HF:p≠l:=aY Be nl
  have hlen:rs.length=t.size:=by rw[Paired.length EZ,List.length_reverse,cD]
  refine⟨l,rfl,⟨_,bp.of ib⟩,nI (K:=K) (a:=l) (xs:=rs) (jG (aO m) H v (.int m) t p l rs) ?_ ?_ ?_ ?_⟩
  ·exact⟨[],[],none,none,none,none,rfl,s1.trans s2,⟨s2 _ _ Be,.nil⟩,ib,EZ,Nat.le_refl _,qK t⟩
  ·rintro i σ H' _ ⟨_,_,_,_,_,_,_,_,_,h,_⟩
   exact bp.of h
  ·rintro i x σ H3 hi ⟨vs,S,x3,x4,x5,x6,rfl,s3,cH,Cy,Cw,hS,cq⟩
   obtain⟨⟨t1,k1⟩,AE,a,tv,rfl,ha,pI⟩:=cm Cw hi
   have pI:au H3 tv t1:=pI
   have eB:i < t.size:=by
    have:=(List.getElem?_eq_some_iff.mp hi).1
    omega
   have hd:(t.bq 0).reverse.drop i=(t1,k1)::(t.bq 0).reverse.drop (i+1):=by
    rw[List.drop_eq_getElem_cons (List.getElem?_eq_some_iff.mp AE).1,(List.getElem?_eq_some_iff.mp AE).2]
   rw[hd] at cq
   refine⟨a,_,rfl,aS.of ha,rfl,_,_,rfl,_,_,rfl,rfl,?_⟩
   refine⟨_,rfl,?_⟩
   -- pile.append(made)
   have fin:∀{H7:Hp}{wK:List V}{S7:List Tm}{u:V}{y:Tm}{x6:Option V},bh [p] H3 H7->H7 p=some (.lst wK)->Paired (au H7) wK S7.reverse->au H7 u y->S7.length<=i->eI (aO m) ((t.bq 0).reverse.drop (i+1)) (y::S7)=some [t.ae (aO m) 0]->
     ∀H8,bh [p] H7 H8->H8 p=some (.lst (wK++[u]))->jG (aO m) H v (.int m) t p l rs (i+1) [some v,some (.int m),some (.ref p),some tv,some (.int (k1:Int)),some u,x6] H8:=by
    intro H7 wK S7 u y x6 k7 pJ q7 hu UQ vK H8 k8 iY
    have Ie:=k7.trans k8
    have GV:bY H3 H8:=bb Ie cH.1
    refine⟨_,y::S7,_,_,_,_,rfl,bN s3 Ie fun x hx=>by rw[List.mem_singleton.mp hx];exact np,⟨iY,?_⟩,Ie.at Cy HF.symm,aq (fun _ _ z=>bB.mono z GV) Cw,by rw[List.length_cons];omega,vK⟩
    rw[List.reverse_cons]
    exact aJ (hu.mono (bb k8 pJ)) (cN q7 k8 pJ)
   cases pI with
   |name h=>
    refine⟨_,rfl,_,_,_,_,rfl,rfl,aS.of h,bW,rfl,_,rfl,dh pE ⟨_,rfl,_,_,_,_,rfl,rfl,aS.of h,bW,rfl,_,rfl,dh pF ⟨_,rfl,_,_,_,_,rfl,rfl,aS.of h,bW,rfl,_,rfl,dh Ab (cf ?_)⟩⟩⟩
    refine⟨_,rfl,Or.inl ⟨rfl,_,bp.of cH.1⟩,_,rfl,_,_,_,rfl,rfl,cH.1,small (by have:=cH.len;omega),fun H8 k8 iY=>?_⟩
    exact fin (bh.refl _ _) cH.1 cH.2 (.name h) hS cq H8 k8 iY
   |@place a1 n h=>
    refine⟨_,rfl,_,_,_,_,rfl,rfl,aS.of h,bW,rfl,_,rfl,dh pC ⟨_,rfl,_,_,_,_,rfl,rfl,aS.of h,bW,rfl,_,rfl,dh pD ⟨_,rfl,_,_,_,_,rfl,rfl,aS.of h,bW,rfl,_,rfl,ia rfl ⟨_,rfl,_,_,_,_,rfl,rfl,aS.of h,gb,_,rfl,_,_,rfl,rfl,_,rfl,uj (fun yQ=>?_) (fun eB=>?_)⟩⟩⟩⟩
    ·have yQ:k1<=n:=by omega
     refine⟨_,rfl,_,_,_,_,rfl,rfl,aS.of h,gb,_,rfl,_,_,rfl,rfl,az (by show 2<=1000000;decide),fun b9 H9 n9 s9 h9=>?_⟩
     have jN:=s9 _ _ cH.1
     refine⟨_,rfl,Or.inl ⟨rfl,_,bp.of jN⟩,_,rfl,_,_,_,rfl,rfl,jN,small (by have:=cH.len;omega),fun H8 k8 iY=>?_⟩
     refine fin (bh.of_same s9) jN (aq (fun _ _ q=>q.same s9) cH.2) (.place (n:=n+m) h9) hS ?_ H8 k8 iY
     have e:aO m (.place n:Tm) k1= .place (n+m):=by show(if k1<=n then T.place (n+m) else T.place n:Tm)=_;rw[if_pos yQ]
     rw[<-e]
     exact cq
    ·have eB:¬k1<=n:=by omega
     refine⟨_,rfl,Or.inl ⟨rfl,_,bp.of cH.1⟩,_,rfl,_,_,_,rfl,rfl,cH.1,small (by have:=cH.len;omega),fun H8 k8 iY=>?_⟩
     refine fin (bh.refl _ _) cH.1 cH.2 (.place h) hS ?_ H8 k8 iY
     have e:aO m (.place n:Tm) k1= .place n:=by show(if k1<=n then T.place (n+m) else T.place n:Tm)=_;rw[if_neg eB]
     have e2:eI (aO m) ((t.bq 0).reverse.drop (i+1)) (aO m (.place n) k1::S)=some [t.ae (aO m) 0]:=cq
     rw[e] at e2
     exact e2
   |@aa a1 bv b h hb=>
    obtain⟨x,S',rfl,cq⟩:=oK cq
    obtain⟨my,u,rfl,hu,gf⟩:=cH.pop
    refine⟨_,rfl,_,_,_,_,rfl,rfl,aS.of h,bW,rfl,_,rfl,ia rfl ?_⟩
    refine⟨_,rfl,Or.inl ⟨rfl,_,bp.of cH.1⟩,p,my,u,rfl,rfl,cH.1,fun H6 k6 iC=>⟨az (by show 2<=1000000;decide),fun b9 H9 n9 s9 h9=>?_⟩⟩
    have jN:=s9 _ _ iC
    have pj:=k6.trans (bh.of_same s9)
    have ln:=cH.len
    rw[List.length_append,List.length_singleton,List.length_cons] at ln
    rw[List.length_cons] at hS
    refine⟨_,rfl,Or.inl ⟨rfl,_,bp.of jN⟩,_,rfl,_,_,_,rfl,rfl,jN,small (by omega),fun H8 k8 iY=>?_⟩
    exact fin pj jN (cN gf pj cH.1) (.aa h9 (hu.mono (bb pj cH.1))) (by omega) cq H8 k8 iY
   |@call a1 xv yv x y h hx hy=>
    obtain⟨y,x,S',rfl,cq⟩:=oM cq
    obtain⟨FE,u,rfl,hu,Lp⟩:=cH.pop
    refine⟨_,rfl,_,_,_,_,rfl,rfl,aS.of h,bW,rfl,_,rfl,dh m7 ⟨_,rfl,_,_,_,_,rfl,rfl,aS.of h,bW,rfl,_,rfl,ia rfl ?_⟩⟩
    refine⟨_,rfl,Or.inl ⟨rfl,_,bp.of cH.1⟩,p,FE,u,rfl,rfl,cH.1,fun H6 k6 iC=>?_⟩
    have P6:gg H6 p FE (x::S'):=⟨iC,cN Lp k6 cH.1⟩
    obtain⟨my,z,rfl,hz,gf⟩:=P6.pop
    refine⟨_,rfl,Or.inl ⟨rfl,_,bp.of iC⟩,p,my,z,rfl,rfl,iC,fun H7 k7 pJ=>⟨_,rfl,az (by show 3<=1000000;decide),fun b9 H9 n9 s9 h9=>?_⟩⟩
    have jN:=s9 _ _ pJ
    have Cq:=k7.trans (bh.of_same s9)
    have pj:=k6.trans Cq
    have ln:=cH.len
    rw[List.length_append,List.length_append,List.length_singleton,List.length_singleton,List.length_cons,List.length_cons] at ln
    rw[List.length_cons,List.length_cons] at hS
    refine⟨_,rfl,Or.inl ⟨rfl,_,bp.of jN⟩,_,rfl,_,_,_,rfl,rfl,jN,small (by omega),fun H8 k8 iY=>?_⟩
    exact fin pj jN (cN gf Cq iC) (.call h9 (hz.mono (bb Cq iC)) (hu.mono (bb pj cH.1))) (by omega) cq H8 k8 iY
  ·rintro σ H3 ⟨vs,S,x3,x4,x5,x6,rfl,s3,cH,Cy,Cw,hS,cq⟩
   rw[List.drop_eq_nil_of_le (by rw[List.length_reverse,cD,hlen];exact Nat.le_refl _)] at cq
   cases(Option.some.inj cq)
   obtain⟨my,u,rfl,hu,gf⟩:=cH.pop
   cases cC gf
   exact⟨_,rfl,_,_,_,_,rfl,rfl,bp.of cH.1,bW,k u H3 s3 hu⟩
abbrev fh:Stmt:=top 23
theorem bM:a8 ["_law_body","_law_given","_law_pile","_law_part","_law_deep","_law_made","_law_other"] ["_law_body","_law_given"] (aw fh):=⟨rfl,rfl,rfl,by decide+kernel,rfl,by decide+kernel,by decide+kernel⟩
inductive uI(vs:List V)(H:Hp)(Q:VK):Prop where
 |mk(v:_)(t:_)(u:_)(r:_)(c1:vs=[v,u])(c2:au H v t)(c3:au H u r)(c4:t.size<=100000)(c5:r.size<=100000)(c6:∀v' H',aQ H H'->au H' v' (t.fill r)->Q v' H')
def ke:Sp:=fun vs H Q lK=>uI vs H Q
theorem pz{f:Addr}{fd:FuncData}(F:jS K "_law_stuffed" "_law_stuffed" fh f fd)(cO:GF P w K mg base bK 1 "_law_parts" ["_law_term"] iQ)(iG:GF P w K mg base bK 2 "_law_raised" ["_law_term","_law_by"] lY):cg P w K mg base bK 3 f fd ["_law_body","_law_given"] ke:=by
 refine F.ok bM (fun vs H Q E h=>?_) (fun fx A outer s H vs Q E hr h=>?_)
 ·obtain⟨v,t,u0,r,rfl,_⟩:=h
  rfl
 ·obtain⟨v,t,u0,r,rfl,ht,PY,hsz,Iq,k⟩:=h
  refine⟨_,(ag (aE (i:=2) bM.nd rfl (Or.inl rfl) (et aj))
   (ag (iu PassesOwn.never rfl (pY (cA cO (hr.mono (by decide)) rfl bt (ak (pv 0) aj))) (oO rfl (dF (cU (i:=3) bM.nd rfl (Or.inl rfl)) (dF (cU (i:=4) bM.nd rfl (Or.inl rfl)) kP))) (ag (aE (i:=5) bM.nd rfl (Or.inl rfl) (pv 3))
   (ag (bj (ax bC (aD ay (pv 3) ah (fun _ _=>rfl)) aC (aA _)) (ai (aE (i:=5) bM.nd rfl (Or.inl rfl) (cB (ak aC (ak (iA (pv 2)) aj))))) (ai (bj (ax bC (aD ay (pv 3) ah (fun _ _=>rfl)) aC (aA _)) (ag (aE (i:=6) bM.nd rfl (Or.inl rfl) (iA (pv 2)))
   (ai (aE (i:=5) bM.nd rfl (Or.inl rfl) (cB (ak aC (ak (iA (pv 2)) (ak (pv 6) aj))))))) (ai (bj (PW.pt (ei (ax bC (aD ay (pv 3) ah (fun _ _=>rfl)) aC (aA _)) (dt (ax bC (aD ay (pv 3) ah (fun _ _=>rfl)) (pv 4) (aA _))))) (ai (aE (i:=5) bM.nd rfl (Or.inl rfl) (cA iG (hr.mono (by decide)) rfl bt (ak (pv 1) (ak (pv 4) aj))))) (ai (bj (PW.pt (ei (ax bC (aD ay (pv 3) ah (fun _ _=>rfl)) aC (aA _)) (dt (ax mY (aD ay (pv 3) ah (fun _ _=>rfl)) (pv 4) (aA _))))) (ai (aE (i:=5) bM.nd rfl (Or.inl rfl) (cB (ak aC (ak (bU mi (aD ay (pv 3) ah (fun _ _=>rfl)) ah) aj))))) aZ)))))))
   (ai (a0 (eA (pv 2) (pv 5)))))))
   (ai (aU (aD ee (pv 2) ah (fun _ _=>rfl)))))),?_⟩
  show(let cP:TS:=_;let dj:TS:=_;let eW:TS:=_;let fy:TS:=_;let fW:TS:=aL _ fy;let iI:TS:=_;let kE:TS:=_;let kD:TS:=bS _ kE _;let lJ:TS:=bS _ iI kD;let eD:TS:=bS _ fW lJ;let fb:TS:=aL (bS _ eW eD) dj;let kG:TS:=aL _ fb;let kF:TS:=aL (qz _ _ kG) cP;aL _ kF _ _ _)
  intro cP dj eW fy fW iI kE kD lJ eD fb kG kF
  refine⟨az (by simp),fun p H1 np s1 Be=>⟨_,rfl,v,t,rfl,ht.same s1,hsz,fun l rs H2 s2 nl ib EZ=>?_⟩⟩
  have HF:p≠l:=aY Be nl
  have hlen:rs.length=t.size:=by rw[Paired.length EZ,List.length_reverse,cD]
  refine⟨l,rfl,⟨_,bp.of ib⟩,nI (K:=K) (a:=l) (xs:=rs) (jG (aK r) H v u0 t p l rs) ?_ ?_ ?_ ?_⟩
  ·exact⟨[],[],none,none,none,none,rfl,s1.trans s2,⟨s2 _ _ Be,.nil⟩,ib,EZ,Nat.le_refl _,qK t⟩
  ·rintro i σ H' _ ⟨_,_,_,_,_,_,_,_,_,h,_⟩
   exact bp.of h
  ·rintro i x σ H3 hi ⟨vs,S,x3,x4,x5,x6,rfl,s3,cH,Cy,Cw,hS,cq⟩
   obtain⟨⟨t1,k1⟩,AE,a,tv,rfl,ha,pI⟩:=cm Cw hi
   have pI:au H3 tv t1:=pI
   have eB:i < t.size:=by
    have:=(List.getElem?_eq_some_iff.mp hi).1
    omega
   have hd:(t.bq 0).reverse.drop i=(t1,k1)::(t.bq 0).reverse.drop (i+1):=by
    rw[List.drop_eq_getElem_cons (List.getElem?_eq_some_iff.mp AE).1,(List.getElem?_eq_some_iff.mp AE).2]
   rw[hd] at cq
   refine⟨a,_,rfl,aS.of ha,rfl,_,_,rfl,_,_,rfl,rfl,?_⟩
   refine⟨_,rfl,?_⟩
   -- pile.append(made)
   have fin:∀{H7:Hp}{wK:List V}{S7:List Tm}{u:V}{y:Tm}{x6:Option V},bh [p] H3 H7->H7 p=some (.lst wK)->Paired (au H7) wK S7.reverse->au H7 u y->S7.length<=i->eI (aK r) ((t.bq 0).reverse.drop (i+1)) (y::S7)=some [t.ae (aK r) 0]->
     ∀H8,bh [p] H7 H8->H8 p=some (.lst (wK++[u]))->jG (aK r) H v u0 t p l rs (i+1) [some v,some u0,some (.ref p),some tv,some (.int (k1:Int)),some u,x6] H8:=by
    intro H7 wK S7 u y x6 k7 pJ q7 hu UQ vK H8 k8 iY
    have Ie:=k7.trans k8
    have GV:bY H3 H8:=bb Ie cH.1
    refine⟨_,y::S7,_,_,_,_,rfl,bN s3 Ie fun x hx=>by rw[List.mem_singleton.mp hx];exact np,⟨iY,?_⟩,Ie.at Cy HF.symm,aq (fun _ _ z=>bB.mono z GV) Cw,by rw[List.length_cons];omega,vK⟩
    rw[List.reverse_cons]
    exact aJ (hu.mono (bb k8 pJ)) (cN q7 k8 pJ)
   cases pI with
   |name h=>
    refine⟨_,rfl,_,_,_,_,rfl,rfl,aS.of h,bW,rfl,_,rfl,dh pE ⟨_,rfl,_,_,_,_,rfl,rfl,aS.of h,bW,rfl,_,rfl,dh pF ⟨_,rfl,_,_,_,_,rfl,rfl,aS.of h,bW,rfl,_,rfl,dh Ab (cf ⟨_,rfl,_,_,_,_,rfl,rfl,aS.of h,bW,rfl,_,rfl,dh Ab (cf ?_)⟩)⟩⟩⟩
    refine⟨_,rfl,Or.inl ⟨rfl,_,bp.of cH.1⟩,_,rfl,_,_,_,rfl,rfl,cH.1,small (by have:=cH.len;omega),fun H8 k8 iY=>?_⟩
    exact fin (bh.refl _ _) cH.1 cH.2 (.name h) hS cq H8 k8 iY
   |@place a1 n h=>
    have sN:eI (aK r) ((t.bq 0).reverse.drop (i+1)) ((if n < k1 then T.place n else if n=k1 then r.lift k1 else T.place (n - 1))::S)=some [t.ae (aK r) 0]:=cq
    refine⟨_,rfl,_,_,_,_,rfl,rfl,aS.of h,bW,rfl,_,rfl,dh pC ⟨_,rfl,_,_,_,_,rfl,rfl,aS.of h,bW,rfl,_,rfl,dh pD ⟨_,rfl,_,_,_,_,rfl,rfl,aS.of h,bW,rfl,_,rfl,ia rfl ⟨_,rfl,_,_,_,_,rfl,rfl,aS.of h,gb,_,rfl,rfl,_,rfl,uj (fun heq=>?_) (fun lF=>?_)⟩⟩⟩⟩
    ·have heq:n=k1:=by have:=V.int.inj heq;omega
     subst heq
     rw[if_neg (Nat.lt_irrefl n),if_pos rfl] at sN
     refine⟨_,rfl,_,rfl,u0,r,n,rfl,PY.same s3,Iq,fun v' H9 s9 gf=>?_⟩
     have jN:=s9 _ _ cH.1
     refine⟨_,rfl,Or.inl ⟨rfl,_,bp.of jN⟩,_,rfl,_,_,_,rfl,rfl,jN,small (by have:=cH.len;omega),fun H8 k8 iY=>?_⟩
     exact fin (bh.of_same s9) jN (aq (fun _ _ q=>q.same s9) cH.2) gf hS sN H8 k8 iY
    ·have lF:¬n=k1:=fun e=>lF (by rw[e])
     refine⟨_,rfl,_,_,_,_,rfl,rfl,aS.of h,bW,rfl,_,rfl,ia rfl ⟨_,rfl,_,_,_,_,rfl,rfl,aS.of h,gb,_,rfl,_,_,rfl,rfl,_,rfl,uj (fun yQ=>?_) (fun eB=>?_)⟩⟩
     ·have yQ:¬n < k1:=by omega
      rw[if_neg yQ,if_neg lF] at sN
      refine⟨_,rfl,_,_,_,_,rfl,rfl,aS.of h,gb,_,_,rfl,rfl,az (by show 2<=1000000;decide),fun b9 H9 n9 s9 h9=>?_⟩
      have e:((n:Int) - 1)=((n - 1:Nat):Int):=by omega
      have h9:H9 b9=some (.tup [.str "place",.int ((n:Int) - 1)]):=h9
      rw[e] at h9
      have jN:=s9 _ _ cH.1
      refine⟨_,rfl,Or.inl ⟨rfl,_,bp.of jN⟩,_,rfl,_,_,_,rfl,rfl,jN,small (by have:=cH.len;omega),fun H8 k8 iY=>?_⟩
      exact fin (bh.of_same s9) jN (aq (fun _ _ q=>q.same s9) cH.2) (.place (n:=n - 1) h9) hS sN H8 k8 iY
     ·have eB:n < k1:=by omega
      rw[if_pos eB] at sN
      refine⟨_,rfl,Or.inl ⟨rfl,_,bp.of cH.1⟩,_,rfl,_,_,_,rfl,rfl,cH.1,small (by have:=cH.len;omega),fun H8 k8 iY=>?_⟩
      exact fin (bh.refl _ _) cH.1 cH.2 (.place h) hS sN H8 k8 iY
   |@aa a1 bv b h hb=>
    obtain⟨x,S',rfl,cq⟩:=oK cq
    obtain⟨my,u,rfl,hu,gf⟩:=cH.pop
    refine⟨_,rfl,_,_,_,_,rfl,rfl,aS.of h,bW,rfl,_,rfl,ia rfl ?_⟩
    refine⟨_,rfl,Or.inl ⟨rfl,_,bp.of cH.1⟩,p,my,u,rfl,rfl,cH.1,fun H6 k6 iC=>⟨az (by show 2<=1000000;decide),fun b9 H9 n9 s9 h9=>?_⟩⟩
    have jN:=s9 _ _ iC
    have pj:=k6.trans (bh.of_same s9)
    have ln:=cH.len
    rw[List.length_append,List.length_singleton,List.length_cons] at ln
    rw[List.length_cons] at hS
    refine⟨_,rfl,Or.inl ⟨rfl,_,bp.of jN⟩,_,rfl,_,_,_,rfl,rfl,jN,small (by omega),fun H8 k8 iY=>?_⟩
    exact fin pj jN (cN gf pj cH.1) (.aa h9 (hu.mono (bb pj cH.1))) (by omega) cq H8 k8 iY
   |@call a1 xv yv x y h hx hy=>
    obtain⟨y,x,S',rfl,cq⟩:=oM cq
    obtain⟨FE,u,rfl,hu,Lp⟩:=cH.pop
    refine⟨_,rfl,_,_,_,_,rfl,rfl,aS.of h,bW,rfl,_,rfl,dh m7 ⟨_,rfl,_,_,_,_,rfl,rfl,aS.of h,bW,rfl,_,rfl,ia rfl ?_⟩⟩
    refine⟨_,rfl,Or.inl ⟨rfl,_,bp.of cH.1⟩,p,FE,u,rfl,rfl,cH.1,fun H6 k6 iC=>?_⟩
    have P6:gg H6 p FE (x::S'):=⟨iC,cN Lp k6 cH.1⟩
    obtain⟨my,z,rfl,hz,gf⟩:=P6.pop
    refine⟨_,rfl,Or.inl ⟨rfl,_,bp.of iC⟩,p,my,z,rfl,rfl,iC,fun H7 k7 pJ=>⟨_,rfl,az (by show 3<=1000000;decide),fun b9 H9 n9 s9 h9=>?_⟩⟩
    have jN:=s9 _ _ pJ
    have Cq:=k7.trans (bh.of_same s9)
    have pj:=k6.trans Cq
    have ln:=cH.len
    rw[List.length_append,List.length_append,List.length_singleton,List.length_singleton,List.length_cons,List.length_cons] at ln
    rw[List.length_cons,List.length_cons] at hS
    refine⟨_,rfl,Or.inl ⟨rfl,_,bp.of jN⟩,_,rfl,_,_,_,rfl,rfl,jN,small (by omega),fun H8 k8 iY=>?_⟩
    exact fin pj jN (cN gf Cq iC) (.call h9 (hz.mono (bb Cq iC)) (hu.mono (bb pj cH.1))) (by omega) cq H8 k8 iY
  ·rintro σ H3 ⟨vs,S,x3,x4,x5,x6,rfl,s3,cH,Cy,Cw,hS,cq⟩
   rw[List.drop_eq_nil_of_le (by rw[List.length_reverse,cD,hlen];exact Nat.le_refl _)] at cq
   cases(Option.some.inj cq)
   obtain⟨my,u,rfl,hu,gf⟩:=cH.pop
   cases cC gf
   exact⟨_,rfl,_,_,_,_,rfl,rfl,bp.of cH.1,bW,k u H3 s3 hu⟩
abbrev kO:Stmt:=top 19
theorem w9:a8 ["_law_script","_law_k"] ["_law_script","_law_k"] (aw kO):=⟨rfl,rfl,rfl,by decide+kernel,rfl,by decide+kernel,by decide+kernel⟩
inductive Fo(K:W.Frag)(vs:List V)(H:Hp)(Q:VK):Prop where
 |mk(a:_)(ns:List Int)(k:Nat)(c1:vs=[.ref a,.int (k:Int)])(c2:bp K H a (ns.map V.int))(c3:ns.length<=63)(c4:∀i,Q (.int i) H)
def wY(K:W.Frag):Sp:=fun vs H Q lK=>Fo K vs H Q
theorem xn{f:Addr}{fd:FuncData}(F:jS K "_law_at" "_law_at" kO f fd)(N_:cV mg):cg P w K mg base bK 1 f fd ["_law_script","_law_k"] (wY K):=by
 refine F.ok w9 (fun vs H Q E h=>?_) (fun fx A outer s H vs Q E hr h=>?_)
 ·obtain⟨a,ns,n,rfl,_⟩:=h
  rfl
 ·obtain⟨a,ns,n,rfl,hS,hl,k⟩:=h
  refine⟨_,(ag (bj (ax yw (pv 1) (mh bf (by rfl) N_.len boot_len (ak (pv 0) aj)) (aA _)) (ai (aU (aD ee (pv 0) (pv 1) (fun _ _=>rfl)))) aZ)
   (ai (aU ah))),?_⟩
  show(let cP:TS:=_;let dj:TS:=_;aL (bS _ dj _) cP _ _ _)
  intro cP dj
  refine⟨_,rfl,_,rfl,_,_,rfl,Or.inl hS,_,_,rfl,rfl,_,rfl,uj (fun eB=>?_) (fun _=>k 0)⟩
  rw[List.length_map] at eB
  have eB:n < ns.length:=by omega
  exact⟨_,rfl,_,rfl,_,_,_,_,rfl,rfl,hS,(jE (j:=n) (by rw[List.getElem?_map,List.getElem?_eq_getElem eB];rfl)),k _⟩
abbrev fj:Stmt:=top 26
theorem gd:a8 ["_law_found","_law_todo","_law_part"] ["_law_found"] (aw fj):=⟨rfl,rfl,rfl,by decide+kernel,rfl,by decide+kernel,by decide+kernel⟩
def j8(aN:List Tm):Nat:=(aN.map T.size).sum
theorem eY(aN:List Tm)(q:Tm):j8 (aN++[q])=j8 aN+q.size:=by
 unfold j8
 rw[List.map_append,List.sum_append]
 simp
theorem vE:∀aN:List Tm,aN.length<=j8 aN
 |[]=>Nat.le_refl _
 |q::r=>by
  have:=vE r
  have h:=q.size_pos
  show r.length+1<=q.size+j8 r
  omega
inductive uJ(vs:List V)(H:Hp)(Q:VK):Prop where
 |mk(v:_)(t:_)(c1:vs=[v])(c2:au H v t)(c3:t.size<=100000)(c4:∀H',aQ H H'->Q (.bl true) H')
def kg:Sp:=fun vs H Q lK=>uJ vs H Q
inductive ye(H:Hp)(v:V)(t:Tm)(d:Addr)(m:Nat)(σ:L2.St)(H':Hp):Prop where
 |mk(aN:_)(xs:_)(x2:_)(c1:σ=[some v,some (.ref d),x2])(c2:aQ H H')(c3:H' d=some (.lst xs))(c4:Paired (au H') xs aN)(c5:m=j8 aN)(c6:j8 aN<=t.size)
def tm(H:Hp)(v:V)(t:Tm)(d:Addr)(m:Nat)(σ:L2.St)(H':Hp):Prop:=ye H v t d m σ H'
theorem pA{f:Addr}{fd:FuncData}(F:jS K "_law_is_term" "_law_is_term" fj f fd)(N_:cV mg)(eh:GF P w K mg base bK 1 "_law_whole" ["_law_found"] mK):cg P w K mg base bK 2 f fd ["_law_found"] kg:=by
 refine F.ok gd (fun vs H Q E h=>?_) (fun fx A outer s H vs Q E hr h=>?_)
 ·obtain⟨v,t,rfl,_⟩:=h
  rfl
 ·obtain⟨v,t,rfl,ht,hsz,k⟩:=h
  have lP:=hr.qu
  refine⟨_,(ag (aE (i:=1) gd.nd rfl (Or.inl rfl) (et (ak (pv 0) aj)))
   (ag (dY PassesOwn.never (ax (gG lP) (pv 1) (et aj) (aA _)) (ag (aE (i:=2) gd.nd rfl (Or.inl rfl) (iA (pv 1)))
   (ag (bj (PW.pt (hU (fK (dH (mh gR (by rfl) N_.isinstance boot_isinstance (ak (pv 2) (ak (jr (v:=V.ty "tuple") rfl N_.tuple boot_tuple rfl) aj))))) (hU (ax yw (mh bf (by rfl) N_.len boot_len (ak (pv 2) aj)) ah (aA _)) (ir (fK (dH (mh gR (by rfl) N_.isinstance boot_isinstance (ak (aD ay (pv 2) ah (fun _ _=>rfl)) (ak (jr (v:=V.ty "str") rfl N_.str boot_str rfl) aj))))))))) (ai (aU e4)) aZ)
   (ai (bj (PW.pt (ei (ax bC (aD ay (pv 2) ah (fun _ _=>rfl)) aC (aA _)) (dt (ax bC (mh bf (by rfl) N_.len boot_len (ak (pv 2) aj)) ah (aA _))))) (ai (a0 (eA (pv 1) (aD ay (pv 2) ah (fun _ _=>rfl))))) (ai (bj (PW.pt (ei (ax bC (aD ay (pv 2) ah (fun _ _=>rfl)) aC (aA _)) (dt (ax bC (mh bf (by rfl) N_.len boot_len (ak (pv 2) aj)) ah (aA _))))) (ag (a0 (eA (pv 1) (aD ay (pv 2) ah (fun _ _=>rfl))))
   (ai (a0 (eA (pv 1) (aD ay (pv 2) ah (fun _ _=>rfl)))))) (ai (bj (PW.pt (ei (ax bC (aD ay (pv 2) ah (fun _ _=>rfl)) aC (aA _)) (dt (ax bC (mh bf (by rfl) N_.len boot_len (ak (pv 2) aj)) ah (aA _))))) (ai (bj (fK (dH (cA eh (hr.mono (by decide)) rfl bt (ak (aD ay (pv 2) ah (fun _ _=>rfl)) aj)))) (ai (aU e4)) aZ)) (ai (bj (PW.pt (hU (ax lL (aD ay (pv 2) ah (fun _ _=>rfl)) aC (aA _)) (hU (ax lL (mh bf (by rfl) N_.len boot_len (ak (pv 2) aj)) ah (aA _)) (ir (fK (dH (mh gR (by rfl) N_.isinstance boot_isinstance (ak (aD ay (pv 2) ah (fun _ _=>rfl)) (ak (jr (v:=V.ty "str") rfl N_.str boot_str rfl) aj))))))))) (ai (aU e4)) aZ)))))))))))
   (ai (aU e4)))),?_⟩
  show(let cP:TS:=_;let dj:TS:=_;let eW:TS:=_;let fy:TS:=aL _ eW;let fW:TS:=_;let iI:TS:=bS _ fW _;let kE:TS:=_;let kD:TS:=bS _ kE _;let lJ:TS:=bS _ iI kD;let eD:TS:=bS _ fy lJ;let fb:TS:=bS _ dj eD;let kG:TS:=_;let kF:TS:=aL (bS _ kG _) fb;let nY:TS:=aL _ kF;let nX:TS:=aL (gc _ nY) cP;aL _ nX _ _ _)
  intro cP dj eW fy fW iI kE kD lJ eD fb kG kF nY nX
  refine⟨_,rfl,az (by simp),fun d H4 nd s4 E4=>?_⟩
  refine⟨tm H v t d,⟨j8 [t],[t],[v],none,rfl,s4,E4,.cons (ht.same s4) .nil,rfl,by show t.size+0<=_;omega⟩,?_⟩
  rintro m σ H5 ⟨aN,xs,x2,rfl,s5,qg,hit,rfl,fO⟩
  refine⟨_,rfl,az (by simp),fun e0 Dy Tr vi LY=>⟨_,_,_,rfl,rfl,bp.of (vi _ _ qg),bp.of LY,_,rfl,?_⟩⟩
  have pL:=vi _ _ qg
  have hit:=aq (fun a b h=>au.same h vi) hit
  have s5:=s5.trans vi
  clear qg
  by_cases lE:aN=[]
  ·subst lE
   cases cC hit
   exact cf (k Dy s5)
  ·obtain⟨its',t1,rfl⟩:=fS lE
   obtain⟨iJ,x,rfl,uk,pI⟩:=bo hit
   rw[show(if true=true then !(iJ++[x]).isEmpty else (iJ++[x]).isEmpty)=true by simp]
   refine fu ⟨fun σ' H'=>∃m',m' < j8 (its'++[t1])/\tm H v t d m' σ' H',fun _ _ h=>h,?_⟩
   refine⟨_,rfl,Or.inl ⟨rfl,_,bp.of pL⟩,d,iJ,x,rfl,rfl,pL,fun H6 k6 jW=>?_⟩
   have tG:=bb k6 pL
   have Cu:=pI.mono tG
   have qd:=cN uk k6 pL
   have s6:aQ H H6:=bN s5 k6 fun x hx=>by rw[List.mem_singleton.mp hx];exact nd
   rw[eY] at fO
   rw[eY]
   have Bc:iJ.length<=t.size:=by
    rw[Paired.length qd]
    have:=vE its'
    omega
   cases Cu with
   |name h=>
    refine⟨_,rfl,_,_,_,_,rfl,.tup h,rb K,_,rfl,cf ⟨_,rfl,_,_,rfl,Or.inr (aS.of h),_,_,rfl,rfl,_,rfl,dh (show ¬(2:Int) < 2 by decide) ⟨_,rfl,_,_,_,_,rfl,rfl,aS.of h,bW,_,_,_,_,rfl,.str _,oS K,_,rfl,cf ?_⟩⟩⟩
    refine⟨_,rfl,_,_,_,_,rfl,rfl,aS.of h,bW,rfl,_,rfl,dh pE (cf ⟨_,rfl,_,_,_,_,rfl,rfl,aS.of h,bW,rfl,_,rfl,dh pF (cf ⟨_,rfl,_,_,_,_,rfl,rfl,aS.of h,bW,rfl,_,rfl,dh Ab (cf ?_)⟩)⟩)⟩
    refine⟨_,rfl,_,_,_,_,rfl,rfl,aS.of h,bW,rfl,_,rfl,oV rfl ⟨_,rfl,_,_,rfl,Or.inr (aS.of h),rfl,_,rfl,oV rfl ⟨_,rfl,_,_,_,_,rfl,rfl,aS.of h,gb,_,_,_,_,rfl,.str _,oS K,_,rfl,cf ?_⟩⟩⟩
    exact⟨_,by show j8 its' < j8 its'+1;omega,its',iJ,_,rfl,s6,jW,qd,rfl,by omega⟩
   |@place a1 n h=>
    refine⟨_,rfl,_,_,_,_,rfl,.tup h,rb K,_,rfl,cf ⟨_,rfl,_,_,rfl,Or.inr (aS.of h),_,_,rfl,rfl,_,rfl,dh (show ¬(2:Int) < 2 by decide) ⟨_,rfl,_,_,_,_,rfl,rfl,aS.of h,bW,_,_,_,_,rfl,.str _,oS K,_,rfl,cf ?_⟩⟩⟩
    refine⟨_,rfl,_,_,_,_,rfl,rfl,aS.of h,bW,rfl,_,rfl,dh pC (cf ⟨_,rfl,_,_,_,_,rfl,rfl,aS.of h,bW,rfl,_,rfl,dh pD (cf ⟨_,rfl,_,_,_,_,rfl,rfl,aS.of h,bW,rfl,_,rfl,ia rfl ⟨_,rfl,_,_,rfl,Or.inr (aS.of h),rfl,_,rfl,ia rfl ?_⟩⟩)⟩)⟩
    refine⟨_,rfl,_,_,_,_,rfl,rfl,aS.of h,gb,n,rfl,_,rfl,cf ?_⟩
    exact⟨_,by show j8 its' < j8 its'+1;omega,its',iJ,_,rfl,s6,jW,qd,rfl,by omega⟩
   |@aa a1 bv b h hb=>
    have QV:T.size (.aa b:Tm)=b.size+1:=rfl
    refine⟨_,rfl,_,_,_,_,rfl,.tup h,rb K,_,rfl,cf ⟨_,rfl,_,_,rfl,Or.inr (aS.of h),_,_,rfl,rfl,_,rfl,dh (show ¬(2:Int) < 2 by decide) ⟨_,rfl,_,_,_,_,rfl,rfl,aS.of h,bW,_,_,_,_,rfl,.str _,oS K,_,rfl,cf ?_⟩⟩⟩
    refine⟨_,rfl,_,_,_,_,rfl,rfl,aS.of h,bW,rfl,_,rfl,ia rfl ⟨_,rfl,_,_,rfl,Or.inr (aS.of h),rfl,_,rfl,ia rfl ?_⟩⟩
    refine⟨_,rfl,Or.inl ⟨rfl,_,bp.of jW⟩,_,rfl,_,_,_,_,rfl,rfl,aS.of h,gb,_,_,_,rfl,rfl,jW,small (by omega),fun H8 k8 DK=>?_⟩
    refine⟨_,?_,its'++[b],_,_,rfl,bN s6 k8 (fun x hx=>by rw[List.mem_singleton.mp hx];exact nd),DK,aJ (hb.mono (bb k8 jW)) (cN qd k8 jW),rfl,?_⟩
    ·rw[eY];show j8 its'+b.size < j8 its'+(b.size+1);omega
    ·rw[eY];omega
   |@call a1 xv yv x y h hx hy=>
    have JW:T.size (.call x y:Tm)=x.size+y.size+1:=rfl
    refine⟨_,rfl,_,_,_,_,rfl,.tup h,rb K,_,rfl,cf ⟨_,rfl,_,_,rfl,Or.inr (aS.of h),_,_,rfl,rfl,_,rfl,dh (show ¬(3:Int) < 2 by decide) ⟨_,rfl,_,_,_,_,rfl,rfl,aS.of h,bW,_,_,_,_,rfl,.str _,oS K,_,rfl,cf ?_⟩⟩⟩
    refine⟨_,rfl,_,_,_,_,rfl,rfl,aS.of h,bW,rfl,_,rfl,dh m7 (cf ⟨_,rfl,_,_,_,_,rfl,rfl,aS.of h,bW,rfl,_,rfl,ia rfl ⟨_,rfl,_,_,rfl,Or.inr (aS.of h),rfl,_,rfl,ia rfl ?_⟩⟩)⟩
    refine⟨_,rfl,Or.inl ⟨rfl,_,bp.of jW⟩,_,rfl,_,_,_,_,rfl,rfl,aS.of h,gb,_,_,_,rfl,rfl,jW,small (by omega),fun H8 k8 DK=>?_⟩
    have JI:=bb k8 jW
    have h8:=JI _ _ h
    refine⟨_,rfl,Or.inl ⟨rfl,_,bp.of DK⟩,_,rfl,_,_,_,_,rfl,rfl,aS.of h8,at2,_,_,_,rfl,rfl,DK,small (by rw[List.length_append,List.length_singleton];omega),fun H9 k9 Yw=>?_⟩
    have Ni:=bb k9 DK
    refine⟨_,?_,(its'++[x])++[y],_,_,rfl,bN s6 (k8.trans k9) (fun x hx=>by rw[List.mem_singleton.mp hx];exact nd),Yw,aJ ((hy.mono JI).mono Ni) (aJ ((hx.mono JI).mono Ni) (cN (cN qd k8 jW) k9 DK)),rfl,?_⟩
    ·rw[eY,eY];show j8 its'+x.size+y.size < j8 its'+(x.size+y.size+1);omega
    ·rw[eY,eY];omega
end
def T.leaf:Tm->Bool
 | .name _=>true
 | .place _=>true
 |_=>false
inductive Dj(TL:cS)(A:List Addr)(J:Hp->Prop)(g:Tm->Nat->Tm)(vs:List V)(H:Hp)(Q:VK):Prop where
 |mk(v:_)(t:_)(k:Nat)(c1:vs=[v,.int (k:Int)])(c2:T.leaf t=true)(c3:k<=100000)(c4:au H v t)(c5:TO TL H)(c6:J H)(c7:∀v' H',KA A H H'->TO TL H'->J H'->au H' v' (g t k)->Q v' H')
def pU(TL:cS)(A:List Addr)(J:Hp->Prop)(g:Tm->Nat->Tm):Sp:=fun vs H Q lK=>Dj TL A J g vs H Q
inductive Dh(Jc:Hp->Prop)(vs:List V)(H:Hp)(Q:VK):Prop where
 |mk(v:_)(b:_)(k:Nat)(c1:vs=[v,.int (k:Int)])(c2:au H v b)(c3:Jc H)(c4:∀v' H',aQ H H'->au H' v' (.aa b)->Q v' H')
def yi(Jc:Hp->Prop):Sp:=fun vs H Q lK=>Dh Jc vs H Q
inductive A7(TL:cS)(kf:Nat)(P:Program)(w:World)(K:W.Frag)(mg:Str->Option Value)(base:Heap)(vs:List V)(H:Hp)(Q:VK):Prop where
 |mk(l:_)(rs:_)(t:Tm)(f1:_)(f2:_)(OW:_)(OV:_)(A:_)(J:_)(Jc:_)(g:_)(c1:vs=[.ref l,.ref f1,.ref f2])(c2:H l=some (.lst rs))(c3:Paired (bB H) rs (t.parts 0))(c4:t.size<=100000)(c5:FV P w K mg base bK kf f1 OW (pU TL A J g))(c6:FV P w K mg base bK kf f2 OV (yi Jc))(c7:(∀H H',uM H H'->J H->J H'))(c8:(∀H,J H->Dp A H))(c9:(∀H',KA A H H'->Jc H'))(Vd:TO TL H)(Zj:J H)(Zi:∀v' H',KA A H H'->TO TL H'->J H'->au H' v' (t.ae g 0)->Q v' H')
def mM(TL:cS)(kf:Nat)(P:Program)(w:World)(K:W.Frag)(mg:Str->Option Value)(base:Heap):Sp:=fun vs H Q lK=>A7 TL kf P w K mg base vs H Q
inductive wg(TL:cS)(kf:Nat)(P:Program)(w:World)(K:W.Frag)(mg:Str->Option Value)(base:Heap)(vs:List V)(H:Hp)(Q:VK):Prop where
 |mk(v:_)(t:_)(f:_)(ps:_)(A:_)(J:_)(g:_)(c1:vs=[v,.ref f])(c2:au H v t)(c3:t.size<=100000)(c4:FV P w K mg base bK kf f ps (pU TL A J g))(c5:(∀H H',uM H H'->J H->J H'))(c6:(∀H,J H->Dp A H))(c7:TO TL H)(c8:J H)(c9:∀v' H',KA A H H'->TO TL H'->J H'->au H' v' (t.ae g 0)->Q v' H')
def gD(TL:cS)(kf:Nat)(P:Program)(w:World)(K:W.Frag)(mg:Str->Option Value)(base:Heap):Sp:=fun vs H Q lK=>wg TL kf P w K mg base vs H Q
section
variable {P:Program}{w:World}{K:W.Frag}{mg:Str->Option Value}{base:Heap}
seal L2.PE L2.PA L2.PT L2.PS L2.nZ L2.PW L2.PG L2.uW L2.PI L2.PO L2.gy L2.wc L2.cE L2.mw L2.rS L2.rR
abbrev mT:Stmt:=top 2
theorem ki:a8 ["found","leaf","over","ready","part","around","one"] ["found","leaf","over"] (aw mT):=⟨rfl,rfl,rfl,by decide+kernel,rfl,by decide+kernel,by decide+kernel⟩
inductive Fy(TL:cS)(A:List Addr)(g:Tm->Nat->Tm)(J:Hp->Prop)(H:Hp)(u1 u2:V)(t:Tm)(p l:Addr)(rs:List V)(i:Nat)(σ:L2.St)(H':Hp):Prop where
 |mk(vs:_)(S:_)(x3:_)(x4:_)(x5:_)(c1:σ=[some (.ref l),some u1,some u2,some (.ref p),x3,x4,x5])(c2:KA A H H')(c3:TO TL H')(c4:J H')(c5:gg H' p vs S)(c6:H' l=some (.lst rs))(c7:Paired (bB H') rs (t.parts 0))(c8:S.length<=i)(c9:mf g ((t.parts 0).reverse.drop i) S=some [t.ae g 0])
def Dw(TL:cS)(A:List Addr)(g:Tm->Nat->Tm)(J:Hp->Prop)(H:Hp)(u1 u2:V)(t:Tm)(p l:Addr)(rs:List V)(i:Nat)(σ:L2.St)(H':Hp):Prop:=Fy TL A g J H u1 u2 t p l rs i σ H'
theorem vq{f:Addr}{fd:FuncData}{kf:Nat}{TL:cS}(F:jS K "built" "built" mT f fd)(N_:cV mg):cg P w K mg base bK (kf+1) f fd ["found","leaf","over"] (mM TL kf P w K mg base):=by
 refine F.ok ki (fun vs H Q E h=>?_) (fun fx A outer s H vs Q E hr h=>?_)
 ·obtain⟨l,rs,t,f1,f2,OW,OV,AA,J,Jc,g,rfl,_⟩:=h
  rfl
 ·obtain⟨l,rs,t,f1,f2,OW,OV,AA,J,Jc,g,rfl,QC,JS,hsz,LU,QI,hJ,hA,YM,Om,NR,k⟩:=h
  have ND:dr kf (A.deeper (envOfC "built" (aw mT) s.heap.objs.size _ fx)):=hr
  refine⟨_,(ag (aE (i:=3) ki.nd rfl (Or.inl rfl) (et aj))
   (ag (iu PassesOwn.never rfl (BQ rfl N_.reversed (pv 0)) (oO rfl (dF (cU (i:=4) ki.nd rfl (Or.inl rfl)) (dF (cU (i:=5) ki.nd rfl (Or.inl rfl)) kP))) (ai (bj (ax bC (aD ay (pv 4) ah (fun _ _=>rfl)) aC (aA _)) (ai (a0 (eA (pv 3) (xh 2 ND bt (ak (iA (pv 3)) (ak (pv 5) aj)))))) (ai (bj (ax bC (aD ay (pv 4) ah (fun _ _=>rfl)) aC (aA _)) (ag (aE (i:=6) ki.nd rfl (Or.inl rfl) (iA (pv 3)))
   (ai (a0 (eA (pv 3) (cB (ak aC (ak (pv 6) (ak (iA (pv 3)) aj)))))))) (ai (a0 (eA (pv 3) (xh 1 ND bt (ak (pv 4) (ak (pv 5) aj)))))))))))
   (ai (aU (iA (pv 3)))))),?_⟩
  show(let cP:TS:=_;let dj:TS:=_;let eW:TS:=_;let fy:TS:=aL _ eW;let fW:TS:=_;let iI:TS:=bS _ fy fW;let kE:TS:=bS _ dj iI;let kD:TS:=aL (qz _ _ kE) cP;aL _ kD _ _ _)
  intro cP dj eW fy fW iI kE kD
  refine⟨az (by simp),fun p H1 np s1 Be=>?_⟩
  have hlen:rs.length=t.size:=by rw[Paired.length JS,gw]
  have HF:p≠l:=fun z=>by rw[z,QC] at np;cases np
  refine⟨_,rfl,l,rs,rfl,bp.of (s1 _ _ QC),yV (K:=K) (a:=l) (xs:=rs) (Dw TL AA g J H (.ref f1) (.ref f2) t p l rs) ?_ ?_ ?_ ?_⟩
  ·exact⟨[],[],none,none,none,rfl,.of_same s1,Om.same s1,hJ _ _ (.of_same s1) NR,⟨Be,.nil⟩,s1 _ _ QC,aq (fun _ _ z=>bB.mono z (.of_same s1)) JS,Nat.le_refl _,BD t⟩
  ·rintro i σ H' _ ⟨_,_,_,_,_,_,_,_,_,_,h,_⟩
   exact bp.of h
  ·rintro i x σ H3 hi ⟨vs,S,x3,x4,x5,rfl,s3,to3,j3,cH,Cy,Cw,hS,cq⟩
   obtain⟨⟨t1,k1⟩,AE,a,tv,rfl,ha,pI⟩:=cm (gF Cw) hi
   have pI:au H3 tv t1:=pI
   have eB:i < t.size:=by
    have:=(List.getElem?_eq_some_iff.mp hi).1
    rw[List.length_reverse] at this
    omega
   have hd:(t.parts 0).reverse.drop i=(t1,k1)::(t.parts 0).reverse.drop (i+1):=by
    rw[List.drop_eq_getElem_cons (List.getElem?_eq_some_iff.mp AE).1,(List.getElem?_eq_some_iff.mp AE).2]
   rw[hd] at cq
   refine⟨a,_,rfl,aS.of ha,rfl,_,_,rfl,_,_,rfl,rfl,?_⟩
   -- ready.append(u), behind changes that leave lists but the pile, and tuples
   have fin:∀{H7:Hp}{wK:List V}{S7:List Tm}{u:V}{y:Tm}{x5:Option V},KA AA H H7->TO TL H7->bY H3 H7->H7 l=some (.lst rs)->J H7->H7 p=some (.lst wK)->Paired (au H7) wK S7.reverse->au H7 u y->S7.length<=i->mf g ((t.parts 0).reverse.drop (i+1)) (y::S7)=some [t.ae g 0]->
     ∀H8,bh [p] H7 H8->H8 p=some (.lst (wK++[u]))->Dw TL AA g J H (.ref f1) (.ref f2) t p l rs (i+1) [some (.ref l),some (.ref f1),some (.ref f2),some (.ref p),some tv,some (.int (k1:Int)),x5] H8:=by
    intro H7 wK S7 u y x5 Xc V2 DF Yj j7 pJ q7 hu UQ vK H8 k8 iY
    have JI:=bb k8 pJ
    refine⟨_,y::S7,_,_,_,rfl,Xc.keep k8 np,V2.nl (.of_keep k8 pJ),hJ _ _ (.of_keep k8 pJ) j7,⟨iY,?_⟩,k8.at Yj HF.symm,aq (fun _ _ z=>(bB.mono z DF).mono JI) Cw,by rw[List.length_cons];omega,vK⟩
    rw[List.reverse_cons]
    exact aJ (hu.mono JI) (cN q7 k8 pJ)
   have LQ:k1<=100000:=by
    have:=mX t 0 _ (List.mem_reverse.mp (List.mem_of_getElem? AE))
    have e:(t1,k1).2=k1:=rfl
    rw[e] at this
    omega
   cases pI with
   |@name a1 w1 h=>
    refine⟨_,rfl,_,_,_,_,rfl,rfl,aS.of h,bW,rfl,_,rfl,dh pE ⟨_,rfl,_,_,_,_,rfl,rfl,aS.of h,bW,rfl,_,rfl,dh pF ?_⟩⟩
    refine⟨_,rfl,Or.inl ⟨rfl,_,bp.of cH.1⟩,f1,_,_,rfl,LU,_,rfl,_,rfl,_,.name w1,k1,rfl,rfl,LQ,.name h,to3,j3,fun v' H4 EI Ol j4 gf=>?_⟩
    have FF:=EI.cM (hA _ j3)
    have uS:=EI.lst (hA _ j3) cH.1
    refine⟨_,_,_,rfl,rfl,uS,small (by have:=cH.len;omega),fun H8 k8 iY=>?_⟩
    exact fin (s3.trans EI) Ol FF (EI.lst (hA _ j3) Cy) j4 uS (aq (fun _ _ z=>z.mono FF) cH.2) gf hS cq H8 k8 iY
   |@place a1 n1 h=>
    refine⟨_,rfl,_,_,_,_,rfl,rfl,aS.of h,bW,rfl,_,rfl,dh pC ⟨_,rfl,_,_,_,_,rfl,rfl,aS.of h,bW,rfl,_,rfl,dh pD ?_⟩⟩
    refine⟨_,rfl,Or.inl ⟨rfl,_,bp.of cH.1⟩,f1,_,_,rfl,LU,_,rfl,_,rfl,_,.place n1,k1,rfl,rfl,LQ,.place h,to3,j3,fun v' H4 EI Ol j4 gf=>?_⟩
    have FF:=EI.cM (hA _ j3)
    have uS:=EI.lst (hA _ j3) cH.1
    refine⟨_,_,_,rfl,rfl,uS,small (by have:=cH.len;omega),fun H8 k8 iY=>?_⟩
    exact fin (s3.trans EI) Ol FF (EI.lst (hA _ j3) Cy) j4 uS (aq (fun _ _ z=>z.mono FF) cH.2) gf hS cq H8 k8 iY
   |@aa a1 bv b h hb=>
    obtain⟨x,S',rfl,cq⟩:=zL cq
    obtain⟨my,u,rfl,hu,gf⟩:=cH.pop
    have ln:=cH.len
    rw[List.length_append,List.length_singleton,List.length_cons] at ln
    rw[List.length_cons] at hS
    refine⟨_,rfl,_,_,_,_,rfl,rfl,aS.of h,bW,rfl,_,rfl,ia rfl ?_⟩
    refine⟨_,rfl,Or.inl ⟨rfl,_,bp.of cH.1⟩,f2,_,_,rfl,QI,_,rfl,Or.inl ⟨rfl,_,bp.of cH.1⟩,p,my,u,rfl,rfl,cH.1,fun H6 k6 iC=>⟨_,rfl,u,x,k1,rfl,hu.mono (bb k6 cH.1),YM _ (s3.keep k6 np),fun v' H9 s9 h9=>?_⟩⟩
    have jN:=s9 _ _ iC
    have pj:=k6.trans (bh.of_same s9)
    have DR:=bb pj cH.1
    refine⟨_,_,_,rfl,rfl,jN,small (by omega),fun H8 k8 iY=>?_⟩
    exact fin (s3.keep pj np) (to3.nl (.of_keep pj cH.1)) DR (pj.at Cy HF.symm) (hJ _ _ (.of_keep pj cH.1) j3) jN (cN gf pj cH.1) h9 (by omega) cq H8 k8 iY
   |@call a1 xv yv x y h hx hy=>
    obtain⟨x,y,S',rfl,cq⟩:=zM cq
    obtain⟨FE,u,rfl,hu,Lp⟩:=cH.pop
    have ln:=cH.len
    refine⟨_,rfl,_,_,_,_,rfl,rfl,aS.of h,bW,rfl,_,rfl,dh m7 ⟨_,rfl,_,_,_,_,rfl,rfl,aS.of h,bW,rfl,_,rfl,ia rfl ?_⟩⟩
    refine⟨_,rfl,Or.inl ⟨rfl,_,bp.of cH.1⟩,p,FE,u,rfl,rfl,cH.1,fun H6 k6 iC=>?_⟩
    have P6:gg H6 p FE (y::S'):=⟨iC,cN Lp k6 cH.1⟩
    obtain⟨my,z,rfl,hz,gf⟩:=P6.pop
    rw[List.length_append,List.length_append,List.length_singleton,List.length_singleton,List.length_cons,List.length_cons] at ln
    rw[List.length_cons,List.length_cons] at hS
    refine⟨_,rfl,Or.inl ⟨rfl,_,bp.of iC⟩,_,rfl,_,rfl,Or.inl ⟨rfl,_,bp.of iC⟩,p,my,z,rfl,rfl,iC,fun H7 k7 pJ=>⟨az (by show 3<=1000000;decide),fun b9 H9 n9 s9 h9=>?_⟩⟩
    have jN:=s9 _ _ pJ
    have Cq:=k7.trans (bh.of_same s9)
    have pj:=k6.trans Cq
    have DR:=bb pj cH.1
    refine⟨_,_,_,rfl,rfl,jN,small (by omega),fun H8 k8 iY=>?_⟩
    exact fin (s3.keep pj np) (to3.nl (.of_keep pj cH.1)) DR (pj.at Cy HF.symm) (hJ _ _ (.of_keep pj cH.1) j3) jN (cN gf Cq iC) (.call h9 (hu.mono DR) (hz.mono (bb Cq iC))) (by omega) cq H8 k8 iY
  ·rintro σ H3 ⟨vs,S,x3,x4,x5,rfl,s3,to3,j3,cH,Cy,Cw,hS,cq⟩
   rw[List.drop_eq_nil_of_le (by rw[List.length_reverse,gw,hlen];exact Nat.le_refl _)] at cq
   cases(Option.some.inj cq)
   obtain⟨my,u,rfl,hu,gf⟩:=cH.pop
   cases cC gf
   refine⟨_,rfl,Or.inl ⟨rfl,_,bp.of cH.1⟩,p,[],u,rfl,rfl,cH.1,fun H6 k6 iC=>?_⟩
   exact k u H6 (s3.keep k6 np) (to3.nl (.of_keep k6 cH.1)) (hJ _ _ (.of_keep k6 cH.1) j3) (hu.mono (bb k6 cH.1))
abbrev dG:Stmt:=top 7
theorem w6:a8 ["term","change"] ["term","change"] (aw dG):=⟨rfl,rfl,rfl,by decide+kernel,rfl,by decide+kernel,by decide+kernel⟩
abbrev aP:Expr:=BH dG 0 2
def aX:Str:=("rebuilt":Str)++".<locals>."++"<lambda>"
theorem tT:gX ["body","forms"] [] (iV aP):=⟨rfl,rfl,rfl,by decide+kernel,by decide+kernel,by decide+kernel,by decide+kernel,by decide+kernel⟩
theorem Ew{f c:Addr}{pm je:Value}{kf:Nat}(ho:base.get? f=some (PySem.W.kla_obj "<lambda>" aX (qc aP) (qb aP) (iV aP) [] pm c je)):
  FV P w K mg base bK (kf+1) f ["body","forms"] (yi fun H=>H c=some (dA c aX)):=by
 refine⟨_,_,_,_,yW (k:=kf) (CX:=bK) (fvs:=[]) (fs:=[]) ho tT .nil ?_ ?_ ?_ ?_ ?_,ho,?_⟩
 ·intro x c' h;cases h
 ·intro x y c' h1 h2;cases h1
 ·intro vs H Q E h
  obtain⟨v,b,k,rfl,_⟩:=h
  rfl
 ·intro vs H Q E h
  obtain⟨v,b,k,rfl,_,j,_⟩:=h
  exact j
 ·intro A outer s H vs Q E hr h
  obtain⟨v,b,n,rfl,ht,hj,k⟩:=h
  exact⟨_,(cB (ak aC (ak (pv 0) aj))),_,rfl,az (by show 2<=1000000;decide),fun b9 H9 n9 s9 h9=>k _ _ s9 (.aa h9 (ht.same s9))⟩
 ·exact .all fun us hl=>match us,hl with|[_,_],_=>rfl
theorem qS{f c0 T0:Addr}{fd:FuncData}{TL:cS}{kf:Nat}(h3:3<=kf+2)(F:sj K "rebuilt" "rebuilt" dG f fd c0)(hC:PySem.W.codeHdIn K c0 T0=true)(BB:fC base mg)(xO:xW TL)(hT:(T0,bz aP,aX)∈TL)
  (yf:GF P w K mg base bK 3 "parts_of" ["term"] (qD TL))(FA:GB P w K mg base bK (kf+2) "built" ["found","leaf","over"] (mM TL (kf+1) P w K mg)):cg P w K mg base bK (kf+3) f fd ["term","change"] (gD TL (kf+1) P w K mg base):=by
 refine F.ok w6 (fun vs H Q E h=>?_) (fun A outer s H vs Q E hr h=>?_)
 ·obtain⟨v,t,f,ps,AA,J,g,rfl,_⟩:=h
  rfl
 ·obtain⟨v,t,f1,ps,AA,J,g,rfl,ht,hsz,QJ,hJ,hA,to,NR,k⟩:=h
  refine⟨_,(ai (aU (yu (E:=E0) FA (hr.mono (Nat.le_refl _)) rfl (fun _ _ _ _ _ _ _ _ h=>h.elim) (ak (cA yf (hr.mono h3) rfl bt (ak (pv 0) aj)) (ak (pv 1) (ak (BU (params:=qc aP) (body:=qb aP) (scope:=iV aP) (pos:=bz aP) (qual:=aX) (clos:=[]) rfl hC BB rfl rfl) aj)))))),?_⟩
  refine⟨_,rfl,v,t,rfl,ht,hsz,to,fun l rs H1 vb _ nl lG Qd=>⟨_,rfl,vb.to _ hT,fun f c H2 nf sx G3 Gx LX sG=>⟨[f],fun b hb=>?_,fun cw lg=>?_⟩⟩⟩
  ·rw[List.mem_singleton.mp hb]
   exact vO LX
  ·obtain⟨pm,je,ho⟩:=lg.ext f (by simp) _ LX
   have to2:=vb.to.made xO hT sx G3 sG
   have HE:c∉[f]:=fun z=>lg.ju c z _ Gx
   have Pa:∀b∈[f],H1 b=none:=fun b z=>by rw[List.mem_singleton.mp z];exact nf
   have JJ:bY H1 (iE H2 [f]):=fun b xs e=>mG lg.only _ _ (sx.cM _ _ e)
   have ib:iE H2 [f] l=some (.lst rs):=by
    rw[cy fun z=>by rw[Pa l z] at lG;cases lG]
    exact sx.lst lG
   refine⟨l,rs,t,f1,f,ps,_,AA,J,fun H=>H c=some (dA c aX),g,rfl,ib,aq (fun _ _ z=>bB.mono z JJ) Qd,hsz,QJ.HS lg.lg,Ew ho,hJ,hA,fun H' ka=>?_,to2.del lg.only lg.ju,hJ _ _ (yD vb.sx sx Pa) NR,fun v' H' ka G0 j' gf gone=>?_⟩
   ·have e:iE H2 [f] c=some (dA c aX):=by rw[cy HE];exact Gx
    refine ka c _ (fun z=>?_) (fun _ z=>by cases z) e
    obtain⟨ba,q⟩:=hA _ (hJ _ _ (yD vb.sx sx Pa) NR) c z
    rw[e] at q;cases q
   ·refine k v' _ (.trans (.vx (vb.sx.trans sx)) ka.AR) (G0.add gone) (hJ _ _ (EF gone) j') (gf.mono (mH gone))
end
section
variable {P:Program}{w:World}{K:W.Frag}{mg:Str->Option Value}{base:Heap}
seal L2.PE L2.PA L2.PT L2.PS L2.nZ L2.PW L2.PG L2.uW L2.PI L2.PO L2.gy L2.wc L2.cE L2.mw L2.rS L2.rR
abbrev aB:Stmt:=inDef (top 8) 0
abbrev ff:Stmt:=top 8
theorem sD:a8 ["term","by","raised"] ["term","by"] (aw ff):=⟨rfl,rfl,rfl,by decide+kernel,rfl,by decide+kernel,by decide+kernel⟩
def bL:Str:=("lifted":Str)++".<locals>."++"raised"
theorem oG:gX ["part","forms"] ["by"] (aw aB):=⟨rfl,rfl,rfl,by decide+kernel,by decide+kernel,by decide+kernel,by decide+kernel,by decide+kernel⟩
theorem zS{f c cb:Addr}{doc pm je u:Value}{m:Nat}{TL:cS}(ho:base.get? f=some (ky "raised" bL (cz aB) (bX aB) (aw aB) [("by",cb)] doc pm c je))
  (pq:base.IsCell cb (some u))(hu:RelV (.int (m:Int)) u)(eX:GF P w K mg base bK 1 "is_outer" ["part","forms"] eZ):FV P w K mg base bK 2 f ["part","forms"] (pU TL [] (fun H=>H c=some (dA c bL)) (aO m)):=by
 refine⟨_,_,_,_,yX (k:=1) (CX:=bK) (fvs:=[.int (m:Int)]) ho oG (.cons ⟨cb,u,rfl,pq,hu⟩ .nil) ?_ ?_ ?_ ?_ ?_,ho,?_⟩
 ·intro x c' h
  have:=PySem.mem_of_lookup h
  simp at this
  simp[this]
 ·intro x y c' h1 h2
  have e1:=PySem.mem_of_lookup h1
  have e2:=PySem.mem_of_lookup h2
  simp at e1 e2
  rw[e1.1,e2.1]
 ·intro vs H Q E h
  obtain⟨v,t,k,rfl,_⟩:=h
  rfl
 ·intro vs H Q E h
  obtain⟨v,t,k,rfl,_,_,_,_,j,_⟩:=h
  exact j
 ·intro A outer s H vs Q E hr h
  obtain⟨v,t,n,rfl,LN,_,ht,to,hj,k⟩:=h
  refine⟨_,(ag (bj (dH (cA eX (hr.mono (by decide)) rfl bt (ak (pv 0) (ak (pv 1) aj)))) (ai (aU (cB (ak aC (ak (bU gI (aD ay (pv 0) ah (fun _ _=>rfl)) (pv 2)) aj))))) aZ)
   (ai (aU (pv 0)))),?_⟩
  show(let cP:TS:=_;let dj:TS:=_;aL (bS _ dj _) cP _ _ _)
  intro cP dj
  refine⟨_,rfl,_,rfl,v,t,n,rfl,ht,_,rfl,?_⟩
  cases ht with
  |name h=>exact cf ⟨_,rfl,k _ _ (.refl _ _) to hj (.name h)⟩
  |aa h hb=>cases LN
  |call h hx hy=>cases LN
  |@place a n1 h=>
   refine uj (fun hle=>?_) (fun eB=>?_)
   ·refine⟨_,rfl,_,_,_,_,rfl,rfl,aS.of h,gb,_,rfl,_,_,rfl,rfl,az (by show 2<=1000000;decide),fun b9 H9 n9 s9 h9=>?_⟩
    refine k _ _ (.of_same s9) (to.same s9) (s9 _ _ hj) ?_
    rw[show aO m (.place n1:Tm) n= .place (n1+m) by show(if n<=n1 then T.place (n1+m) else T.place n1:Tm)=_;rw[if_pos hle]]
    exact .place h9
   ·refine⟨_,rfl,k _ _ (.refl _ _) to hj ?_⟩
    rw[show aO m (.place n1:Tm) n= .place n1 by show(if n<=n1 then T.place (n1+m) else T.place n1:Tm)=_;rw[if_neg eB]]
    exact .place h
 ·exact .all fun us hl=>match us,hl with|[_,_],_=>rfl
inductive xY(TL:cS)(vs:List V)(H:Hp)(Q0:VK):Prop where
 |mk(v:_)(t:_)(m:Nat)(c1:vs=[v,.int (m:Int)])(c2:au H v t)(c3:t.size<=100000)(c4:TO TL H)(c5:∀v' H',ST TL H H'->au H' v' (t.lift m)->Q0 v' H')
def oy(TL:cS):Sp:=fun vs H Q0 lK=>xY TL vs H Q0
theorem zT{f c0 T0:Addr}{fd:FuncData}{TL:cS}(F:sj K "lifted" "lifted" ff f fd c0)(hC:PySem.W.codeHdIn K c0 T0=true)(BB:fC base mg)(xO:xW TL)(hT:(T0,bA aB,bL)∈TL)(eX:∀base,GF P w K mg base bK 1 "is_outer" ["part","forms"] eZ)
  (o4:GB P w K mg base bK 4 "rebuilt" ["term","change"] (gD TL 2 P w K mg)):cg P w K mg base bK 5 f fd ["term","by"] (oy TL):=by
 refine F.ok sD (fun vs H Q E h=>?_) (fun A outer s H vs Q E hr h=>?_)
 ·obtain⟨v,t,m,rfl,_⟩:=h
  rfl
 ·obtain⟨v,t,m,rfl,ht,hsz,to,k⟩:=h
  refine⟨_,(ag (BK (name:="raised") (qual:=bL) (params:=cz aB) (body:=bX aB) (scope:=aw aB) (pos:=bA aB) (i:=2) (clos:=[("by",s.heap.objs.size+1)]) rfl hC BB sD.nd rfl (Or.inl rfl) rfl rfl)
   (ag (bj (ax bC (pv 1) ah (aA _)) (ai (aU (pv 0))) aZ)
   (ai (aU (yu (E:=E0) o4 (hr.mono (by decide)) rfl (fun _ _ _ _ _ _ _ _ h=>h.elim) (ak (pv 0) (ak (pv 2) aj))))))),?_⟩
  show(let cP:TS:=_;let dj:TS:=_;let eW:TS:=aL (bS _ dj _) cP;aL _ eW _ _ _)
  intro cP dj eW
  refine⟨to _ hT,fun f c H1 nf sx DU L0 xF sG=>?_⟩
  have FH:=to.made xO hT sx DU sG
  have Ip:=ht.mono sx.cM
  refine⟨_,rfl,rfl,_,rfl,uj (fun e=>?_) (fun _=>?_)⟩
  ·have e:m=0:=by have:=V.int.inj e;omega
   subst e
   refine⟨_,rfl,k v H1 ⟨sx,FH⟩ ?_⟩
   rw[Aj]
   exact Ip
  ·refine⟨_,rfl,_,rfl,[f,s.heap.objs.size+1],fun b hb=>?_,fun cw lg=>?_⟩
   ·rcases List.mem_cons.mp hb with rfl|hb
    ·exact yT xF
    ·rw[List.mem_singleton.mp hb]
     exact .inr ⟨"by",rfl,rfl⟩
   ·obtain⟨doc,pm,je,ho⟩:=lg.ext f (by simp) _ xF
    obtain⟨u,sf,hu⟩:=lg.cell 1 "by" _ (s.heap.objs.size+1) rfl rfl rfl rfl (by simp)
    have HE:c∉[f,s.heap.objs.size+1]:=fun z=>lg.ju c z _ L0
    refine⟨v,t,f,_,[],fun H=>H c=some (dA c bL),aO m,rfl,Ip.mono (mG lg.only),hsz,zS ho sf hu (eX cw),fun _ _ n j=>n _ _ (fun _ z=>by cases z) (fun _ z=>by cases z) j,fun _ _ _ z=>absurd z (by simp),FH.del lg.only lg.ju,(cy HE).trans L0,fun v' H' ka G0 j' gf gone=>?_⟩
    exact k v' _ ⟨sx.trans ka.AR.sx,G0.add gone⟩ (gf.mono (mH gone))
end
section
variable {P:Program}{w:World}{K:W.Frag}{mg:Str->Option Value}{base:Heap}
seal L2.PE L2.PA L2.PT L2.PS L2.nZ L2.PW L2.PG L2.uW L2.PI L2.PO L2.gy L2.wc L2.cE L2.mw L2.rS L2.rR
abbrev dO:Stmt:=inClass (top 9) 0
theorem me:a8 ["self","term"] ["self","term"] (aw dO):=⟨rfl,rfl,rfl,by decide+kernel,rfl,by decide+kernel,by decide+kernel⟩
abbrev g7:Stmt:=inClass (top 9) 1
theorem tV:a8 ["self","forms"] ["self","forms"] (aw g7):=⟨rfl,rfl,rfl,by decide+kernel,rfl,by decide+kernel,by decide+kernel⟩
structure Jx(K:W.Frag)(C:Addr):Prop where
 cl:wA K C
 nT:iF K C "term"
 nR:iF K C "ready"
inductive Dk(C:Addr)(vs:List V)(H:Hp)(Q:VK):Prop where
 |mk(x:_)(dx:_)(v:_)(c1:vs=[.ref x,v])(c2:H x=some (.ins C dx []))(c3:∀d fs H',H d=none->d≠x->fs.lookup ("term":Str)=some v->fs.lookup ("ready":Str)=some (.ref d)->fs.lookup ("by":Str)=none->H' x=some (.ins C dx fs)->H' d=some (.dK [])->
 (∀b o,b≠x->H b=some o->H' b=some o)->Q .d0 H')
def tO(C:Addr):Sp:=fun vs H Q lK=>Dk C vs H Q
theorem Ey{f C:Addr}{fd:FuncData}(F:jS K "__init__" "Raised.__init__" dO f fd)(R:Jx K C):cg P w K mg base bK 1 f fd ["self","term"] (tO C):=by
 refine F.ok me (fun vs H Q E h=>?_) (fun fx A outer s H vs Q E hr h=>?_)
 ·obtain⟨x,dx,v,rfl,_⟩:=h
  rfl
 ·obtain⟨x,dx,v,rfl,hx,k⟩:=h
  refine⟨_,(ag (iw (pv 0) (pv 1) rfl)
   (ai (iw (pv 0) BW rfl))),?_⟩
  show(let cP:TS:=_;aL _ cP _ _ _)
  intro cP
  refine⟨_,rfl,_,rfl,x,C,dx,[],rfl,hx,R.cl,R.nT,by decide,fun d nd=>?_⟩
  have NP:d≠x:=fun z=>by rw[z,aH] at nd;cases nd
  refine⟨_,rfl,x,C,dx,_,rfl,by rw[aF NP.symm];exact aH,R.cl,R.nR,by show 1 < 1000;decide,?_⟩
  refine k d _ _ (by rw[aF NP] at nd;exact nd) NP ?_ ?_ ?_ aH (by rw[aF NP];exact aH) fun b o nb e=>?_
  ·rw[bw,if_neg (by decide+kernel),bw,if_pos rfl]
  ·rw[bw,if_pos rfl]
  ·rw[bw,if_neg (by decide+kernel),bw,if_neg (by decide+kernel)]
   rfl
  ·rw[aF nb]
   by_cases hb:b=d
   ·subst hb
    rw[aF nb] at nd
    rw[nd] at e
    cases e
   ·rw[aF hb,aF nb];exact e
inductive A8(C x d:Addr)(r:Tm)(H:Hp):Prop where
 |mk(dx:_)(fs:_)(v:_)(ba:_)(c1:H x=some (.ins C dx fs))(c2:fs.lookup ("term":Str)=some v)(c3:fs.lookup ("ready":Str)=some (.ref d))(c4:fs.lookup ("by":Str)=none)(c5:au H v r)(c6:H d=some (.dK ba))(c7:(ba.map (·.1)).Nodup)(c8:∀k v',fE ba k=some v'->∃n:Nat,n < 100001/\k= .inl (n:Int)/\au H v' (r.lift n))
def cu(C x d:Addr)(r:Tm)(H:Hp):Prop:=A8 C x d r H
theorem cu.kp{C x d:Addr}{r:Tm}{H H':Hp}(h:cu C x d r H)(n:∀b o,(∀ps,o≠ .gu ps)->(∀φ,o≠ .ext φ)->(∀xs,o≠ .lst xs)->H b=some o->H' b=some o):cu C x d r H':=by
 obtain⟨dx,fs,v,ba,h1,h2,h3,h4,h5,h6,h7,h8⟩:=h
 have tu:bY H H':=fun b xs e=>n b _ (fun _ z=>by cases z) (fun _ z=>by cases z) (fun _ z=>by cases z) e
 refine⟨dx,fs,v,ba,n _ _ (fun _ z=>by cases z) (fun _ z=>by cases z) (fun _ z=>by cases z) h1,h2,h3,h4,h5.mono tu,n _ _ (fun _ z=>by cases z) (fun _ z=>by cases z) (fun _ z=>by cases z) h6,h7,fun k v' e=>?_⟩
 obtain⟨m,q1,q2,q3⟩:=h8 k v' e
 exact⟨m,q1,q2,q3.mono tu⟩
theorem cu.nl{C x d:Addr}{r:Tm}{H H':Hp}(h:cu C x d r H)(n:NL H H'):cu C x d r H':=h.kp fun b o _ _ no e=>n b o no e
inductive Jt(TL:cS)(C:Addr)(vs:List V)(H:Hp)(Q:VK):Prop where
 |mk(x:_)(d:_)(r:_)(k:Nat)(c1:vs=[.ref x,.int (k:Int)])(c2:k<=100000)(c3:cu C x d r H)(c4:r.size<=100000)(c5:TO TL H)(c6:∀v' H',KA [d] H H'->cu C x d r H'->TO TL H'->au H' v' (r.lift k)->Q v' H')
def yj(TL:cS)(C:Addr):Sp:=fun vs H Q lK=>Jt TL C vs H Q
theorem cu.dk{C x d:Addr}{r:Tm}{H:Hp}(h:cu C x d r H):∃ba,H d=some (.dK ba):=let ⟨_,_,_,ba,_,_,_,_,_,h6,_,_⟩:=h;⟨ba,h6⟩
theorem cu.own{C x d:Addr}{r:Tm}{H:Hp}(h:cu C x d r H):Dp [d] H:=fun b hb=>by rw[List.mem_singleton.mp hb];exact h.dk
theorem TO.Oc{L:cS}{H:Hp}{d:Addr}{ba Le:List (Key×V)}(t:TO L H)(h:H d=some (.dK ba)):TO L (upd H d (.dK Le)):=fun x hx=>by
 have n:∀b o,H b=some o->(∀z,o≠ .dK z)->upd H d (.dK Le) b=some o:=fun b o e m=>by
  rw[aF fun z=>by rw[z,h] at e;cases e;exact m _ rfl]
  exact e
 rcases t x hx with a|⟨c,a,b⟩
 ·exact .inl (n _ _ a fun _ z=>by cases z)
 ·exact .inr ⟨c,n _ _ a (fun _ z=>by cases z),n _ _ b (fun _ z=>by cases z)⟩
theorem KL{f C:Addr}{fd:FuncData}{TL:cS}(F:jS K "by" "Raised.by" g7 f fd)(R:Jx K C)(Dz:GF P w K mg base bK 5 "lifted" ["term","by"] (oy TL)):cg P w K mg base bK 6 f fd ["self","forms"] (yj TL C):=by
 refine F.ok tV (fun vs H Q E h=>?_) (fun fx A outer s H vs Q E hr h=>?_)
 ·obtain⟨x,d,r,k,rfl,_⟩:=h
  rfl
 ·obtain⟨x,d,r,n,rfl,hn,⟨dx,fs,v,ba,h1,h2,h3,h4,h5,h6,h7,h8⟩,hsz,to,k⟩:=h
  have hu:=Lr hr
  refine⟨_,(ag (bj (Hm (zR hu (pv 1) (bQ (pv 0) rfl))) (ai (Ef hu (bQ (pv 0) rfl) (pv 1) (cA Dz (hr.mono (by decide)) rfl bt (ak (bQ (pv 0) rfl) (ak (pv 1) aj))) rfl)) aZ)
   (ai (aU (El hu (bQ (pv 0) rfl) (pv 1) (fun _ _=>rfl))))),?_⟩
  show(let cP:TS:=_;let dj:TS:=_;aL (bS _ dj _) cP _ _ _)
  intro cP dj
  refine⟨_,rfl,_,rfl,x,C,dx,fs,_,rfl,h1,R.cl,R.nR,h3,d,_,rfl,pP.k (k:= .inl (n:Int)) h6,_,rfl,?_⟩
  cases e:fE ba (.inl (n:Int)) with
  |some v'=>
   refine cf ⟨_,rfl,x,C,dx,fs,_,rfl,h1,R.cl,R.nR,h3,_,rfl,d,v',rfl,by rw[<-e];exact pP.k (k:= .inl (n:Int)) h6,?_⟩
   obtain⟨m,q1,q2,q3⟩:=h8 _ _ e
   have em:n=m:=by have:=Sum.inl.inj q2;omega
   subst em
   exact k v' H (KA.refl _ _) ⟨dx,fs,v,ba,h1,h2,h3,h4,h5,h6,h7,h8⟩ to q3
  |none=>
   refine fu ⟨_,rfl,x,C,dx,fs,_,rfl,h1,R.cl,R.nT,h2,_,rfl,v,r,n,rfl,h5,hsz,to,fun v' H1 vb gf=>?_⟩
   have g1:=vb.sx _ _ (fun _ z=>by cases z) h1
   have g6:=vb.sx _ _ (fun _ z=>by cases z) h6
   have tu:bY H H1:=vb.cM
   have hlen:ba.length < sizeLine:=by
    have:=EN 100001 (ba.map (·.1)) h7 fun kk hk=>by
     cases q:fE ba kk with
     |none=>exact absurd hk (u5 q)
     |some vv=>
      obtain⟨m,q1,q2,_⟩:=h8 kk vv q
      exact⟨m,q1,q2⟩
    rw[List.length_map] at this
    exact small (by omega)
   refine⟨_,rfl,x,C,dx,fs,_,rfl,g1,R.cl,R.nR,h3,_,rfl,d,_,rfl,yg.k (k:= .inl (n:Int)) (v:=v') g6 hlen,?_⟩
   have Mh:x≠d:=fun z=>by rw[z,g6] at g1;cases g1
   have e1:upd H1 d (.dK (putK ba (.inl (n:Int)) v')) x=some (.ins C dx fs):=by rw[aF Mh];exact g1
   have JJ:bY H1 (upd H1 d (.dK (putK ba (.inl (n:Int)) v'))):=fun b xs e=>by
    rw[aF fun z=>by rw[z,g6] at e;cases e];exact e
   refine⟨_,rfl,x,C,dx,fs,_,rfl,e1,R.cl,R.nR,h3,_,rfl,d,v',rfl,?_,?_⟩
   ·have q:=pP.k (k:=(.inl (n:Int):Key)) (aH (H:=H1) (a:=d) (o:= .dK (putK ba (.inl (n:Int)) v')))
    rw[u4,if_pos rfl] at q
    exact q
   ·refine k v' _ (fun b o nb m e=>?_) ⟨dx,fs,v,_,e1,h2,h3,h4,(h5.mono tu).mono JJ,aH,EG v' h7 e,fun kk vv q=>?_⟩ (vb.to.Oc g6) (gf.mono JJ)
    ·rw[aF fun z=>nb (by simp[z])]
     exact vb.sx b o m e
    ·rw[u4] at q
     by_cases hk:kk= .inl (n:Int)
     ·rw[if_pos hk] at q
      cases q
      exact⟨n,by omega,hk,gf.mono JJ⟩
     ·rw[if_neg hk] at q
      obtain⟨m,q1,q2,q3⟩:=h8 kk vv q
      exact⟨m,q1,q2,(q3.mono tu).mono JJ⟩
theorem cu.O8{C x d:Addr}{r:Tm}{H H':Hp}(h:cu C x d r H)(n:uM H H'):cu C x d r H':=h.kp fun b o m _ no e=>n b o no m e
theorem xc{C x dx d:Addr}{u:V}{r:Tm}{fs:List (Str×V)}{H H1:Hp}(Qc:au H u r)(nx:H x=none)(JM:H dx=none)(nd:upd (upd H dx (.own x)) x (.ins C dx []) d=none)(l1:fs.lookup ("term":Str)=some u)(l2:fs.lookup ("ready":Str)=some (.ref d))(l3:fs.lookup ("by":Str)=none)
  (pH:H1 x=some (.ins C dx fs))(QQ:H1 d=some (.dK []))(Pu:∀b o,b≠x->upd (upd H dx (.own x)) x (.ins C dx []) b=some o->H1 b=some o):aQ H H1/\cu C x d r H1/\H d=none:=by
 have oJ:aQ H H1:=fun b o e=>by
  have b1:b≠x:=fun z=>by rw[z,nx] at e;cases e
  have b2:b≠dx:=fun z=>by rw[z,JM] at e;cases e
  exact Pu b o b1 (by rw[aF b1,aF b2];exact e)
 refine⟨oJ,⟨dx,fs,u,[],pH,l1,l2,l3,Qc.same oJ,QQ,List.nodup_nil,fun k v' e=>by rw[Bm] at e;cases e⟩,?_⟩
 cases q:H d with
 |none=>rfl
 |some o=>
  have b1:d≠x:=fun z=>by rw[z,nx] at q;cases q
  have b2:d≠dx:=fun z=>by rw[z,JM] at q;cases q
  rw[aF b1,aF b2,q] at nd
  cases nd
theorem Ib{d:Addr}{H H':Hp}(a:KA [d] H H')(n:H d=none):cI H H':=fun b o m e=>a b o (fun z=>by rw[List.mem_singleton.mp z,n] at e;cases e) m e
abbrev aI:Stmt:=inDef (top 10) 1
abbrev fg:Stmt:=top 10
theorem oH:a8 ["body","term","raised","fill"] ["body","term"] (aw fg):=⟨rfl,rfl,rfl,by decide+kernel,rfl,by decide+kernel,by decide+kernel⟩
def cQ:Str:=("filled":Str)++".<locals>."++"fill"
theorem qI:gX ["part","forms"] ["raised"] (aw aI):=⟨rfl,rfl,rfl,by decide+kernel,by decide+kernel,by decide+kernel,by decide+kernel,by decide+kernel⟩
theorem EA{f c cb C x d:Addr}{doc pm je u:Value}{r:Tm}{TL:cS}(ho:base.get? f=some (ky "fill" cQ (cz aI) (bX aI) (aw aI) [("raised",cb)] doc pm c je))
  (pq:base.IsCell cb (some u))(hu:RelV (.ref x) u)(hsz:r.size<=100000)(eX:GF P w K mg base bK 1 "is_outer" ["part","forms"] eZ)(cls:wA K C)(JE:GM P w K mg base bK 6 C "by" ["self","forms"] (yj TL C)):FV P w K mg base bK 7 f ["part","forms"] (pU TL [d] (fun H=>cu C x d r H/\H c=some (dA c cQ)) (aK r)):=by
 refine⟨_,_,_,_,yX (k:=6) (CX:=bK) (fvs:=[.ref x]) ho qI (.cons ⟨cb,u,rfl,pq,hu⟩ .nil) ?_ ?_ ?_ ?_ ?_,ho,?_⟩
 ·intro x c' h
  have:=PySem.mem_of_lookup h
  simp at this
  simp[this]
 ·intro x y c' h1 h2
  have e1:=PySem.mem_of_lookup h1
  have e2:=PySem.mem_of_lookup h2
  simp at e1 e2
  rw[e1.1,e2.1]
 ·intro vs H Q E h
  obtain⟨v,t,k,rfl,_⟩:=h
  rfl
 ·intro vs H Q E h
  obtain⟨v,t,k,rfl,_,_,_,_,j,_⟩:=h
  exact j.2
 ·intro A outer s H vs Q E hr h
  obtain⟨v,t,n,rfl,LN,hn,ht,to,hj,k⟩:=h
  refine⟨_,(ag (bj (fK (dH (cA eX (hr.mono (by decide)) rfl bt (ak (pv 0) (ak (pv 1) aj))))) (ai (aU (pv 0))) aZ)
   (ag (bj (ax bC (aD ay (pv 0) ah (fun _ _=>rfl)) (pv 1) (aA _)) (ai (aU (vj (pv 2) cls JE (hr.mono (by decide)) bt (ak (pv 1) aj)))) aZ)
   (ai (aU (cB (ak aC (ak (bU mi (aD ay (pv 0) ah (fun _ _=>rfl)) ah) aj))))))),?_⟩
  show(let cP:TS:=_;let dj:TS:=_;let eW:TS:=aL (bS _ dj _) cP;let fy:TS:=_;aL (bS _ fy _) eW _ _ _)
  intro cP dj eW fy
  refine⟨_,rfl,_,rfl,v,t,n,rfl,ht,_,rfl,?_⟩
  cases ht with
  |name h=>exact fu ⟨_,rfl,k _ _ (.refl _ _) to hj (.name h)⟩
  |aa h hb=>cases LN
  |call h hx hy=>cases LN
  |@place a n1 h=>
   have kk:∀v' H',KA [d] H H'->TO TL H'->cu C x d r H'/\H' c=some (dA c cQ)->au H' v' (if n1 < n then T.place n1 else if n1=n then r.lift n else T.place (n1 - 1))->Q v' H':=k
   by_cases hle:n<=n1
   ·rw[show T.outer (.place n1) n=true from decide_eq_true hle]
    rw[if_neg (by omega)] at kk
    refine cf ⟨_,rfl,_,_,_,_,rfl,rfl,aS.of h,gb,_,rfl,rfl,_,rfl,uj (fun heq=>?_) (fun lF=>?_)⟩
    ·have heq:n1=n:=by have:=V.int.inj heq;omega
     rw[if_pos heq] at kk
     obtain⟨h1,hc⟩:=hj
     obtain⟨dx,fs,v0,ba,g1,g2,g3,g4,g5⟩:=id h1
     refine⟨_,rfl,x,dx,fs,rfl,g1,g4,_,rfl,x,d,r,n,rfl,hn,h1,hsz,to,fun v' H' ka ra G0 gf=>?_⟩
     refine kk v' H' ka G0 ⟨ra,ka c _ (fun z=>?_) (fun _ z=>by cases z) hc⟩ gf
     obtain⟨kv,q⟩:=h1.own c z
     rw[hc] at q;cases q
    ·rw[if_neg fun z=>lF (by rw[z])] at kk
     have lF:n1≠n:=fun z=>lF (by rw[z])
     refine⟨_,rfl,_,_,_,_,rfl,rfl,aS.of h,gb,_,_,rfl,rfl,az (by show 2<=1000000;decide),fun b9 H9 n9 s9 h9=>?_⟩
     have e:((n1:Int) - 1)=((n1 - 1:Nat):Int):=by omega
     have h9:H9 b9=some (.tup [.str "place",.int ((n1:Int) - 1)]):=h9
     rw[e] at h9
     exact kk _ _ (.of_same s9) (to.same s9) ⟨hj.1.O8 (.of_same s9),s9 _ _ hj.2⟩ (.place h9)
   ·rw[show T.outer (.place n1) n=false from decide_eq_false hle]
    rw[if_pos (by omega)] at kk
    exact fu ⟨_,rfl,kk _ _ (.refl _ _) to hj (.place h)⟩
 ·exact .all fun us hl=>match us,hl with|[_,_],_=>rfl
inductive xZ(TL:cS)(vs:List V)(H:Hp)(Q:VK):Prop where
 |mk(v:_)(t:_)(u:_)(r:_)(c1:vs=[v,u])(c2:au H v t)(c3:au H u r)(c4:t.size<=100000)(c5:r.size<=100000)(c6:TO TL H)(c7:∀v' H',ST TL H H'->au H' v' (t.fill r)->Q v' H')
def oz(TL:cS):Sp:=fun vs H Q lK=>xZ TL vs H Q
theorem zU{f c0 C T0:Addr}{fd:FuncData}{TL:cS}(F:sj K "filled" "filled" fg f fd c0)(hC:PySem.W.codeHdIn K c0 T0=true)(BB:fC base mg)(xO:xW TL)(hT:(T0,bA aI,cQ)∈TL)(cls:wA K C)(eX:∀base,GF P w K mg base bK 1 "is_outer" ["part","forms"] eZ)
  (DD:GK P w K mg base bK 1 C "Raised" ["self","term"] (tO C))(JE:∀cw,(∀b o,base.get? b=some o->cw.get? b=some o)->GM P w K mg cw bK 6 C "by" ["self","forms"] (yj TL C))
  (o4:GB P w K mg base bK 9 "rebuilt" ["term","change"] (gD TL 7 P w K mg)):cg P w K mg base bK 10 f fd ["body","term"] (oz TL):=by
 refine F.ok oH (fun vs H Q E h=>?_) (fun A outer s H vs Q E hr h=>?_)
 ·obtain⟨v,t,u,r,rfl,_⟩:=h
  rfl
 ·obtain⟨v,t,u,r,rfl,ht,Qc,hsz,Iq,to,k⟩:=h
  refine⟨_,(ag (aE (i:=2) oH.nd rfl (Or.inr rfl) (BV DD (hr.mono (by decide)) rfl bt (ak (pv 1) aj)))
   (ag (BK (name:="fill") (qual:=cQ) (params:=cz aI) (body:=bX aI) (scope:=aw aI) (pos:=bA aI) (i:=3) (clos:=[("raised",s.heap.objs.size+1)]) rfl hC BB oH.nd rfl (Or.inl rfl) rfl rfl)
   (ai (aU (yu (E:=E0) o4 (hr.mono (by decide)) rfl (fun _ _ _ _ _ _ _ _ h=>h.elim) (ak (pv 0) (ak (pv 3) aj))))))),?_⟩
  show(let cP:TS:=_;let dj:TS:=aL _ cP;aL _ dj _ _ _)
  intro cP dj
  refine⟨_,rfl,fun x dx nx JM nxd=>⟨x,dx,u,rfl,aH,fun d fs H1 nd WN l1 l2 l3 pH QQ Pu=>⟨rfl,?_⟩⟩⟩
  obtain⟨oJ,Wm,Bb⟩:=xc Qc nx JM nd l1 l2 l3 pH QQ Pu
  have FH:=to.same oJ
  refine⟨FH _ hT,fun f c H2 nf sx G3 Gx LX sG=>?_⟩
  have to2:=FH.made xO hT sx G3 sG
  have Lx:=(ht.same oJ).mono sx.cM
  have Wl:=Wm.O8 (.vx sx)
  refine⟨_,rfl,_,rfl,[f,s.heap.objs.size+1],fun b hb=>?_,fun cw lg=>?_⟩
  ·rcases List.mem_cons.mp hb with rfl|hb
   ·exact yT LX
   ·rw[List.mem_singleton.mp hb]
    exact .inr ⟨"raised",rfl,rfl⟩
  ·obtain⟨doc,pm,je,ho⟩:=lg.ext f (by simp) _ LX
   obtain⟨uu,sf,Um⟩:=lg.cell 2 "raised" _ (s.heap.objs.size+1) rfl rfl rfl rfl (by simp)
   have HE:c∉[f,s.heap.objs.size+1]:=fun z=>lg.ju c z _ Gx
   have Wk:cu C x d r (iE H2 [f,s.heap.objs.size+1]):=Wl.kp fun b o n1 n2 n3 e=>by rw[cy fun z=>by obtain⟨φ,q⟩:=lg.only b z _ e;exact n2 φ q];exact e
   refine⟨v,t,f,_,[d],_,aK r,rfl,Lx.mono (mG lg.only),hsz,EA ho sf Um Iq (eX cw) cls (JE cw lg.lg.get),fun _ _ n j=>⟨j.1.O8 n,n _ _ (fun _ z=>by cases z) (fun _ z=>by cases z) j.2⟩,fun _ j=>j.1.own,to2.del lg.only lg.ju,⟨Wk,(cy HE).trans Gx⟩,fun v' H' ka G0 j' gf gone=>?_⟩
   exact k v' _ ⟨Ib (.trans (.vx (cI.trans (.of oJ) sx)) ka.AR) Bb,G0.add gone⟩ (gf.mono (mH gone))
end
theorem dI{n m:Int}:decide (V.int n=V.int m)=decide (n=m):=by
 by_cases h:n=m
 ·rw[decide_eq_true h,decide_eq_true (by rw[h])]
 ·rw[decide_eq_false h,decide_eq_false fun z=>h (V.int.inj z)]
theorem vU{α:Type}{ps:List α}{i:Nat}{n:α}(h:ps[i]? =some n):ps.drop i=n::ps.drop (i+1):=by
 obtain⟨hl,e⟩:=List.getElem?_eq_some_iff.mp h
 rw[<-e]
 exact List.drop_eq_getElem_cons hl
section
variable {P:Program}{w:World}{K:W.Frag}{mg:Str->Option Value}{base:Heap}
seal L2.PE L2.PA L2.PT L2.PS L2.nZ L2.PW L2.PG L2.uW L2.PI L2.PO L2.gy L2.wc L2.cE L2.mw L2.rS L2.rR
abbrev d9:Stmt:=inClass (top 14) 0
theorem mR:a8 ["self","term"] ["self","term"] (aw d9):=⟨rfl,rfl,rfl,by decide+kernel,rfl,by decide+kernel,by decide+kernel⟩
abbrev d6:Stmt:=inClass (top 14) 1
theorem mQ:a8 ["self","turn"] ["self","turn"] (aw d6):=⟨rfl,rfl,rfl,by decide+kernel,rfl,by decide+kernel,by decide+kernel⟩
abbrev eO:Stmt:=inClass (top 14) 2
theorem iR:a8 ["self","turn","part"] ["self","turn"] (aw eO):=⟨rfl,rfl,rfl,by decide+kernel,rfl,by decide+kernel,by decide+kernel⟩
abbrev fU:Stmt:=inClass (top 14) 3
theorem kj:a8 ["self","over"] ["self"] (aw fU):=⟨rfl,rfl,rfl,by decide+kernel,rfl,by decide+kernel,by decide+kernel⟩
abbrev dM:Stmt:=inClass (top 14) 4
theorem ma:a8 ["self"] ["self"] (aw dM):=⟨rfl,rfl,rfl,by decide+kernel,rfl,by decide+kernel,by decide+kernel⟩
abbrev dJ:Stmt:=inClass (top 14) 5
theorem l0:a8 ["self"] ["self"] (aw dJ):=⟨rfl,rfl,rfl,by decide+kernel,rfl,by decide+kernel,by decide+kernel⟩
abbrev eQ:Stmt:=inClass (top 14) 8
theorem oI:a8 ["self"] ["self"] (aw eQ):=⟨rfl,rfl,rfl,by decide+kernel,rfl,by decide+kernel,by decide+kernel⟩
abbrev fV:Stmt:=inClass (top 14) 6
theorem kl:a8 ["self","called"] ["self"] (aw fV):=⟨rfl,rfl,rfl,by decide+kernel,rfl,by decide+kernel,by decide+kernel⟩
abbrev dN:Stmt:=inClass (top 14) 7
theorem md:a8 ["self"] ["self"] (aw dN):=⟨rfl,rfl,rfl,by decide+kernel,rfl,by decide+kernel,by decide+kernel⟩
inductive AW(C hA:Addr)(vs:List V)(H:Hp)(Q:VK):Prop where
 |mk(x:_)(dx:_)(v:_)(t:_)(c1:vs=[.ref x,v])(c2:H x=some (.ins C dx []))(c3:au H v t)(c4:∀ab H',H ab=none->ab≠x->dq C x ab hA t [] H'->(∀b o,b≠x->H b=some o->H' b=some o)->Q .d0 H')
def mL(C hA:Addr):Sp:=fun vs H Q lK=>AW C hA vs H Q
theorem B9{f C hA:Addr}{fd:FuncData}(F:jS K "__init__" "Stand.__init__" d9 f fd)(R:jc K C):cg P w K mg base bK 1 f fd ["self","term"] (mL C hA):=by
 refine F.ok mR (fun vs H Q E h=>?_) (fun fx A outer s H vs Q E hr h=>?_)
 ·obtain⟨x,dx,v,t,rfl,_⟩:=h
  rfl
 ·obtain⟨x,dx,v,t,rfl,hx,ht,k⟩:=h
  refine⟨_,(ag (iw (pv 0) (pv 1) rfl)
   (ai (iw (pv 0) (et aj) rfl))),?_⟩
  show(let cP:TS:=_;aL _ cP _ _ _)
  intro cP
  refine⟨_,rfl,_,rfl,x,C,dx,[],rfl,hx,R.cl,R.nP,by decide,?_⟩
  refine⟨az (by simp),fun bg H3 nb s3 QY=>⟨_,rfl,x,C,dx,_,rfl,s3 _ _ aH,R.cl,R.nA,by show 1 < 1000;decide,?_⟩⟩
  have QU:bg≠x:=fun z=>by rw[z,aH] at nb;cases nb
  have kk:∀b o,b≠x->H b=some o->(upd H3 x (.ins C dx (e9 ("above":Str) (.ref bg) (e9 ("part":Str) v [])))) b=some o:=fun b o n e=>by
   rw[aF n]
   refine s3 _ _ ?_
   rw[aF n]
   exact e
  refine k bg _ ?_ QU ⟨dx,_,v,[],⟨aH,?_,?_,?_,?_⟩,ht.mono fun b xs e=>kk b _ (fun z=>by rw[z,hx] at e;cases e) e,by rw[aF QU];exact QY,.nil⟩ kk
  ·rw[aF QU] at nb;exact nb
  ·rw[bw,if_neg (by decide+kernel),bw,if_pos rfl]
  ·rw[bw,if_pos rfl]
  ·intro m hm
   have ne:∀z∈tJ,z≠"above"/\z≠"part":=by decide+kernel
   obtain⟨h1,h2⟩:=ne m hm
   rw[bw,if_neg h1,bw,if_neg h2]
   rfl
  ·refine Nat.lt_of_le_of_lt (hZ _ _ _) (Nat.succ_lt_succ ?_:_ < 899+1)
   refine Nat.lt_of_le_of_lt (hZ _ _ _) (by decide)
inductive AY(C hA:Addr)(vs:List V)(H:Hp)(Q:VK):Prop where
 |mk(x:_)(ab:_)(t:_)(S:_)(n:_)(c1:vs=[.ref x,.int n])(c2:dq C x ab hA t S H)(c3:Q (.bl (gm t n)) H)
def qE(C hA:Addr):Sp:=fun vs H Q lK=>AY C hA vs H Q
theorem Ca{f C hA:Addr}{fd:FuncData}(F:jS K "leads_on" "Stand.leads_on" d6 f fd)(R:jc K C):cg P w K mg base bK 1 f fd ["self","turn"] (qE C hA):=by
 refine F.ok mQ (fun vs H Q E h=>?_) (fun fx A outer s H vs Q E hr h=>?_)
 ·obtain⟨x,ab,t,S,n,rfl,_⟩:=h
  rfl
 ·obtain⟨x,ab,t,S,n,rfl,⟨dx,fs,tv,vs,hx,ht,hb,hp⟩,k⟩:=h
  refine⟨_,(ag (bj (ax bC (aD ay (bQ (pv 0) rfl) ah (fun _ _=>rfl)) aC (aA _)) (ai (aU (KC (dP bC (pv 1) ah (aA _)) (oP (dP bC (pv 1) ah (aA _)))))) aZ)
   (ai (aU (oQ (dP bC (aD ay (bQ (pv 0) rfl) ah (fun _ _=>rfl)) aC (aA _)) (oP (dP bC (pv 1) ah (aA _))))))),?_⟩
  show(let cP:TS:=_;let dj:TS:=_;aL (bS _ dj _) cP _ _ _)
  intro cP dj
  cases ht with
  |name h=>exact⟨_,rfl,x,C,dx,fs,_,rfl,hx.ins,R.cl,R.nP,hx.part,_,_,_,_,rfl,rfl,aS.of h,bW,rfl,_,rfl,dh pF ⟨_,rfl,x,C,dx,fs,_,rfl,hx.ins,R.cl,R.nP,hx.part,_,_,_,_,rfl,rfl,aS.of h,bW,rfl,_,rfl,dh pE k⟩⟩
  |place h=>exact⟨_,rfl,x,C,dx,fs,_,rfl,hx.ins,R.cl,R.nP,hx.part,_,_,_,_,rfl,rfl,aS.of h,bW,rfl,_,rfl,dh pD ⟨_,rfl,x,C,dx,fs,_,rfl,hx.ins,R.cl,R.nP,hx.part,_,_,_,_,rfl,rfl,aS.of h,bW,rfl,_,rfl,dh pC k⟩⟩
  |aa h _=>
   refine⟨_,rfl,x,C,dx,fs,_,rfl,hx.ins,R.cl,R.nP,hx.part,_,_,_,_,rfl,rfl,aS.of h,bW,rfl,_,rfl,dh vB ⟨_,rfl,x,C,dx,fs,_,rfl,hx.ins,R.cl,R.nP,hx.part,_,_,_,_,rfl,rfl,aS.of h,bW,rfl,_,rfl,ia rfl ⟨_,rfl,rfl,?_⟩⟩⟩
   rw[dI]
   exact k
  |@call a1 v1 u1 t1 t2 h Av hy=>
   refine⟨_,rfl,x,C,dx,fs,_,rfl,hx.ins,R.cl,R.nP,hx.part,_,_,_,_,rfl,rfl,aS.of h,bW,rfl,_,rfl,ia rfl ⟨_,rfl,rfl,_,rfl,?_⟩⟩
   by_cases h0:n=0
   ·subst h0
    exact ia rfl k
   ·refine dh (fun z=>h0 (V.int.inj z)) ⟨_,rfl,rfl,?_⟩
    rw[dI]
    have e:gm (.call t1 t2) n=decide (n=1):=by show(decide (n=0)||decide (n=1))=_;rw[decide_eq_false h0];rfl
    rw[<-e]
    exact k
inductive Dm(C hA:Addr)(vs:List V)(H:Hp)(Q:VK):Prop where
 |mk(x:_)(ab:_)(t:_)(S:_)(n:_)(c1:vs=[.ref x,.int n])(c2:dq C x ab hA t S H)(c3:gm t n=true)(c4:S.length<=1000)(c5:∀H',bh [x,ab] H H'->dq C x ab hA (child t n) (frame t n::S) H'->Q .d0 H')
def pV(C hA:Addr):Sp:=fun vs H Q lK=>Dm C hA vs H Q
theorem EB{f C hA:Addr}{fd:FuncData}(F:jS K "go_down" "Stand.go_down" eO f fd)(R:jc K C)(hH:rO K mg hA):cg P w K mg base bK 1 f fd ["self","turn"] (pV C hA):=by
 refine F.ok iR (fun vs H Q E h=>?_) (fun fx A outer s H vs Q E hr h=>?_)
 ·obtain⟨x,ab,t,S,n,rfl,_⟩:=h
  rfl
 ·obtain⟨x,ab,t,S,n,rfl,⟨dx,fs,tv,vs,hx,ht,hb,hp⟩,hl,hS,k⟩:=h
  have hvs:vs.length<=1000:=by rw[Paired.length hp,List.length_reverse];exact hS
  refine⟨_,(ag (aE (i:=2) iR.nd rfl (Or.inl rfl) (bQ (pv 0) rfl))
   (ag (bj (ax bC (aD ay (pv 2) ah (fun _ _=>rfl)) aC (aA _)) (ai (a0 (eA (bQ (pv 0) rfl) (cB (ak aC (ak (mW (v:= .ref hA) rfl hH.m rfl) aj)))))) (ai (bj (ax bC (pv 1) ah (aA _)) (ai (a0 (eA (bQ (pv 0) rfl) (cB (ak aC (ak (mW (v:= .ref hA) rfl hH.m rfl) (ak (aD ay (pv 2) ah (fun _ _=>rfl)) aj))))))) (ai (a0 (eA (bQ (pv 0) rfl) (cB (ak aC (ak (aD ay (pv 2) ah (fun _ _=>rfl)) (ak (mW (v:= .ref hA) rfl hH.m rfl) aj))))))))))
   (ai (iw (pv 0) (aD ay (pv 2) (bU gI ah (pv 1)) (fun _ _=>rfl)) rfl)))),?_⟩
  show(let cP:TS:=_;let dj:TS:=_;let eW:TS:=_;let fy:TS:=_;let fW:TS:=bS _ eW fy;let iI:TS:=aL (bS _ dj fW) cP;aL _ iI _ _ _)
  intro cP dj eW fy fW iI
  refine⟨_,rfl,x,C,dx,fs,_,rfl,hx.ins,R.cl,R.nP,hx.part,?_⟩
  -- behind the append
  have fin:∀{p:Addr}{ys:List V}{c:V}{fm:Fm Str}{tc:Tm}{H1 H2:Hp},aQ H H1->H1 p=some (.tup ys)->o6 hA H1 (.ref p) fm->au H1 c tc->bh [ab] H1 H2->H2 ab=some (.lst (vs++[.ref p]))->fm=frame t n->tc=child t n->
    Q .d0 (upd H2 x (.ins C dx (e9 ("part":Str) c fs))):=by
   intro p ys c fm tc H1 H2 s1 Be hf hc k2 rq e1 e2
   have ur:=s1 _ _ hb
   have tu:=k2.dS ur
   have ml:uV C x ab dx fs tv H2:=hx.keep ((k2.at (s1 _ _ hx.ins) (hx.ne hb).symm).trans hx.ins.symm)
   obtain⟨q1,q2⟩:=dq.set (S:=fm::S) ml rq (by rw[List.reverse_cons];exact aJ (hf.mono tu) (eJ (eJ hp (.of_same s1)) tu)) (hc.mono tu)
   rw[e1,e2] at q1
   exact k _ (((bh.of_same s1).trans (k2.sub (by simp))).trans (q2.sub (by simp))) q1
  cases ht with
  |name h=>cases hl
  |place h=>cases hl
  |aa h hc=>
   have h0:n=0:=of_decide_eq_true hl
   subst h0
   refine⟨_,rfl,_,_,_,_,rfl,rfl,aS.of h,bW,rfl,_,rfl,ia rfl ?_⟩
   refine⟨_,rfl,x,C,dx,fs,_,rfl,hx.ins,R.cl,R.nA,hx.above,Or.inl ⟨rfl,_,bp.of hb⟩,az (by show 2<=1000000;decide),fun p H1 np s1 h1=>⟨_,_,_,rfl,rfl,s1 _ _ hb,small (by omega),fun H2 k2 rq=>?_⟩⟩
   have h2:=k2.dS (s1 _ _ hb) _ _ (s1 _ _ h)
   exact⟨_,rfl,_,rfl,_,_,rfl,rfl,_,_,_,_,rfl,rfl,aS.of h2,gb,_,rfl,x,C,dx,fs,rfl,k2.at (s1 _ _ hx.ins) (hx.ne hb).symm,R.cl,R.nP,Nat.lt_trans hx.d3 (by decide),fin s1 h1 (.aa h1) (hc.same s1) k2 rq rfl rfl⟩
  |call h Av hy=>
   refine⟨_,rfl,_,_,_,_,rfl,rfl,aS.of h,bW,rfl,_,rfl,dh m7 ⟨_,rfl,rfl,_,rfl,?_⟩⟩
   by_cases h0:n=0
   ·subst h0
    refine ia rfl ?_
    refine⟨_,rfl,x,C,dx,fs,_,rfl,hx.ins,R.cl,R.nA,hx.above,Or.inl ⟨rfl,_,bp.of hb⟩,_,rfl,_,_,_,_,rfl,rfl,aS.of h,at2,az (by show 3<=1000000;decide),fun p H1 np s1 h1=>⟨_,_,_,rfl,rfl,s1 _ _ hb,small (by omega),fun H2 k2 rq=>?_⟩⟩
    have h2:=k2.dS (s1 _ _ hb) _ _ (s1 _ _ h)
    exact⟨_,rfl,_,rfl,_,_,rfl,rfl,_,_,_,_,rfl,rfl,aS.of h2,gb,_,rfl,x,C,dx,fs,rfl,k2.at (s1 _ _ hx.ins) (hx.ne hb).symm,R.cl,R.nP,Nat.lt_trans hx.d3 (by decide),fin s1 h1 (.one h1 (hy.same s1)) (Av.same s1) k2 rq rfl rfl⟩
   ·have h1:n=1:=by
     have UB:(decide (n=0)||decide (n=1))=true:=hl
     rw[decide_eq_false h0,Bool.false_or] at UB
     exact of_decide_eq_true UB
    subst h1
    refine dh (fun z=>h0 (V.int.inj z)) ?_
    refine⟨_,rfl,x,C,dx,fs,_,rfl,hx.ins,R.cl,R.nA,hx.above,Or.inl ⟨rfl,_,bp.of hb⟩,_,rfl,_,_,_,_,rfl,rfl,aS.of h,gb,az (by show 3<=1000000;decide),fun p H1 np s1 h1=>⟨_,_,_,rfl,rfl,s1 _ _ hb,small (by omega),fun H2 k2 rq=>?_⟩⟩
    have h2:=k2.dS (s1 _ _ hb) _ _ (s1 _ _ h)
    exact⟨_,rfl,_,rfl,_,_,rfl,rfl,_,_,_,_,rfl,rfl,aS.of h2,at2,_,rfl,x,C,dx,fs,rfl,k2.at (s1 _ _ hx.ins) (hx.ne hb).symm,R.cl,R.nP,Nat.lt_trans hx.d3 (by decide),fin s1 h1 (.other h1 (Av.same s1)) (hy.same s1) k2 rq rfl rfl⟩
inductive Jq(C hA:Addr)(vs:List V)(H:Hp)(Q:VK):Prop where
 |mk(x:_)(ab:_)(t:_)(f:_)(S:_)(c1:vs=[.ref x])(c2:dq C x ab hA t (f::S) H)(c3:f.sP<=190)(c4:∀H',bh [x,ab] H H'->dq C x ab hA (cZ f t) S H'->Q .d0 H')
def vc(C hA:Addr):Sp:=fun vs H Q lK=>Jq C hA vs H Q
theorem KH{f C hA:Addr}{fd:FuncData}(F:jS K "go_up" "Stand.go_up" fU f fd)(R:jc K C)(hH:rO K mg hA):cg P w K mg base bK 1 f fd ["self"] (vc C hA):=by
 refine F.ok kj (fun vs H Q E h=>?_) (fun fx A outer s H vs Q E hr h=>?_)
 ·obtain⟨x,ab,t,f,S,rfl,_⟩:=h
  rfl
 ·obtain⟨x,ab,t,fm,S,rfl,⟨dx,fs,tv,vs,hx,ht,hb,hp⟩,Iu,k⟩:=h
  have hu:A.units+3+16*0+200 < cLine:=hr.un
  rw[List.reverse_cons] at hp
  obtain⟨my,v,rfl,Qk,hf⟩:=bo hp
  refine⟨_,(ag (aE (i:=1) kj.nd rfl (Or.inl rfl) (iA (bQ (pv 0) rfl)))
   (ai (bj (ax bC (aD ay (pv 1) ah (fun _ _=>rfl)) aC (aA _)) (ai (iw (pv 0) (cB (ak aC (ak (bQ (pv 0) rfl) aj))) rfl)) (ai (bj (ax xj (aD ay (pv 1) ah (fun _ _=>rfl)) (mW (v:= .ref hA) rfl hH.m rfl) (aA _)) (ai (iw (pv 0) (cB (ak aC (ak (bQ (pv 0) rfl) (ak (aD ay (pv 1) ah (fun _ _=>rfl)) aj)))) rfl)) (ai (iw (pv 0) (cB (ak aC (ak (aD ay (pv 1) ah (fun _ _=>rfl)) (ak (bQ (pv 0) rfl) aj)))) rfl))))))),?_⟩
  show(let cP:TS:=_;let dj:TS:=_;let eW:TS:=_;let fy:TS:=bS _ dj eW;let fW:TS:=bS _ cP fy;aL _ fW _ _ _)
  intro cP dj eW fy fW
  refine⟨_,rfl,x,C,dx,fs,_,rfl,hx.ins,R.cl,R.nA,hx.above,Or.inl ⟨rfl,_,bp.of hb⟩,_,_,_,rfl,rfl,hb,fun H1 k1 ur=>?_⟩
  have DS:=k1.dS hb
  have pH:uV C x ab dx fs tv H1:=hx.keep ((k1.at hx.ins (hx.ne hb).symm).trans hx.ins.symm)
  have Be:=eJ Qk DS
  have Ip:=ht.mono DS
  have fin:∀{p:Addr}{t':Tm}{H2:Hp},aQ H1 H2->au H2 (.ref p) t'->t'=cZ fm t->Q .d0 (upd H2 x (.ins C dx (e9 ("part":Str) (.ref p) fs))):=by
   intro p t' H2 s2 hq e
   have ml:uV C x ab dx fs tv H2:=pH.keep ((s2 _ _ pH.ins).trans pH.ins.symm)
   obtain⟨q1,q2⟩:=dq.set (S:=S) ml (s2 _ _ ur) (eJ Be (.of_same s2)) hq
   rw[e] at q1
   exact k _ (((k1.sub (by simp)).trans (bh.of_same s2)).trans (q2.sub (by simp))) q1
  cases hf with
  |aa h=>
   have h1:=DS _ _ h
   refine⟨_,rfl,_,_,_,_,rfl,rfl,aS.of h1,bW,rfl,_,rfl,ia rfl ⟨_,rfl,x,C,dx,fs,_,rfl,pH.ins,R.cl,R.nP,pH.part,az (by show 2<=1000000;decide),fun p H2 np s2 h2=>?_⟩⟩
   exact⟨_,rfl,x,C,dx,fs,rfl,s2 _ _ pH.ins,R.cl,R.nP,Nat.lt_trans hx.d3 (by decide),fin s2 (.aa h2 (Ip.same s2)) rfl⟩
  |@one p1 u1 t1 h hq=>
   have h1:=DS _ _ h
   refine⟨_,rfl,_,_,_,_,rfl,rfl,aS.of h1,bW,rfl,_,rfl,dh m7 ⟨_,rfl,_,_,_,_,rfl,rfl,aS.of h1,gb,?_⟩⟩
   refine⟨1,.tup [.str "hole"],.tup [.str "hole"],hA,hA,rfl,rfl,⟨trivial,trivial⟩,by show A.units+3+1+1 < cLine;omega,iZ hH _,iZ hH _,fun b og=>?_⟩
   rw[og.mpr rfl]
   refine⟨_,rfl,fu ⟨_,rfl,x,C,dx,fs,_,rfl,pH.ins,R.cl,R.nP,pH.part,_,rfl,_,_,_,_,rfl,rfl,aS.of h1,at2,az (by show 3<=1000000;decide),fun p H2 np s2 h2=>?_⟩⟩
   exact⟨_,rfl,x,C,dx,fs,rfl,s2 _ _ pH.ins,R.cl,R.nP,Nat.lt_trans hx.d3 (by decide),fin s2 (.call h2 (Ip.same s2) ((hq.mono DS).same s2)) rfl⟩
  |@other p1 u1 t1 h hq=>
   have h1:=DS _ _ h
   have NF:=hq.mono DS
   obtain⟨a1,rfl⟩:=NF.ref
   have hd:t1.deep<=191:=Nat.le_trans Iu (by decide)
   refine⟨_,rfl,_,_,_,_,rfl,rfl,aS.of h1,bW,rfl,_,rfl,dh m7 ⟨_,rfl,_,_,_,_,rfl,rfl,aS.of h1,gb,?_⟩⟩
   refine⟨190,jK t1,.tup [.str "hole"],a1,hA,rfl,rfl,gB _ _ hd,by show A.units+3+190+1 < cLine;omega,iL NF,iZ hH _,fun b og=>?_⟩
   have eb:b=false:=by
    cases b with
    |false=>rfl
    |true=>exact absurd (og.mp rfl) (yO t1)
   rw[eb]
   refine⟨_,rfl,cf ⟨_,rfl,_,_,_,_,rfl,rfl,aS.of h1,gb,_,rfl,x,C,dx,fs,_,rfl,pH.ins,R.cl,R.nP,pH.part,az (by show 3<=1000000;decide),fun p H2 np s2 h2=>?_⟩⟩
   exact⟨_,rfl,x,C,dx,fs,rfl,s2 _ _ pH.ins,R.cl,R.nP,Nat.lt_trans hx.d3 (by decide),fin s2 (.call h2 (NF.same s2) (Ip.same s2)) rfl⟩
inductive Fj(C hA:Addr)(vs:List V)(H:Hp)(Q:VK):Prop where
 |mk(x:_)(ab:_)(t:_)(S:_)(c1:vs=[.ref x])(c2:dq C x ab hA t S H)(c3:cX 190 S)(c4:∀H',bh [x,ab] H H'->dq C x ab hA (bu S t) [] H'->Q .d0 H')
def wW(C hA:Addr):Sp:=fun vs H Q lK=>Fj C hA vs H Q
inductive Fw(H:Hp)(C x ab hA:Addr)(t:Tm)(S:List (Fm Str))(m:Nat)(σ:L2.St)(H':Hp):Prop where
 |mk(S':_)(t':_)(c1:σ=[some (.ref x)])(c2:bh [x,ab] H H')(c3:dq C x ab hA t' S' H')(c4:cX 190 S')(c5:bu S' t'=bu S t)(c6:m=S'.length)
def Du(H:Hp)(C x ab hA:Addr)(t:Tm)(S:List (Fm Str))(m:Nat)(σ:L2.St)(H':Hp):Prop:=Fw H C x ab hA t S m σ H'
theorem Hx{f C hA:Addr}{fd:FuncData}(F:jS K "go_to_top" "Stand.go_to_top" dM f fd)(R:jc K C)(cG:GM P w K mg base bK 1 C "go_up" ["self"] (vc C hA)):cg P w K mg base bK 2 f fd ["self"] (wW C hA):=by
 refine F.ok ma (fun vs H Q E h=>?_) (fun fx A outer s H vs Q E hr h=>?_)
 ·obtain⟨x,ab,t,S,rfl,_⟩:=h
  rfl
 ·obtain⟨x,ab,t,S,rfl,rn,vJ,k⟩:=h
  refine⟨_,(ai (dY PassesOwn.never (kn (bQ (pv 0) rfl) (fun _=>rfl)) (ai (a0 (iz (pv 0) R.cl cG (hr.mono (by decide)) bt))))),?_⟩
  show(let cP:TS:=_;gc _ cP _ _ _)
  intro cP
  refine⟨Du H C x ab hA t S,⟨S.length,S,t,rfl,.refl _ _,rn,vJ,rfl,rfl⟩,?_⟩
  rintro m σ H5 ⟨S',t',rfl,k5,jU,nB,mm,rfl⟩
  obtain⟨dx,fs,tv,vs,hx,ht,hb,hp⟩:=id jU
  cases S' with
  |nil=>
   cases cC hp
   refine⟨_,rfl,x,C,dx,fs,_,rfl,hx.ins,R.cl,R.nA,hx.above,false,Or.inl ⟨_,bp.of hb,rfl⟩,cf ?_⟩
   have e:t'=bu S t:=mm
   exact k _ k5 (e ▸ jU)
  |cons fm S1=>
   have lF:vs≠[]:=fun z=>by
    have:=Paired.length hp
    rw[z,List.length_reverse] at this
    cases this
   refine⟨_,rfl,x,C,dx,fs,_,rfl,hx.ins,R.cl,R.nA,hx.above,true,Or.inl ⟨_,bp.of hb,by cases vs with|nil=>exact absurd rfl lF|cons _ _=>rfl⟩,fu ⟨fun σ' H'=>∃m',m' < (fm::S1).length/\Du H C x ab hA t S m' σ' H',fun _ _ h=>h,?_⟩⟩
   refine⟨_,rfl,x,dx,fs,rfl,hx.ins,hx.iU _ (by decide+kernel),x,ab,t',fm,S1,rfl,jU,nB.head,fun H6 k6 h6=>?_⟩
   exact⟨S1.length,Nat.lt_succ_self _,S1,_,rfl,k5.trans k6,h6,nB.tail,mm,rfl⟩
def Cr:List (Fm Str)->Bool
 | .one _::_=>true
 |_=>false
inductive x9(C hA:Addr)(vs:List V)(H:Hp)(Q:VK):Prop where
 |mk(x:_)(ab:_)(t:_)(S:_)(c1:vs=[.ref x])(c2:dq C x ab hA t S H)(c3:cX 190 S)(c4:S.length<=1000)(c5:Q (.bl (Cr S)) H)
def kL(C hA:Addr):Sp:=fun vs H Q lK=>x9 C hA vs H Q
theorem zW{f C hA:Addr}{fd:FuncData}(F:jS K "is_called" "Stand.is_called" dJ f fd)(N_:cV mg)(R:jc K C)(hH:rO K mg hA):cg P w K mg base bK 1 f fd ["self"] (kL C hA):=by
 refine F.ok l0 (fun vs H Q E h=>?_) (fun fx A outer s H vs Q E hr h=>?_)
 ·obtain⟨x,ab,t,S,rfl,_⟩:=h
  rfl
 ·obtain⟨x,ab,t,S,rfl,⟨dx,fs,tv,vs,hx,ht,hb,hp⟩,vJ,hlen,k⟩:=h
  have hu:A.units+3+16*0+200 < cLine:=hr.un
  refine⟨_,(ai (aU (oQ (dP mY (mh bf (by rfl) N_.len boot_len (ak (bQ (pv 0) rfl) aj)) ah (aA _)) (oQ (dP bC (aD ay (aD ee (bQ (pv 0) rfl) (yt tD ah) (fun _ _=>rfl)) ah (fun _ _=>rfl)) aC (aA _)) (oP (dP xj (aD ay (aD ee (bQ (pv 0) rfl) (yt tD ah) (fun _ _=>rfl)) ah (fun _ _=>rfl)) (mW (v:= .ref hA) rfl hH.m rfl) (aA _))))))),?_⟩
  cases S with
  |nil=>
   cases cC hp
   exact⟨_,rfl,x,C,dx,fs,_,rfl,hx.ins,R.cl,R.nA,hx.above,_,_,rfl,Or.inl (bp.of hb),_,_,rfl,rfl,_,rfl,dh (by simp) k⟩
  |cons fm S1=>
   rw[List.reverse_cons] at hp
   obtain⟨my,v,rfl,Qk,hf⟩:=bo hp
   have eB:(0:Int) < ((my++[v]).length:Int):=by rw[List.length_append];simp only[List.length_cons,List.length_nil];omega
   have Iu:=vJ.head
   refine⟨_,rfl,x,C,dx,fs,_,rfl,hx.ins,R.cl,R.nA,hx.above,_,_,rfl,Or.inl (bp.of hb),_,_,rfl,rfl,_,rfl,ia eB ⟨_,rfl,x,C,dx,fs,_,rfl,hx.ins,R.cl,R.nA,hx.above,_,rfl,_,_,_,_,rfl,rfl,bp.of hb,nU _ _,?_⟩⟩
   cases hf with
   |aa h=>exact⟨_,_,_,_,rfl,rfl,aS.of h,bW,rfl,_,rfl,dh vB k⟩
   |@one p1 u1 t1 h hq=>
    refine⟨_,_,_,_,rfl,rfl,aS.of h,bW,rfl,_,rfl,ia rfl ⟨_,rfl,x,C,dx,fs,_,rfl,hx.ins,R.cl,R.nA,hx.above,_,rfl,_,_,_,_,rfl,rfl,bp.of hb,nU _ _,_,_,_,_,rfl,rfl,aS.of h,gb,?_⟩⟩
    refine⟨1,.tup [.str "hole"],.tup [.str "hole"],hA,hA,rfl,rfl,⟨trivial,trivial⟩,by show A.units+3+1+1 < cLine;omega,iZ hH _,iZ hH _,fun b og=>?_⟩
    rw[og.mpr rfl]
    exact k
   |@other p1 u1 t1 h hq=>
    obtain⟨a1,rfl⟩:=hq.ref
    have hd:t1.deep<=191:=Nat.le_trans Iu (by decide)
    refine⟨_,_,_,_,rfl,rfl,aS.of h,bW,rfl,_,rfl,ia rfl ⟨_,rfl,x,C,dx,fs,_,rfl,hx.ins,R.cl,R.nA,hx.above,_,rfl,_,_,_,_,rfl,rfl,bp.of hb,nU _ _,_,_,_,_,rfl,rfl,aS.of h,gb,?_⟩⟩
    refine⟨190,jK t1,.tup [.str "hole"],a1,hA,rfl,rfl,gB _ _ hd,by show A.units+3+190+1 < cLine;omega,iL hq,iZ hH _,fun b og=>?_⟩
    have eb:b=false:=by
     cases b with
     |false=>rfl
     |true=>exact absurd (og.mp rfl) (yO t1)
    rw[eb]
    exact k
inductive Js(TL:cS)(C hA:Addr)(vs:List V)(H:Hp)(Q:VK):Prop where
 |mk(x:_)(ab:_)(b:_)(u:_)(S:_)(c1:vs=[.ref x])(c2:dq C x ab hA (.call (.aa b) u) S H)(c3:cX 190 S)(c4:S.length<=1000)(c5:b.size<=100000)(c6:u.size<=100000)(c7:TO TL H)(c8:∀t' S' H',KA [x,ab] H H'->TO TL H'->dq C x ab hA t' S' H'->cX 190 S'->bu S' t'=bu S (b.fill u)->(Clear S (.call (.aa b) u)->Clear S' t')->Q .d0 H')
def Bu(TL:cS)(C hA:Addr):Sp:=fun vs H Q lK=>Js TL C hA vs H Q
theorem KJ{f C hA:Addr}{fd:FuncData}{TL:cS}(F:jS K "do_step" "Stand.do_step" eQ f fd)(R:jc K C)(DC:GF P w K mg base bK 10 "filled" ["body","term"] (oz TL))(cL:GM P w K mg base bK 1 C "is_called" ["self"] (kL C hA))
  (cG:GM P w K mg base bK 1 C "go_up" ["self"] (vc C hA)):cg P w K mg base bK 11 f fd ["self"] (Bu TL C hA):=by
 refine F.ok oI (fun vs H Q E h=>?_) (fun fx A outer s H vs Q E hr h=>?_)
 ·obtain⟨x,ab,b,u,S,rfl,_⟩:=h
  rfl
 ·obtain⟨x,ab,b,u,S,rfl,rn,vJ,hlen,NB,Qb,to,k⟩:=h
  obtain⟨dx,fs,tv,vs,hx,ht,hb,hp⟩:=id rn
  refine⟨_,(ag (iw (pv 0) (cA DC (hr.mono (by decide)) rfl bt (ak (aD ay (aD ay (bQ (pv 0) rfl) ah (fun _ _=>rfl)) ah (fun _ _=>rfl)) (ak (aD ay (bQ (pv 0) rfl) ah (fun _ _=>rfl)) aj))) rfl)
   (ai (bj (PW.pt (ei (ax bC (aD ay (bQ (pv 0) rfl) ah (fun _ _=>rfl)) aC (aA _)) (dt (dH (iz (pv 0) R.cl cL (hr.mono (by decide)) bt))))) (ai (a0 (iz (pv 0) R.cl cG (hr.mono (by decide)) bt))) aZ))),?_⟩
  show(let cP:TS:=_;let dj:TS:=bS _ cP _;aL _ dj _ _ _)
  intro cP dj
  cases ht with
  |call h Av hy=>
   cases Av with
   |aa h' og=>
    refine⟨_,rfl,x,C,dx,fs,_,rfl,hx.ins,R.cl,R.nP,hx.part,_,_,_,_,rfl,rfl,aS.of h,gb,_,_,_,_,rfl,rfl,aS.of h',gb,_,rfl,x,C,dx,fs,_,rfl,hx.ins,R.cl,R.nP,hx.part,_,_,_,_,rfl,rfl,aS.of h,at2,?_⟩
    refine⟨_,b,_,u,rfl,og,hy,by omega,by omega,to,fun v' H1 vb hv=>?_⟩
    have DS:=vb.cM
    have pH:uV C x ab dx fs _ H1:=hx.keep ((vb.sx _ _ (fun _ z=>by cases z) hx.ins).trans hx.ins.symm)
    have ur:H1 ab=some (.lst vs):=vb.sx _ _ (fun _ z=>by cases z) hb
    obtain⟨q1,q2⟩:=dq.set (S:=S) pH ur (eJ hp DS) hv
    refine⟨_,rfl,x,C,dx,fs,rfl,pH.ins,R.cl,R.nP,Nat.lt_trans hx.d3 (by decide),?_⟩
    generalize upd H1 x (.ins C dx (e9 ("part":Str) v' fs))=H2 at q1 q2
    have k2:bh [x,ab] H1 H2:=q2.sub (by simp)
    have to2:=pT vb.to pH.ins ur k2
    have Ts:KA [x,ab] H H2:=(KA.vx vb.sx).trans (ug k2)
    obtain⟨Mh,GG,Og,VZ,ml,Lx,rq,sd⟩:=id q1
    obtain⟨a2,y2,r2,rfl,h2⟩:=Lx.tup
    have lD:((b.fill u).bx=false ∨ Cr S=false)->Q .d0 H2:=fun Qm=>k _ S H2 Ts to2 q1 vJ rfl fun hc=>Qm.elim (fun z=>wV hc rfl z) fun z=>AM (fun c S' e=>by rw[e] at z;cases z) hc
    refine⟨_,rfl,x,C,Mh,GG,_,rfl,ml.ins,R.cl,R.nP,ml.part,_,_,_,_,rfl,rfl,aS.of h2,bW,rfl,_,rfl,?_⟩
    rw[qy]
    cases CB:(b.fill u).bx with
    |false=>exact cf (cf (lD (.inl CB)))
    |true=>
     refine fu ⟨_,rfl,x,Mh,GG,rfl,ml.ins,ml.iU _ (by decide+kernel),x,ab,_,S,rfl,q1,vJ,hlen,_,rfl,?_⟩
     cases E2:Cr S with
     |false=>exact cf (lD (.inr E2))
     |true=>
      cases S with
      |nil=>cases E2
      |cons fm S1=>
       refine fu ⟨_,rfl,x,Mh,GG,rfl,ml.ins,ml.iU _ (by decide+kernel),x,ab,_,fm,S1,rfl,q1,vJ.head,fun H3 k3 h3=>?_⟩
       refine k _ S1 H3 (Ts.trans (ug k3)) (pT to2 ml.ins rq k3) h3 vJ.tail rfl fun hc=>?_
       cases fm with
       |aa=>cases E2
       |other _=>cases E2
       |one c=>exact rW hc
theorem lr:∀(S:List (Fm Str)) (t:Tm),S.length+t.deep<=(bu S t).deep
 |[],t=>by show 0+t.deep<=t.deep;omega
 |f::S,t=>by
  have h:=lr S (cZ f t)
  have h2:t.deep+1<=(cZ f t).deep:=by
   cases f with
   |aa=>exact Nat.le_refl _
   |one b=>show t.deep+1<=max t.deep b.deep+1;omega
   |other a=>show t.deep+1<=max a.deep t.deep+1;omega
  show S.length+1+t.deep<=(bu S (cZ f t)).deep
  omega
inductive Jr(C hA:Addr)(vs:List V)(H:Hp)(Q:VK):Prop where
 |mk(x:Addr)(ab:Addr)(t:Tm)(S:List (Fm Str))(c1:vs=[.ref x])(c2:dq C x ab hA t S H)(c3:cX 190 S)(c4:(bu S t).deep<=190)(c5:Clear S t)(c6:t.ao=[])
  (c7:∀H',bh [x,ab] H H'->dq C x ab hA (bu S t) [] H'->(bu S t).ao=[]->Q (.bl false) H')(c8:∀t' S' H',bh [x,ab] H H'->dq C x ab hA t' S' H'->cX 190 S'->bu S' t'=bu S t->Clear S' t'->t'.size+mU S'<=mU S->Q (.bl true) H')
def Bs(C hA:Addr):Sp:=fun vs H Q _=>Jr C hA vs H Q
inductive GO(H:Hp)(C x ab hA:Addr)(t:Tm)(S:List (Fm Str))(m:Nat)(σ:L2.St)(H':Hp):Prop where
 |mk(S':List (Fm Str))(t':Tm)(x1:Option V)(c1:σ=[some (.ref x),x1])(c2:bh [x,ab] H H')(c3:dq C x ab hA t' S' H')(c4:cX 190 S')(c5:bu S' t'=bu S t)(c6:Clear S' t')(c7:t'.ao=[])(c8:m=S'.length)(c9:mU S'<=mU S)
theorem KI{f C hA:Addr}{fd:FuncData}(F:jS K "go_on" "Stand.go_on" fV f fd)(R:jc K C)(cL:GM P w K mg base bK 1 C "is_called" ["self"] (kL C hA))(cG:GM P w K mg base bK 1 C "go_up" ["self"] (vc C hA))(cY:GM P w K mg base bK 1 C "go_down" ["self","turn"] (pV C hA)):cg P w K mg base bK 2 f fd ["self"] (Bs C hA):=by
 refine F.ok kl (fun vs H Q E h=>?_) (fun fx A outer s H vs Q E hr h=>?_)
 ·obtain⟨x,ab,t,S,rfl,_⟩:=h
  rfl
 ·obtain⟨x,ab,t,S,rfl,rn,vJ,QN,sf,gx,k0,k1⟩:=h
  refine⟨_,(ag (dY PassesOwn.never (kn (bQ (pv 0) rfl) (fun _=>rfl)) (ag (aE (i:=1) kl.nd rfl (Or.inl rfl) (iz (pv 0) R.cl cL (hr.mono (by decide)) bt))
   (ag (a0 (iz (pv 0) R.cl cG (hr.mono (by decide)) bt))
   (ai (bj (kn (pv 1) (fun _=>rfl)) (ag (a0 (vj (pv 0) R.cl cY (hr.mono (by decide)) bt (ak ah aj)))
   (ai (aU e4))) aZ)))))
   (ai (aU e4))),?_⟩
  show(let cP:TS:=_;let dj:TS:=_;let eW:TS:=aL _ dj;let fy:TS:=bS _ eW _;let fW:TS:=aL _ fy;let iI:TS:=aL _ fW;aL (gc _ iI) cP _ _ _)
  intro cP dj eW fy fW iI
  refine⟨GO H C x ab hA t S,⟨S.length,S,t,none,rfl,.refl _ _,rn,vJ,rfl,sf,gx,rfl,Nat.le_refl _⟩,?_⟩
  rintro m σ H5 ⟨S',t',x1,rfl,k5,jU,nB,mm,uq,EY,rfl,Iy⟩
  obtain⟨dx,fs,tv,vs,hx,ht,hb,hp⟩:=id jU
  cases S' with
  |nil=>
   cases cC hp
   refine⟨_,rfl,x,C,dx,fs,_,rfl,hx.ins,R.cl,R.nA,hx.above,false,Or.inl ⟨_,bp.of hb,rfl⟩,cf ?_⟩
   have e:t'=bu S t:=mm
   exact k0 _ k5 (e ▸ jU) (e ▸ EY)
  |cons fm S1=>
   have lF:vs≠[]:=fun z=>by
    have:=Paired.length hp
    rw[z,List.length_reverse] at this
    cases this
   have DJ:=lr (fm::S1) t'
   rw[mm] at DJ
   have hlen:(fm::S1).length<=1000:=by omega
   refine⟨_,rfl,x,C,dx,fs,_,rfl,hx.ins,R.cl,R.nA,hx.above,true,Or.inl ⟨_,bp.of hb,by cases vs with|nil=>exact absurd rfl lF|cons _ _=>rfl⟩,fu ⟨fun σ' H'=>∃m',m' < (fm::S1).length/\GO H C x ab hA t S m' σ' H',fun _ _ h=>h,?_⟩⟩
   refine⟨_,rfl,x,dx,fs,rfl,hx.ins,hx.iU _ (by decide+kernel),x,ab,t',fm::S1,rfl,jU,nB,hlen,?_⟩
   refine⟨_,rfl,x,dx,fs,rfl,hx.ins,hx.iU _ (by decide+kernel),x,ab,t',fm,S1,rfl,jU,nB.head,fun H6 k6 h6=>?_⟩
   obtain⟨Mg,Mb,Of,SU,Gh,P8,UM,iC⟩:=id h6
   cases fm with
   |aa=>
    obtain⟨u1,u2⟩:=u7 (fun b z=>by cases z) uq EY
    exact⟨_,rfl,_,rfl,cf ⟨S1.length,Nat.lt_succ_self _,S1,_,_,rfl,k5.trans k6,h6,nB.tail,mm,u1,u2,rfl,Iy⟩⟩
   |other a=>
    obtain⟨u1,u2⟩:=u7 (fun b z=>by cases z) uq EY
    exact⟨_,rfl,_,rfl,cf ⟨S1.length,Nat.lt_succ_self _,S1,_,_,rfl,k5.trans k6,h6,nB.tail,mm,u1,u2,rfl,Iy⟩⟩
   |one b=>
    refine⟨_,rfl,_,rfl,fu ⟨_,rfl,x,Mg,Mb,rfl,Gh.ins,Gh.iU _ (by decide+kernel),x,ab,_,S1,1,rfl,h6,rfl,by simp at hlen;omega,fun H7 k7 h7=>?_⟩⟩
    have DJ:S1.length+1+t'.deep<=_:=DJ
    exact k1 b (.other t'::S1) H7 (k5.trans (k6.trans k7)) h7 (cX.cons (show t'.deep<=190 by omega) nB.tail) mm (xi uq EY) Iy
inductive Dl(C hA:Addr)(vs:List V)(H:Hp)(Q:VK):Prop where
 |mk(x:Addr)(ab:Addr)(t:Tm)(S:List (Fm Str))(c1:vs=[.ref x])(c2:dq C x ab hA t S H)(c3:cX 190 S)(c4:(bu S t).deep<=190)(c5:Clear S t)
  (c7:∀H',bh [x,ab] H H'->dq C x ab hA (bu S t) [] H'->(bu S t).ao=[]->Q (.bl false) H')(c8:∀t' S' H',bh [x,ab] H H'->dq C x ab hA t' S' H'->cX 190 S'->bu S' t'=bu S t->Clear S' t'->t'.ri=true->Q (.bl true) H')
def tP(C hA:Addr):Sp:=fun vs H Q _=>Dl C hA vs H Q
inductive zw(H:Hp)(C x ab hA:Addr)(t:Tm)(S:List (Fm Str))(m:Nat)(σ:L2.St)(H':Hp):Prop where
 |mk(S':List (Fm Str))(t':Tm)(c1:σ=[some (.ref x)])(c2:bh [x,ab] H H')(c3:dq C x ab hA t' S' H')(c4:cX 190 S')(c5:bu S' t'=bu S t)(c6:Clear S' t')(c8:m=t'.size+mU S')
theorem Ez{f C hA:Addr}{fd:FuncData}(F:jS K "find_spot" "Stand.find_spot" dN f fd)(R:jc K C)(o5:GF P w K mg base bK 1 "is_spot" ["part"] lZ)(fR:GM P w K mg base bK 1 C "leads_on" ["self","turn"] (qE C hA))(cY:GM P w K mg base bK 1 C "go_down" ["self","turn"] (pV C hA))(iH:GM P w K mg base bK 2 C "go_on" ["self"] (Bs C hA)):cg P w K mg base bK 3 f fd ["self"] (tP C hA):=by
 refine F.ok md (fun vs H Q E h=>?_) (fun fx A outer s H vs Q E hr h=>?_)
 ·obtain⟨x,ab,t,S,rfl,_⟩:=h
  rfl
 ·obtain⟨x,ab,t,S,rfl,rn,vJ,QN,sf,k0,k1⟩:=h
  refine⟨_,(ag (dY PassesOwn.never (fK (dH (cA o5 (hr.mono (by decide)) rfl bt (ak (bQ (pv 0) rfl) aj)))) (ai (bj (dH (vj (pv 0) R.cl fR (hr.mono (by decide)) bt (ak ah aj))) (ai (a0 (vj (pv 0) R.cl cY (hr.mono (by decide)) bt (ak ah aj)))) (ai (bj (fK (dH (iz (pv 0) R.cl iH (hr.mono (by decide)) bt))) (ai (aU e4)) aZ)))))
   (ai (aU e4))),?_⟩
  show(let cP:TS:=_;let dj:TS:=_;let eW:TS:=_;let fy:TS:=bS _ eW _;let fW:TS:=bS _ dj fy;aL (gc _ fW) cP _ _ _)
  intro cP dj eW fy fW
  refine⟨zw H C x ab hA t S,⟨_,S,t,rfl,.refl _ _,rn,vJ,rfl,sf,rfl⟩,?_⟩
  rintro m σ H5 ⟨S',t',rfl,k5,jU,nB,mm,uq,rfl⟩
  obtain⟨dx,fs,tv,vs,hx,ht,hb,hp⟩:=id jU
  have DJ:=lr S' t'
  rw[mm] at DJ
  refine⟨_,rfl,x,C,dx,fs,_,rfl,hx.ins,R.cl,R.nP,hx.part,tv,t',rfl,ht,_,rfl,?_⟩
  cases hs:t'.ri with
  |true=>exact cf (k1 t' S' H5 k5 jU nB mm uq hs)
  |false=>
   refine fu ⟨fun σ' H'=>∃m',m' < t'.size+mU S'/\zw H C x ab hA t S m' σ' H',fun _ _ h=>h,?_⟩
   refine⟨_,rfl,x,dx,fs,rfl,hx.ins,hx.iU _ (by decide+kernel),x,ab,t',S',0,rfl,jU,_,rfl,?_⟩
   cases hl:gm t' 0 with
   |true=>
    refine fu ⟨_,rfl,x,dx,fs,rfl,hx.ins,hx.iU _ (by decide+kernel),x,ab,t',S',0,rfl,jU,hl,by omega,fun H6 k6 h6=>?_⟩
    have rQ:=xS t' 0
    have hfd:=xJ t' 0
    exact⟨_,CU hl,_,_,rfl,k5.trans k6,h6,cX.cons (by omega) nB,by rw[<-mm];exact congrArg (bu S') (xf t' 0 hl),xN uq hs hl,rfl⟩
   |false=>
    refine cf ⟨_,rfl,x,dx,fs,rfl,hx.ins,hx.iU _ (by decide+kernel),x,ab,t',S',rfl,jU,nB,by rw[mm];exact QN,uq,xx hl,fun H6 k6 h6 uT=>?_,fun t2 S2 H6 k6 h6 Nq OY Mp Wj=>?_⟩
    ·rw[mm] at h6 uT
     exact⟨_,rfl,fu (k0 H6 (k5.trans k6) h6 uT)⟩
    ·have:=T.size_pos t'
     exact⟨_,rfl,cf ⟨_,by omega,_,_,rfl,k5.trans k6,h6,Nq,OY.trans mm,Mp,rfl⟩⟩
end
section
variable {P:Program}{w:World}{K:W.Frag}{mg:Str->Option Value}{base:Heap}
seal L2.PE L2.PA L2.PT L2.PS L2.nZ L2.PW L2.PG L2.uW L2.PI L2.PO L2.gy L2.wc L2.cE L2.mw L2.rS L2.rR
abbrev fo:Stmt:=inClass (top 14) 9
theorem jL:a8 ["self","twin"] ["self"] (aw fo):=⟨rfl,rfl,rfl,by decide+kernel,rfl,by decide+kernel,by decide+kernel⟩
inductive x8(C hA:Addr)(vs:List V)(H:Hp)(Q:VK):Prop where
 |mk(x:Addr)(ab:Addr)(t:Tm)(S:List (Fm Str))(c1:vs=[.ref x])(c2:dq C x ab hA t S H)(c3:∀y yb H',aQ H H'->H y=none->H yb=none->dq C y yb hA t S H'->Q (.ref y) H')
def oA(C hA:Addr):Sp:=fun vs H Q _=>x8 C hA vs H Q
theorem zV{f C hA:Addr}{fd:FuncData}(F:jS K "copied" "Stand.copied" fo f fd)(N_:cV mg)(R:jc K C)(lC:GK P w K mg base bK 1 C "Stand" ["self","term"] (mL C hA)):cg P w K mg base bK 3 f fd ["self"] (oA C hA):=by
 refine F.ok jL (fun vs H Q E h=>?_) (fun fx A outer s H vs Q E hr h=>?_)
 ·obtain⟨x,ab,t,S,rfl,_⟩:=h
  rfl
 ·obtain⟨x,ab,t,S,rfl,rn,k⟩:=h
  obtain⟨dx,fs,tv,vs,hx,ht,hb,hp⟩:=id rn
  refine⟨_,(ag (aE (i:=1) jL.nd rfl (Or.inl rfl) (BV lC (hr.mono (by decide)) rfl bt (ak (bQ (pv 0) rfl) aj)))
   (ag (iw (pv 1) (O1 Fd (by rfl) N_.list boot_list (ak (bQ (pv 0) rfl) aj)) rfl)
   (ai (aU (pv 1))))),?_⟩
  show(let cP:TS:=_;let dj:TS:=aL _ cP;aL _ dj _ _ _)
  intro cP dj
  refine⟨_,rfl,x,C,dx,fs,_,rfl,hx.ins,R.cl,R.nP,hx.part,fun y dy ny WM ne=>?_⟩
  have s0:aQ H (upd (upd H dy (.own y)) y (.ins C dy [])):=fun b o e=>by
   rw[aF (fun z=>by rw[z,ny] at e;cases e),aF (fun z=>by rw[z,WM] at e;cases e)]
   exact e
  refine⟨y,dy,tv,t,rfl,aH,ht.same s0,fun yb H2 Tn hyx Qa hk=>⟨rfl,?_⟩⟩
  have s2:aQ H H2:=fun b o e=>hk b o (fun z=>by rw[z,ny] at e;cases e) (s0 b o e)
  obtain⟨Mf,GG,Og,VZ,Au,Lx,rq,sd⟩:=id Qa
  have ml:uV C x ab dx fs tv H2:=hx.keep ((s2 _ _ hx.ins).trans hx.ins.symm)
  refine⟨_,rfl,x,C,dx,fs,_,rfl,ml.ins,R.cl,R.nA,hx.above,ab,vs,rfl,Or.inl (bp.of (s2 _ _ hb)),fun l H3 nl s3 hl=>?_⟩
  have Ul:uV C y yb Mf GG Og H3:=Au.keep ((s3 _ _ Au.ins).trans Au.ins.symm)
  have Yh:l≠y:=fun z=>by rw[z,Au.ins] at nl;cases nl
  refine⟨_,rfl,y,C,Mf,GG,rfl,Ul.ins,R.cl,R.nA,Nat.lt_trans Au.d3 (by decide),?_⟩
  have tu:bY H3 (upd H3 y (.ins C Mf (e9 ("above":Str) (.ref l) GG))):=oq Ul.ins
  have s4:aQ H (upd H3 y (.ins C Mf (e9 ("above":Str) (.ref l) GG))):=fun b o e=>by
   rw[aF (fun z=>by rw[z,ny] at e;cases e)]
   exact s3 _ _ (s2 _ _ e)
  refine⟨_,rfl,k y l _ s4 ny ((s2.free nl)) ⟨Mf,_,Og,vs,⟨aH,?_,?_,fun m hm=>?_,?_⟩,(Lx.same s3).mono tu,by rw[aF Yh];exact hl,eJ hp (.of_same s4)⟩⟩
  ·rw[bw,if_neg (by decide+kernel)];exact Au.part
  ·rw[bw,if_pos rfl]
  ·have ne:∀z∈tJ,z≠"above":=by decide+kernel
   rw[bw,if_neg (ne m hm)]
   exact Au.iU m hm
  ·rw[qL _ _ _ _ Au.above]
   exact Au.d3
end
abbrev HT:=T (Option Str)
inductive qo(hA:Addr)(H:Hp):V->HT->Prop where
 |hole:qo hA H (.ref hA) (.name none)
 |name {p:Addr}{w:Str} (h:H p=some (.tup [.str "name",.str w])):qo hA H (.ref p) (.name (some w))
 |place {p:Addr}{n:Nat} (h:H p=some (.tup [.str "place",.int n])):qo hA H (.ref p) (.place n)
 |aa {p:Addr}{bv:V}{b:HT} (h:H p=some (.tup [.str "form",bv])) (hb:qo hA H bv b):qo hA H (.ref p) (.aa b)
 |call {p:Addr}{xv yv:V}{x y:HT} (h:H p=some (.tup [.str "call",xv,yv])) (hx:qo hA H xv x) (hy:qo hA H yv y):qo hA H (.ref p) (.call x y)
theorem qo.mono{hA:Addr}{H H':Hp}{v:V}{t:HT}(h:qo hA H v t)(k:bY H H'):qo hA H' v t:=by
 induction h with
 |hole=>exact .hole
 |name h=>exact .name (k _ _ h)
 |place h=>exact .place (k _ _ h)
 |aa h _ ih=>exact .aa (k _ _ h) ih
 |call h _ _ ix iy=>exact .call (k _ _ h) ix iy
theorem qo.same{hA:Addr}{H H':Hp}{v:V}{t:HT}(h:qo hA H v t)(s:aQ H H'):qo hA H' v t:=h.mono (.of_same s)
def Io:HT->Str
 | .name none=>"hole"
 | .name (some _)=>"name"
 | .place _=>"place"
 | .aa _=>"form"
 | .call _ _=>"call"
theorem qo.tup{K:W.Frag}{mg:Str->Option Value}{hA:Addr}{H:Hp}{v:V}{t:HT}(h:qo hA H v t)(hH:rO K mg hA):∃a r,v= .ref a/\aS K H a (.str (Io t)::r):=by
 cases h with
 |hole=>exact⟨_,_,rfl,hH.q H⟩
 |name h=>exact⟨_,_,rfl,aS.of h⟩
 |place h=>exact⟨_,_,rfl,aS.of h⟩
 |aa h _=>exact⟨_,_,rfl,aS.of h⟩
 |call h _ _=>exact⟨_,_,rfl,aS.of h⟩
theorem Pg:¬(V.str "name"=V.str "hole"):=by decide+kernel
theorem Pe:¬(V.str "place"=V.str "hole"):=by decide+kernel
theorem Pk:¬(V.str "form"=V.str "hole"):=by decide+kernel
theorem Pl:¬(V.str "call"=V.str "hole"):=by decide+kernel
theorem KW:¬(V.str "hole"=V.str "name"):=by decide+kernel
theorem KU:¬(V.str "hole"=V.str "place"):=by decide+kernel
theorem Ph:¬(V.str "hole"=V.str "form"):=by decide+kernel
theorem Pj:¬(V.str "hole"=V.str "call"):=by decide+kernel
section
variable {P:Program}{w:World}{K:W.Frag}{mg:Str->Option Value}{base:Heap}
seal L2.PE L2.PA L2.PT L2.PS L2.nZ L2.PW L2.PG L2.uW L2.PI L2.PO L2.gy L2.wc L2.cE L2.mw L2.rS L2.rR
inductive oe(hA:Addr)(H:Hp)(x:V)(q:HT×HT):Prop where
 |mk(a:Addr)(lv rv:V)(c1:x= .ref a)(c2:H a=some (.tup [lv,rv]))(c3:qo hA H lv q.1)(c4:qo hA H rv q.2)
theorem oe.mono{hA:Addr}{H H':Hp}{x:V}{q:HT×HT}(h:oe hA H x q)(k:bY H H'):oe hA H' x q:=let ⟨a,lv,rv,e,h1,h2,h3⟩:=h;⟨a,lv,rv,e,k _ _ h1,h2.mono k,h3.mono k⟩
def j9(aN:List (HT×HT)):Nat:=(aN.map fun q=>q.1.size).sum
theorem iM(aN:List (HT×HT))(q:HT×HT):j9 (aN++[q])=j9 aN+q.1.size:=by
 unfold j9
 rw[List.map_append,List.sum_append]
 simp
theorem vF:∀aN:List (HT×HT),aN.length<=j9 aN
 |[]=>Nat.le_refl _
 |q::aN=>by
  have h1:=vF aN
  have h2:=T.size_pos q.1
  unfold j9 at*
  rw[List.map_cons,List.sum_cons,List.length_cons]
  omega
abbrev s_same:Stmt:=top 5
theorem mP:a8 ["one","other","todo","pair","left","right"] ["one","other"] (aw s_same):=⟨rfl,rfl,rfl,by decide+kernel,rfl,by decide+kernel,by decide+kernel⟩
inductive Df(hA:Addr)(vs:List V)(H:Hp)(Q:VK):Prop where
 |mk(v u:V)(t r:HT)(c1:vs=[v,u])(c2:qo hA H v t)(c3:qo hA H u r)(c4:t.size<=100000)(c5:∀(b:Bool) H',(b=true↔t=r)->aQ H H'->Q (.bl b) H')
def tL(hA:Addr):Sp:=fun vs H Q _=>Df hA vs H Q
inductive uO(hA:Addr)(H:Hp)(v u:V)(t r:HT)(d:Addr)(m:Nat)(σ:L2.St)(H':Hp):Prop where
 |mk(aN:List (HT×HT))(xs:List V)(x3 x4 x5:Option V)(c1:σ=[some v,some u,some (.ref d),x3,x4,x5])(c2:aQ H H')(c3:H' d=some (.lst xs))(c4:Paired (oe hA H') xs aN)(c5:t=r↔∀q∈aN,q.1=q.2)(c6:m=j9 aN)(c7:j9 aN<=t.size)
theorem FN{a:V}{l:List V}:¬(HT.fD (a::l).length 0 (some 1)=0/\HT.fD (a::l).length (a::l).length none=(a::l).length):=by
 intro z
 have:=z.1
 unfold HT.fD at this
 simp at this
theorem Eu{f hA:Addr}{fd:FuncData}(F:jS K "same" "same" s_same f fd)(N_:cV mg)(hH:rO K mg hA):cg P w K mg base bK 1 f fd ["one","other"] (tL hA):=by
 refine F.ok mP (fun vs H Q E h=>?_) (fun fx A outer s H vs Q E hr h=>?_)
 ·obtain⟨v,u,t,r,rfl,_⟩:=h
  rfl
 ·obtain⟨v,u,t,r,rfl,ht,JS,hsz,k⟩:=h
  refine⟨_,(ag (aE (i:=2) mP.nd rfl (Or.inl rfl) (et (ak (cB (ak (pv 0) (ak (pv 1) aj))) aj)))
   (ag (dY PassesOwn.never (kn (pv 2) (fun _=>rfl)) (ag (aE (i:=3) mP.nd rfl (Or.inl rfl) (iA (pv 2)))
   (ag (aE (i:=4) mP.nd rfl (Or.inl rfl) (aD ay (pv 3) ah (fun _ _=>rfl)))
   (ag (aE (i:=5) mP.nd rfl (Or.inl rfl) (aD ay (pv 3) ah (fun _ _=>rfl)))
   (ag (bj (ax lL (aD ay (pv 4) ah (fun _ _=>rfl)) (aD ay (pv 5) ah (fun _ _=>rfl)) (aA _)) (ai (aU e4)) aZ)
   (ai (bj (PW.pt (hU (ax bC (aD ay (pv 4) ah (fun _ _=>rfl)) aC (aA _)) (ir (ax bC (aD ay (pv 4) ah (fun _ _=>rfl)) aC (aA _))))) (ai (bj (ax lL (aD ay (pv 4) ah (fun _ _=>rfl)) (aD ay (pv 5) ah (fun _ _=>rfl)) (aA _)) (ai (aU e4)) aZ)) (ai (a0 (O0 (pv 2) (Ej hr.hd rfl N_.zip rfl N_.list (qM Bx (pv 4) (pX ah) yq) (qM Bx (pv 5) (pX ah) yq))))))))))))
   (ai (aU e4)))),?_⟩
  show(let cP:TS:=_;let dj:TS:=_;let eW:TS:=bS _ dj _;let fy:TS:=_;let fW:TS:=bS _ eW fy;let iI:TS:=_;let kE:TS:=aL (bS _ iI _) fW;let kD:TS:=aL _ kE;let lJ:TS:=aL _ kD;let eD:TS:=aL _ lJ;let fb:TS:=aL (gc _ eD) cP;aL _ fb _ _ _)
  intro cP dj eW fy fW iI kE kD lJ eD fb
  refine⟨_,rfl,_,rfl,az (by simp),fun q0 H3 nq s3 IA=>⟨az (by simp),fun d H4 nd s4 E4=>?_⟩⟩
  have zK:aQ H H4:=s3.trans s4
  have Bb:H d=none:=s3.free nd
  have nL:∀x∈[d],H x=none:=fun x hx=>by rw[List.mem_singleton.mp hx];exact Bb
  refine⟨uO hA H v u t r d,⟨j9 [(t,r)],⟨[(t,r)],[.ref q0],none,none,none,rfl,zK,E4,.cons ⟨q0,v,u,rfl,s4 _ _ IA,ht.same zK,JS.same zK⟩ .nil,⟨fun e q hq=>by rw[List.mem_singleton.mp hq];exact e,fun e=>e (t,r) (by simp)⟩,rfl,by show t.size+0<=t.size;omega⟩⟩,?_⟩
  rintro m σ H5 ⟨aN,xs,x3,x4,x5,rfl,s5,qg,hit,heq,rfl,fO⟩
  by_cases lE:aN=[]
  ·subst lE
   cases cC hit
   exact⟨_,rfl,false,Or.inl ⟨_,bp.of qg,rfl⟩,cf (k true H5 ⟨fun _=>heq.mpr (by simp),fun _=>rfl⟩ s5)⟩
  ·obtain⟨its',⟨t1,r1⟩,rfl⟩:=fS lE
   obtain⟨iJ,x,rfl,uk,a,lv,rv,rfl,ha,P7,P5⟩:=bo hit
   have P7:qo hA H5 lv t1:=P7
   have P5:qo hA H5 rv r1:=P5
   refine⟨_,rfl,true,Or.inl ⟨_,bp.of qg,by simp⟩,fu ⟨fun σ' H'=>∃m',m' < j9 (its'++[(t1,r1)])/\uO hA H v u t r d m' σ' H',fun _ _ h=>h,?_⟩⟩
   refine⟨_,rfl,Or.inl ⟨rfl,_,bp.of qg⟩,d,iJ,.ref a,rfl,rfl,qg,fun H6 k6 jW=>?_⟩
   have tG:=bb k6 qg
   have Gy:=tG _ _ ha
   have Lu:=P7.mono tG
   have Aw:=P5.mono tG
   have s6:aQ H H6:=bN s5 k6 nL
   have qd:=aq (fun a b h=>oe.mono h tG) uk
   rw[iM] at fO
   have NB:j9 its'+t1.size<=t.size:=fO
   have Bc:iJ.length<=t.size:=by
    rw[Paired.length qd]
    have:=vF its'
    omega
   have all:(t=r)↔(t1=r1/\∀q∈its',q.1=q.2):=heq.trans ⟨fun h=>⟨h (t1,r1) (by simp),fun q hq=>h q (by simp[hq])⟩,fun h q hq=>by
    rcases List.mem_append.mp hq with z|z
    ·exact h.2 q z
    ·rw[List.mem_singleton.mp z];exact h.1⟩
   obtain⟨al,rl,rfl,hl⟩:=Lu.tup hH
   obtain⟨ar,rr,rfl,X0⟩:=Aw.tup hH
   refine⟨_,rfl,_,_,_,_,rfl,rfl,aS.of Gy,bW,?_⟩
   refine⟨_,rfl,_,_,_,_,rfl,rfl,aS.of Gy,gb,?_⟩
   refine⟨_,rfl,_,_,_,_,rfl,rfl,hl,bW,_,rfl,_,_,_,_,rfl,rfl,X0,bW,rfl,_,rfl,?_⟩
   by_cases rm:Io t1=Io r1
   ·refine oV (by rw[rm]) ?_
    have KP:∀{H7:Hp}{fF:List (HT×HT)}{Ng:List V}{x3 x4 x5:Option V},aQ H H7->H7 d=some (.lst Ng)->Paired (oe hA H7) Ng fF->(t=r↔∀q∈fF,q.1=q.2)->j9 fF < j9 its'+t1.size->
      ∃m',m' < j9 (its'++[(t1,r1)])/\uO hA H v u t r d m' [some v,some u,some (.ref d),x3,x4,x5] H7:=fun a b c e l=>⟨_,by rw[iM];exact l,⟨_,_,_,_,_,rfl,a,b,c,e,rfl,by omega⟩⟩
    have no:∀{b:Bool},b=false->t1≠r1->(b=true↔t=r):=fun e n=>⟨(fun z=>by rw[e] at z;cases z),fun z=>absurd (all.mp z).1 n⟩
    have p1:=T.size_pos t1
    cases Lu with
    |hole=>
     cases Aw with
     |name _=>exact absurd (congrArg V.str rm) KW
     |place _=>exact absurd (congrArg V.str rm) KU
     |aa _ _=>exact absurd (congrArg V.str rm) Ph
     |call _ _ _=>exact absurd (congrArg V.str rm) Pj
     |hole=>
      refine⟨_,rfl,_,_,_,_,rfl,rfl,hH.q H6,bW,rfl,_,rfl,dh KW ⟨_,rfl,_,_,_,_,rfl,rfl,hH.q H6,bW,rfl,_,rfl,dh KU ?_⟩⟩
      refine⟨_,rfl,Or.inl ⟨rfl,_,bp.of jW⟩,_,rfl,_,rfl,_,_,rfl,hH.q H6,FN,fun p1 n1=>?_⟩
      have s7:aQ H6 (upd H6 p1 (.tup (mr [V.str "hole"] (some 1) none))):=bZ n1
      refine⟨_,rfl,_,rfl,_,_,rfl,hH.q _,FN,fun p2 n2=>?_⟩
      have s8:=s7.trans (bZ (o:=HO.tup (mr [V.str "hole"] (some 1) none)) n2)
      refine⟨p1,p2,[],[],rfl,aS.of (bZ n2 _ _ aH),aS.of aH,rfl,fun l rs H9 nl s9 LO pr=>?_⟩
      have wB:aQ H6 H9:=s8.trans s9
      cases pr
      refine⟨_,_,_,_,rfl,rfl,wB _ _ jW,LO,az (by show iJ.length+0<=1000000;omega),fun gz iX gY=>?_⟩
      have e8:bY H9 gz:=bb iX (wB _ _ jW)
      have tu:=(bY.of_same wB).trans e8
      rw[List.append_nil] at gY
      exact KP (bH (s6.trans wB) iX Bb) gY (aq (fun _ _ h=>oe.mono h tu) qd) (all.trans ⟨fun z=>z.2,fun z=>⟨rfl,z⟩⟩) (by omega)
    |@name _ w1 h1=>
     cases Aw with
     |hole=>exact absurd (congrArg V.str rm) Pg
     |place _=>exact absurd (congrArg V.str rm) Ab
     |aa _ _=>exact absurd (congrArg V.str rm) pE
     |call _ _ _=>exact absurd (congrArg V.str rm) pF
     |@name _ w2 h2=>
      refine⟨_,rfl,_,_,_,_,rfl,rfl,aS.of h1,bW,rfl,_,rfl,ia rfl (fu ?_)⟩
      refine⟨_,rfl,_,_,_,_,rfl,rfl,aS.of h1,gb,_,rfl,_,_,_,_,rfl,rfl,aS.of h2,gb,rfl,_,rfl,?_⟩
      by_cases e:w1=w2
      ·exact oV (by rw[e]) (KP s6 jW qd (all.trans ⟨fun z=>z.2,fun z=>⟨by rw[e],z⟩⟩) (by omega))
      ·exact rk (fun z=>e (V.str.inj z)) (k false H6 (no rfl fun z=>e (by injection z with z;injection z)) s6)
    |@place _ w1 h1=>
     cases Aw with
     |hole=>exact absurd (congrArg V.str rm) Pe
     |name _=>exact absurd (congrArg V.str rm) KS
     |aa _ _=>exact absurd (congrArg V.str rm) pC
     |call _ _ _=>exact absurd (congrArg V.str rm) pD
     |@place _ w2 h2=>
      refine⟨_,rfl,_,_,_,_,rfl,rfl,aS.of h1,bW,rfl,_,rfl,dh KS ⟨_,rfl,_,_,_,_,rfl,rfl,aS.of h1,bW,rfl,_,rfl,ia rfl ?_⟩⟩
      refine⟨_,rfl,_,_,_,_,rfl,rfl,aS.of h1,gb,_,rfl,_,_,_,_,rfl,rfl,aS.of h2,gb,rfl,_,rfl,?_⟩
      by_cases e:w1=w2
      ·exact oV (by rw[e]) (KP s6 jW qd (all.trans ⟨fun z=>z.2,fun z=>⟨by rw[e],z⟩⟩) (by omega))
      ·exact rk (fun z=>e (by injection z with z;omega)) (k false H6 (no rfl fun z=>e (by injection z)) s6)
    |@aa _ bv b h1 hb=>
     cases Aw with
     |hole=>exact absurd (congrArg V.str rm) Pk
     |name _=>exact absurd (congrArg V.str rm) KY
     |place _=>exact absurd (congrArg V.str rm) HG
     |call _ _ _=>exact absurd (congrArg V.str rm) vB
     |@aa _ Sw b2 h2 rq=>
      refine⟨_,rfl,_,_,_,_,rfl,rfl,aS.of h1,bW,rfl,_,rfl,dh KY ⟨_,rfl,_,_,_,_,rfl,rfl,aS.of h1,bW,rfl,_,rfl,dh HG ?_⟩⟩
      refine⟨_,rfl,Or.inl ⟨rfl,_,bp.of jW⟩,_,rfl,_,rfl,_,_,rfl,aS.of h1,FN,fun p1 n1=>?_⟩
      have s7:aQ H6 (upd H6 p1 (.tup (mr [V.str "form",bv] (some 1) none))):=bZ n1
      refine⟨_,rfl,_,rfl,_,_,rfl,aS.of (s7 _ _ h2),FN,fun p2 n2=>?_⟩
      have s8:=s7.trans (bZ (o:=HO.tup (mr [V.str "form",Sw] (some 1) none)) n2)
      refine⟨p1,p2,[bv],[Sw],rfl,aS.of (bZ n2 _ _ aH),aS.of aH,rfl,fun l rs H9 nl s9 LO pr=>?_⟩
      have wB:aQ H6 H9:=s8.trans s9
      cases pr with
      |cons OX FW=>
      cases FW
      obtain⟨T1,rfl,DL⟩:=OX
      refine⟨_,_,_,_,rfl,rfl,wB _ _ jW,LO,az (by show iJ.length+1<=1000000;omega),fun gz iX gY=>?_⟩
      have e8:bY H9 gz:=bb iX (wB _ _ jW)
      have tu:=(bY.of_same wB).trans e8
      refine KP (bH (s6.trans wB) iX Bb) gY (aJ (y:=(b,b2)) ⟨T1,bv,Sw,rfl,e8 _ _ DL,hb.mono tu,rq.mono tu⟩ (aq (fun _ _ h=>oe.mono h tu) qd)) (all.trans ⟨fun z q hq=>?_,fun z=>⟨by rw[show b=b2 from z (b,b2) (by simp)],fun q hq=>z q (by simp[hq])⟩⟩) (by rw[iM];show j9 its'+b.size < j9 its'+(b.size+1);omega)
      rcases List.mem_append.mp hq with z'|z'
      ·exact z.2 q z'
      ·rw[List.mem_singleton.mp z']
       have:=z.1
       injection this
    |@call _ xv yv x y h1 hx hy=>
     cases Aw with
     |hole=>exact absurd (congrArg V.str rm) Pl
     |name _=>exact absurd (congrArg V.str rm) KZ
     |place _=>exact absurd (congrArg V.str rm) HH
     |aa _ _=>exact absurd (congrArg V.str rm) m7
     |@call _ Ob N0 x2 y2 h2 ml Au=>
      refine⟨_,rfl,_,_,_,_,rfl,rfl,aS.of h1,bW,rfl,_,rfl,dh KZ ⟨_,rfl,_,_,_,_,rfl,rfl,aS.of h1,bW,rfl,_,rfl,dh HH ?_⟩⟩
      refine⟨_,rfl,Or.inl ⟨rfl,_,bp.of jW⟩,_,rfl,_,rfl,_,_,rfl,aS.of h1,FN,fun p1 n1=>?_⟩
      have s7:aQ H6 (upd H6 p1 (.tup (mr [V.str "call",xv,yv] (some 1) none))):=bZ n1
      refine⟨_,rfl,_,rfl,_,_,rfl,aS.of (s7 _ _ h2),FN,fun p2 n2=>?_⟩
      have s8:=s7.trans (bZ (o:=HO.tup (mr [V.str "call",Ob,N0] (some 1) none)) n2)
      refine⟨p1,p2,[xv,yv],[Ob,N0],rfl,aS.of (bZ n2 _ _ aH),aS.of aH,rfl,fun l rs H9 nl s9 LO pr=>?_⟩
      have wB:aQ H6 H9:=s8.trans s9
      cases pr with
      |cons OX FW=>
      cases FW with
      |cons FW Ws=>
      cases Ws
      obtain⟨T1,rfl,DL⟩:=OX
      obtain⟨T2,rfl,IL⟩:=FW
      refine⟨_,_,_,_,rfl,rfl,wB _ _ jW,LO,az (by show iJ.length+2<=1000000;omega),fun gz iX gY=>?_⟩
      have e8:bY H9 gz:=bb iX (wB _ _ jW)
      have tu:=(bY.of_same wB).trans e8
      have hp:=aJ (y:=(y,y2)) ⟨T2,yv,N0,rfl,e8 _ _ IL,hy.mono tu,Au.mono tu⟩ (aJ (y:=(x,x2)) ⟨T1,xv,Ob,rfl,e8 _ _ DL,hx.mono tu,ml.mono tu⟩ (aq (fun _ _ h=>oe.mono h tu) qd))
      rw[List.append_assoc] at hp
      refine KP (bH (s6.trans wB) iX Bb) gY hp (all.trans ⟨fun z q hq=>?_,fun z=>⟨by rw[show x=x2 from z (x,x2) (by simp),show y=y2 from z (y,y2) (by simp)],fun q hq=>z q (by simp[hq])⟩⟩) (by rw[iM,iM];show j9 its'+x.size+y.size < j9 its'+(x.size+y.size+1);omega)
      have z1:=z.1
      injection z1 with z1 z2
      rcases List.mem_append.mp hq with z'|z'
      ·rcases List.mem_append.mp z' with z'|z'
       ·exact z.2 q z'
       ·rw[List.mem_singleton.mp z'];exact z1
      ·rw[List.mem_singleton.mp z'];exact z2
   ·refine rk (fun z=>rm (V.str.inj z)) (k false H6 ⟨(fun z=>by cases z),fun z=>absurd (by rw[(all.mp z).1]) rm⟩ s6)
def hm:Tm->HT
 | .name w=> .name (some w)
 | .place n=> .place n
 | .aa b=> .aa (hm b)
 | .call a b=> .call (hm a) (hm b)
theorem oW:∀t r:Tm,hm t=hm r->t=r
 | .name _,.name _,h=>by injection h with h;injection h with h;rw[h]
 | .place _,.place _,h=>by injection h with h;rw[h]
 | .aa a,.aa b,h=>by injection h with h;rw[oW a b h]
 | .call a b,.call c d,h=>by injection h with h1 h2;rw[oW a c h1,oW b d h2]
 | .name _,.place _,h=>by cases h
 | .name _,.aa _,h=>by cases h
 | .name _,.call _ _,h=>by cases h
 | .place _,.name _,h=>by cases h
 | .place _,.aa _,h=>by cases h
 | .place _,.call _ _,h=>by cases h
 | .aa _,.name _,h=>by cases h
 | .aa _,.place _,h=>by cases h
 | .aa _,.call _ _,h=>by cases h
 | .call _ _,.name _,h=>by cases h
 | .call _ _,.place _,h=>by cases h
 | .call _ _,.aa _,h=>by cases h
theorem lh:∀t:Tm,(hm t).size=t.size
 | .name _=>rfl
 | .place _=>rfl
 | .aa b=>congrArg (·+1) (lh b)
 | .call a b=>by show(hm a).size+(hm b).size+1=_;rw[lh a,lh b];rfl
theorem yP(t:Tm):hm t≠ .name none:=by cases t<;>intro h<;>cases h
theorem au.h{hA:Addr}{H:Hp}{v:V}{t:Tm}(h:au H v t):qo hA H v (hm t):=by
 induction h with
 |name h=>exact .name h
 |place h=>exact .place h
 |aa h _ ih=>exact .aa h ih
 |call h _ _ ix iy=>exact .call h ix iy
def JZ:Fm Str->HT
 | .aa=> .aa (.name none)
 | .one u=> .call (.name none) (hm u)
 | .other u=> .call (hm u) (.name none)
theorem E6:∀f g:Fm Str,JZ f=JZ g->f=g
 | .aa,.aa,_=>rfl
 | .one a,.one b,h=>by injection h with _ h;rw[oW a b h]
 | .other a,.other b,h=>by injection h with h _;rw[oW a b h]
 | .one a,.other b,h=>by injection h with h _;exact absurd h.symm (yP b)
 | .other a,.one b,h=>by injection h with h _;exact absurd h (yP a)
 | .aa,.one _,h=>by cases h
 | .aa,.other _,h=>by cases h
 | .one _,.aa,h=>by cases h
 | .other _,.aa,h=>by cases h
theorem o6.h{hA:Addr}{H:Hp}{v:V}{f:Fm Str}(h:o6 hA H v f):qo hA H v (JZ f):=by
 cases h with
 |aa h=>exact .aa h .hole
 |one h hu=>exact .call h .hole hu.h
 |other h hu=>exact .call h hu.h .hole
theorem CO(f:Fm Str):(JZ f).size<=f.D7+2:=by
 cases f with
 |aa=>exact Nat.le_refl _
 |one u=>show 1+(hm u).size+1<=u.size+2;rw[lh];omega
 |other u=>show(hm u).size+1+1<=u.size+2;rw[lh];omega
theorem E5{K:W.Frag}{a c:Addr}{xs ys:List V}{g:TG}{tb:TS}{D:Ends}{σ:L2.St}{H:Hp}(Pv:Nat->L2.St->Hp->Prop)(he:ys.length=xs.length)(h0:Pv 0 σ H)(hl:∀i σ H,i<=xs.length->Pv i σ H->bp K H a xs/\bp K H c ys)
  (hs:∀i x y T σ H H',xs[i]? =some x->ys[i]? =some y->Pv i σ H->H T=none->H'=upd H T (.tup [x,y])->g (.ref T) σ H' fun σ2 H2=>tb {D with nx:=Pv (i+1),ct:=Pv (i+1),bk:=D.nx} σ2 H2)(hd:∀σ H,Pv xs.length σ H->D.nx σ H):
  ∃W:Nat->Nat->L2.St->Hp->Prop,(∃m,W 0 m σ H)/\∀i m σ H,W i m σ H->
   ((M0 K a c).stop i H/\D.nx σ H) ∨ ((M0 K a c).go i H/\∃N:L2.St->Hp->Prop,(∀σ' H',N σ' H'->∃m',m' < m/\W (i+1) m' σ' H')/\∀x H',(M0 K a c).JH i H x H'->g x σ H' fun σ2 H2=>tb {D with nx:=N,ct:=N,bk:=D.nx} σ2 H2):=by
 refine⟨fun i m σ H=>m=xs.length - i/\i<=xs.length/\Pv i σ H,⟨xs.length,by simp,Nat.zero_le _,h0⟩,?_⟩
 rintro i m σ H ⟨rfl,hi,p⟩
 obtain⟨q1,q2⟩:=hl i σ H hi p
 by_cases eB:i < xs.length
 ·refine .inr ⟨⟨xs,ys,xs[i],ys[i],q1,q2,by simp[eB],by simp[eB,he]⟩,Pv (i+1),fun σ' H' p'=>⟨xs.length - (i+1),by omega,rfl,eB,p'⟩,fun x H' y=>?_⟩
  obtain⟨T,x',y',rfl,hn,YQ,hx,hy⟩:=y
  exact hs i x' y' T σ H H' (hx xs q1) (hy ys q2) p hn YQ
 ·have e:i=xs.length:=by omega
  subst e
  exact .inl ⟨⟨xs,ys,q1,q2,.inl (Nat.le_refl _)⟩,hd σ H p⟩
abbrev eN:Stmt:=inClass (top 14) 10
theorem fJ:a8 ["self","other","mine","its"] ["self","other"] (aw eN):=⟨rfl,rfl,rfl,by decide+kernel,rfl,by decide+kernel,by decide+kernel⟩
inductive Ju(C hA:Addr)(vs:List V)(H:Hp)(Q:VK):Prop where
 |mk(x ab y yb:Addr)(t r:Tm)(S U:List (Fm Str))(c1:vs=[.ref x,.ref y])(c2:dq C x ab hA t S H)(c3:dq C y yb hA r U H)(c4:t.size<=90000)(c5:Small 90000 S)(c6:∀(b:Bool) H',aQ H H'->(b=true->t=r/\S=U)->Q (.bl b) H')
def Bv(C hA:Addr):Sp:=fun vs H Q _=>Ju C hA vs H Q
theorem KN{f C hA:Addr}{fd:FuncData}(F:jS K "same_as" "Stand.same_as" eN f fd)(N_:cV mg)(R:jc K C)(uP:GF P w K mg base bK 1 "same" ["one","other"] (tL hA)):cg P w K mg base bK 2 f fd ["self","other"] (Bv C hA):=by
 refine F.ok fJ (fun vs H Q E h=>?_) (fun fx A outer s H vs Q E hr h=>?_)
 ·obtain⟨x,ab,y,yb,t,r,S,U,rfl,_⟩:=h
  rfl
 ·obtain⟨x,ab,y,yb,t,r,S,U,rfl,rn,XY,hsz,vJ,k⟩:=h
  obtain⟨dx,fs,tv,vs,hx,ht,hb,hp⟩:=id rn
  obtain⟨dy,gs,rv,us,hy,JS,hc,hq⟩:=id XY
  have lS:=Paired.length hp
  have lU:=Paired.length hq
  rw[List.length_reverse] at lS lU
  refine⟨_,(ag (bj (PW.pt (hU (ax lL (mh bf (by rfl) N_.len boot_len (ak (bQ (pv 0) rfl) aj)) (mh bf (by rfl) N_.len boot_len (ak (bQ (pv 1) rfl) aj)) (aA _)) (ir (fK (dH (cA uP (hr.mono (by decide)) rfl bt (ak (bQ (pv 0) rfl) (ak (bQ (pv 1) rfl) aj)))))))) (ai (aU e4)) aZ)
   (ag (iu PassesOwn.never rfl (Hq rfl N_.zip (ak (bQ (pv 0) rfl) (ak (bQ (pv 1) rfl) aj))) (oO rfl (dF (cU (i:=2) fJ.nd rfl (Or.inl rfl)) (dF (cU (i:=3) fJ.nd rfl (Or.inl rfl)) kP))) (ai (bj (fK (dH (cA uP (hr.mono (by decide)) rfl bt (ak (pv 2) (ak (pv 3) aj))))) (ai (aU e4)) aZ)))
   (ai (aU e4)))),?_⟩
  show(let cP:TS:=_;let dj:TS:=_;let eW:TS:=bS _ dj _;let fy:TS:=aL (qz _ _ eW) cP;let fW:TS:=_;aL (bS _ fW _) fy _ _ _)
  intro cP dj eW fy fW
  refine⟨_,rfl,x,C,dx,fs,_,rfl,hx.ins,R.cl,R.nA,hx.above,_,_,rfl,Or.inl (bp.of hb),_,rfl,y,C,dy,gs,_,rfl,hy.ins,R.cl,R.nA,hy.above,_,_,rfl,Or.inl (bp.of hc),rfl,_,rfl,?_⟩
  by_cases hl:vs.length=us.length
  ·refine oV (by rw[hl]) ⟨_,rfl,x,C,dx,fs,_,rfl,hx.ins,R.cl,R.nP,hx.part,_,rfl,y,C,dy,gs,_,rfl,hy.ins,R.cl,R.nP,hy.part,tv,rv,hm t,hm r,rfl,ht.h,JS.h,by rw[lh];omega,fun b H2 rq s2=>⟨_,rfl,?_⟩⟩
   cases b with
   |false=>exact fu (k false H2 s2 (fun z=>nomatch z))
   |true=>
    have Y2:=oW t r (rq.mp rfl)
    refine cf ?_
    have ml:uV C x ab dx fs tv H2:=hx.keep ((s2 _ _ hx.ins).trans hx.ins.symm)
    have Au:uV C y yb dy gs rv H2:=hy.keep ((s2 _ _ hy.ins).trans hy.ins.symm)
    refine⟨_,rfl,x,C,dx,fs,_,rfl,ml.ins,R.cl,R.nA,hx.above,_,rfl,y,C,dy,gs,_,rfl,Au.ins,R.cl,R.nA,hy.above,ab,yb,vs,us,rfl,bp.of (s2 _ _ hb),bp.of (s2 _ _ hc),E5 (K:=K) (a:=ab) (c:=yb) (xs:=vs) (ys:=us) (fun i σ H'=>∃x2 x3,σ=[some (.ref x),some (.ref y),x2,x3]/\aQ H H'/\S.reverse.take i=U.reverse.take i) hl.symm ⟨none,none,rfl,s2,rfl⟩ (fun i σ H' _ ⟨_,_,_,sm,_⟩=>⟨bp.of (sm _ _ hb),bp.of (sm _ _ hc)⟩) ?_ ?_⟩
    ·rintro i v u T σ H3 H4 hv hu ⟨x2,x3,rfl,s3,he⟩ nT rfl
     obtain⟨f1,ef,hf⟩:=cm hp hv
     obtain⟨g1,eg,hg⟩:=cm hq hu
     have s4:aQ H (upd H3 T (.tup [v,u])):=s3.trans (bZ nT)
     refine⟨T,_,rfl,aS.of aH,rfl,_,_,rfl,_,_,rfl,rfl,?_⟩
     have hfs:f1.D7<=90000:=vJ f1 (List.mem_reverse.mp (List.mem_of_getElem? ef))
     have hfz:=CO f1
     refine⟨_,rfl,_,rfl,v,u,JZ f1,JZ g1,rfl,(hf.mono (.of_same s4)).h,(hg.mono (.of_same s4)).h,by omega,fun b H5 QX s5=>⟨_,rfl,?_⟩⟩
     cases b with
     |false=>exact fu (k false H5 (s4.trans s5) (fun z=>nomatch z))
     |true=>
      have Y8:=E6 f1 g1 (QX.mp rfl)
      refine cf ⟨_,_,rfl,s4.trans s5,?_⟩
      rw[List.take_add_one,List.take_add_one,he,ef,eg,Y8]
    ·rintro σ H3 ⟨x2,x3,rfl,s3,he⟩
     refine k true H3 s3 fun _=>⟨Y2,?_⟩
     have e1:S.reverse=U.reverse:=by
      have l1:S.reverse.take vs.length=S.reverse:=List.take_of_length_le (by rw[List.length_reverse];omega)
      have l2:U.reverse.take vs.length=U.reverse:=List.take_of_length_le (by rw[List.length_reverse];omega)
      rw[l1,l2] at he
      exact he
     exact List.reverse_inj.mp e1
  ·exact rk (fun z=>hl (by injection z with z;omega)) (fu (k false H (fun _ _ h=>h) (fun z=>nomatch z)))
end
theorem kK{t u:TS}{D:Ends}{σ:L2.St}{H:Hp}(h:∀D':Ends,(∀σ' H',u D σ' H'->D'.nx σ' H')->D'.rt=D.rt->t D' σ H):aL t u D σ H:=h {D with nx:=fun σ' H'=>u D σ' H'} (fun _ _ h=>h) rfl
theorem oE:∀(S:List (Fm Str)) (t:Tm),t.size<=(bu S t).size/\∀f∈S,f.D7<=(bu S t).size
 |[],t=>⟨Nat.le_refl _,fun _ h=>nomatch h⟩
 |f::S,t=>by
  obtain⟨h1,h2⟩:=oE S (cZ f t)
  have h3:t.size<=(cZ f t).size/\f.D7<=(cZ f t).size:=by
   cases f with
   |aa=>exact⟨by show t.size<=t.size+1;omega,Nat.zero_le _⟩
   |one b=>exact⟨by show t.size<=t.size+b.size+1;omega,by show b.size<=t.size+b.size+1;omega⟩
   |other a=>exact⟨by show t.size<=a.size+t.size+1;omega,by show a.size<=a.size+t.size+1;omega⟩
  refine⟨Nat.le_trans h3.1 h1,fun g hg=>?_⟩
  rcases List.mem_cons.mp hg with rfl|hg
  ·exact Nat.le_trans h3.2 h1
  ·exact h2 g hg
theorem EO{C x ab hA:Addr}{t:Tm}{S:List (Fm Str)}{H H':Hp}(h:dq C x ab hA t S H)(k:KA [x,ab] H H'):bY H H':=by
 obtain⟨dx,fs,pv,vs,h1,h2,h3,h4⟩:=h
 intro b ys e
 refine k b _ (fun z=>?_) (fun _ z=>by cases z) e
 rcases List.mem_cons.mp z with q|q
 ·rw[q,h1.ins] at e;cases e
 ·rw[List.mem_singleton.mp q,h3] at e;cases e
theorem dq.ka{C y yb hA:Addr}{t:Tm}{S:List (Fm Str)}{L:List Addr}{H H':Hp}(h:dq C y yb hA t S H)(k:KA L H H')(tu:bY H H')(n1:y∉L)(n2:yb∉L):dq C y yb hA t S H':=by
 obtain⟨dx,fs,pv,vs,h1,h2,h3,h4⟩:=h
 exact⟨dx,fs,pv,vs,⟨k _ _ n1 (fun _ z=>by cases z) h1.ins,h1.part,h1.above,h1.iU,h1.d3⟩,h2.mono tu,k _ _ n2 (fun _ z=>by cases z) h3,eJ h4 tu⟩
theorem ST.trans'{TL:cS}{H H1 H2:Hp}(a:ST TL H H1)(b:ST TL H1 H2):ST TL H H2:=⟨fun c o n e=>b.sx c o n (a.sx c o n e),b.to⟩
section
variable {P:Program}{w:World}{K:W.Frag}{mg:Str->Option Value}{base:Heap}
seal L2.PE L2.PA L2.PT L2.PS L2.nZ L2.PW L2.PG L2.uW L2.PI L2.PO L2.gy L2.wc L2.cE L2.mw L2.rS L2.rR
abbrev ym:Stmt:=top 16
theorem ji:a8 ["term","fuel","stand","many","mark","marked"] ["term","fuel"] (aw ym):=⟨rfl,rfl,rfl,by decide+kernel,rfl,by decide+kernel,by decide+kernel⟩
inductive Di(TL:cS)(vs:List V)(H:Hp)(Q:VK):Prop where
 |mk(v:V)(t:Tm)(F n:Nat)(c1:vs=[v,.int (F:Int)])(c2:au H v t)(c3:∀i,i<=n->∃x,b0 i t=some x/\x.deep<=190/\x.size<=90000)(c4:F<=n ∨ ∃y,b0 n t=some y/\y.ao=[])(c5:TO TL H)
  (c6:∀x b v' H',b0 (min F n) t=some x->x.ao≠[]->ST TL H H'->H' b=some (.tup [.str "on",v'])->au H' v' x->Q (.ref b) H')(c7:∀x b v' H',b0 (min F n) t=some x->x.ao=[]->ST TL H H'->H' b=some (.tup [.str "end",v',.int ((min F n:Nat):Int)])->au H' v' x->Q (.ref b) H')
def tN(TL:cS):Sp:=fun vs H Q _=>Di TL vs H Q
def mx(C hA x ab:Addr)(t:Tm)(i:Nat)(H:Hp)(mk:V)(j:Nat):Prop:=mk= .d0 ∨ ∃y yb tj Sj,mk= .ref y/\y∉[x,ab]/\yb∉[x,ab]/\dq C y yb hA tj Sj H/\b0 j t=some (bu Sj tj)/\j < i
inductive zt(TL:cS)(H:Hp)(C hA x ab:Addr)(v:V)(t:Tm)(F n:Nat)(m:Nat)(σ:L2.St)(H':Hp):Prop where
 |mk(i F' j:Nat)(t':Tm)(S':List (Fm Str))(mk:V)(c1:σ=[some v,some (.int (F':Int)),some (.ref x),some (.int (i:Int)),some mk,some (.int (j:Int))])(c2:ST TL H H')(c3:dq C x ab hA t' S' H')(c4:cX 190 S')(c5:Clear S' t')(c6:b0 i t=some (bu S' t'))(c7:i<=n)(c8:i<=F')(c9:b0 (min F' n) t=b0 (min F n) t)(Vd:F'<=n ∨ ∃y,b0 n t=some y/\y.ao=[])(Zj:mx C hA x ab t i H' mk j)(Zi:m=n - i)
theorem Ex{f C hA:Addr}{fd:FuncData}{TL:cS}(F:jS K "led" "led" ym f fd)(N_:cV mg)(R:jc K C)(lC:GK P w K mg base bK 1 C "Stand" ["self","term"] (mL C hA))(fB:GM P w K mg base bK 3 C "find_spot" ["self"] (tP C hA))(gj:GM P w K mg base bK 2 C "same_as" ["self","other"] (Bv C hA))(fA:GM P w K mg base bK 2 C "go_to_top" ["self"] (wW C hA))(gW:GM P w K mg base bK 3 C "copied" ["self"] (oA C hA))(gk:GM P w K mg base bK 11 C "do_step" ["self"] (Bu TL C hA)):cg P w K mg base bK 12 f fd ["term","fuel"] (tN TL):=by
 refine F.ok ji (fun vs H Q E h=>?_) (fun fx A outer s H vs Q E hr h=>?_)
 ·obtain⟨v,t,F,n,rfl,_⟩:=h
  rfl
 ·obtain⟨v,t,F,n,rfl,ht,Ay,IE,to,XG,Py⟩:=h
  refine⟨_,(ag (aE (i:=2) ji.nd rfl (Or.inl rfl) (BV lC (hr.mono (by decide)) rfl bt (ak (pv 0) aj)))
   (ag (aE (i:=3) ji.nd rfl (Or.inl rfl) ah)
   (ag (aE (i:=4) ji.nd rfl (Or.inl rfl) qN)
   (ag (aE (i:=5) ji.nd rfl (Or.inl rfl) ah)
   (ag (dY PassesOwn.never (dH (iz (pv 2) R.cl fB (hr.mono (by decide)) bt)) (ag (bj (PW.pt (ei (ax Ep (pv 4) qN (aA _)) (dt (dH (vj (pv 2) R.cl gj (hr.mono (by decide)) bt (ak (pv 4) aj)))))) (ai (aE (i:=1) ji.nd rfl (Or.inl rfl) (bU gI (pv 3) (bU gH (bU mi (pv 1) (pv 3)) (bU mi (pv 3) (pv 5)))))) aZ)
   (ag (bj (ax bC (pv 3) (pv 1) (aA _)) (ag (a0 (iz (pv 2) R.cl fA (hr.mono (by decide)) bt))
   (ai (aU (cB (ak aC (ak (bQ (pv 2) rfl) aj)))))) aZ)
   (ag (bj (PW.pt (hU (ax Hu (pv 4) qN (aA _)) (ir (ax mY (pv 3) (bU B3 ah (pv 5)) (aA _))))) (ag (aE (i:=4) ji.nd rfl (Or.inl rfl) (iz (pv 2) R.cl gW (hr.mono (by decide)) bt))
   (ai (aE (i:=5) ji.nd rfl (Or.inl rfl) (pv 3)))) aZ)
   (ag (a0 (iz (pv 2) R.cl gk (hr.mono (by decide)) bt))
   (ai (Ho (i:=3) ji.nd rfl (Or.inl rfl) ah Ii)))))))
   (ai (aU (cB (ak aC (ak (bQ (pv 2) rfl) (ak (pv 3) aj))))))))))),?_⟩
  show(let cP:TS:=_;let dj:TS:=_;let eW:TS:=aL _ dj;let fy:TS:=_;let fW:TS:=aL _ fy;let iI:TS:=aL (bS _ fW _) eW;let kE:TS:=_;let kD:TS:=aL _ kE;let lJ:TS:=aL (bS _ kD _) iI;let eD:TS:=_;let fb:TS:=aL (bS _ eD _) lJ;let kG:TS:=aL (gc _ fb) cP;let kF:TS:=aL _ kG;let nY:TS:=aL _ kF;let nX:TS:=aL _ nY;aL _ nX _ _ _)
  intro cP dj eW fy fW iI kE kD lJ eD fb kG kF nY nX
  refine⟨_,rfl,fun x dx nx JM ne=>?_⟩
  have s0:aQ H (upd (upd H dx (.own x)) x (.ins C dx [])):=fun b o e=>by
   rw[aF (fun z=>by rw[z,nx] at e;cases e),aF (fun z=>by rw[z,JM] at e;cases e)]
   exact e
  refine⟨x,dx,v,t,rfl,aH,ht.same s0,fun ab H2 WO hax rn hk=>⟨rfl,?_⟩⟩
  have Pb:H ab=none:=s0.free WO
  have s2:aQ H H2:=fun b o e=>hk b o (fun z=>by rw[z,nx] at e;cases e) (s0 b o e)
  have nL:∀z∈[x,ab],H z=none:=fun z hz=>by
   rcases List.mem_cons.mp hz with e|hz
   ·rw[e];exact nx
   ·rw[List.mem_singleton.mp hz];exact Pb
  refine⟨zt TL H C hA x ab v t F n,⟨n - 0,0,F,0,t,[],.d0,rfl,ST.of_same to s2,rn,(fun _ z=>nomatch z),trivial,rfl,Nat.zero_le _,Nat.zero_le _,rfl,IE,.inl rfl,rfl⟩,?_⟩
  rintro m σ H5 ⟨i,F',j,t',S',mk,rfl,JL,jU,nB,uq,cq,qf,QE,EX,CF,Yg,rfl⟩
  obtain⟨ti,U2,UJ,Us⟩:=Ay i qf
  rw[cq] at U2
  cases U2
  obtain⟨Zb,YW,tv5,vs5,PN,ht5,QX,Az⟩:=id jU
  have next:∀k y,b0 k t=some y->y.ao=[]->k<=n->k=n:=fun k y hk hy hkn=>by
   by_cases e:k=n
   ·exact e
   ·obtain⟨z,hz,_⟩:=Ay (k+1) (by omega)
    rw[iS,hk] at hz
    have hz:nextT y=some z:=hz
    rw[qV.mpr hy] at hz
    cases hz
  have Co:∀{H6:Hp},bh [x,ab] H5 H6->ST TL H H6:=fun k6=>⟨fun c o m e=>k6 c o (fun z=>by rw[nL c z] at e;cases e) (JL.sx c o m e),pT JL.to PN.ins QX k6⟩
  refine⟨_,rfl,x,Zb,YW,rfl,PN.ins,PN.iU _ (by decide+kernel),x,ab,t',S',rfl,jU,nB,UJ,uq,fun H6 k6 h6 uT=>⟨_,rfl,cf ?_⟩,fun t6 S6 H6 k6 h6 Nq OY Mp Ha=>⟨_,rfl,fu ?_⟩⟩
  ·-- the end
   have Y7:i=n:=next i _ cq uT qf
   have e1:min F' n=n:=by omega
   have vI:b0 (min F n) t=some (bu S' t'):=by rw[<-EX,e1,<-Y7];exact cq
   have eK:min F n=i:=by
    have:=next (min F n) _ vI uT (Nat.min_le_right _ _)
    omega
   obtain⟨Mg,Mb,Of,SU,Gh,P8,UM,iC⟩:=id h6
   refine⟨_,rfl,x,C,Mg,Mb,_,rfl,Gh.ins,R.cl,R.nP,Gh.part,_,rfl,az (by show 3<=1000000;decide),fun b H7 n7 s7 h7=>?_⟩
   exact Py _ b Of H7 vI uT ((Co k6).trans' (ST.of_same (Co k6).to s7)) (by rw[eK];exact h7) (P8.same s7)
  ·rw[<-OY] at cq UJ Us
   have Ly:(bu S6 t6).ao≠[]:=by
    obtain⟨R,hR⟩:=rA Mp Ha
    rw[hR]
    exact fun z=>nomatch z
   have S4:=Co k6
   obtain⟨Mg,Mb,Of,SU,Gh,P8,UM,iC⟩:=id h6
   have LI:mx C hA x ab t i H6 mk j:=Yg.imp id fun⟨y,yb,tj,Sj,e,n1,n2,Ax,hj,E3⟩=>⟨y,yb,tj,Sj,e,n1,n2,Ax.ka (ug k6) (D0 jU k6) n1 n2,hj,E3⟩
   refine⟨fun σ' H'=>∃m',m' < n - i/\zt TL H C hA x ab v t F n m' σ' H',fun _ _ h=>h,?_⟩
   show fb _ _ _
   refine kK (u:=lJ) fun D1 h1 Qd=>?_
   have sF:∀(F2:Nat) (H7:Hp),aQ H6 H7->i<=F2->b0 (min F2 n) t=b0 (min F n) t->(F2<=n ∨ ∃y,b0 n t=some y/\y.ao=[])->D1.nx [some v,some (.int (F2:Int)),some (.ref x),some (.int (i:Int)),some mk,some (.int (j:Int))] H7:=by
    intro F2 H7 s7 Yp vI Gu
    refine h1 _ _ ?_
    have h7:=h6.same s7
    have Nn:=S4.trans' (ST.of_same S4.to s7)
    obtain⟨U4,UY,tv7,wK,JP,ht7,UL,pJ⟩:=id h7
    have Qx:mx C hA x ab t i H7 mk j:=LI.imp id fun⟨y,yb,tj,Sj,e,n1,n2,Ax,hj,E3⟩=>⟨y,yb,tj,Sj,e,n1,n2,Ax.same s7,hj,E3⟩
    refine⟨_,rfl,_,rfl,rfl,_,rfl,uj (fun he=>?_) (fun he=>?_)⟩
    ·have he:i=F2:=by injection he with he;omega
     have e1:min F2 n=i:=by omega
     have Lv:b0 (min F n) t=some (bu S6 t6):=by rw[<-vI,e1];exact cq
     refine⟨_,rfl,x,U4,UY,rfl,JP.ins,JP.iU _ (by decide+kernel),x,ab,t6,S6,rfl,h7,Nq,fun H8 k8 h8=>?_⟩
     obtain⟨Ru,Rc,SV,VY,Lm,Uq,YC,iY⟩:=id h8
     have Ko:ST TL H H8:=⟨fun c o m e=>k8 c o (fun z=>by rw[nL c z] at e;cases e) (Nn.sx c o m e),pT Nn.to JP.ins UL k8⟩
     refine⟨_,rfl,x,C,Ru,Rc,_,rfl,Lm.ins,R.cl,R.nP,Lm.part,az (by show 2<=1000000;decide),fun b H9 n9 s9 h9=>?_⟩
     exact XG _ b SV H9 Lv Ly (Ko.trans' (ST.of_same Ko.to s9)) h9 (Uq.same s9)
    ·have he:i≠F2:=fun z=>he (by rw[z])
     have eB:i < n:=by
      rcases Gu with z|⟨y,hy,PL⟩
      ·omega
      ·by_cases e:i=n
       ·rw[<-e,cq] at hy
        cases hy
        exact absurd PL Ly
       ·omega
     show iI _ _ _
     refine kK (u:=eW) fun D2 h2 EZ=>?_
     have sE:∀(K2:V) (j2:Nat) (H8:Hp),aQ H7 H8->mx C hA x ab t (i+1) H8 K2 j2->D2.nx [some v,some (.int (F2:Int)),some (.ref x),some (.int (i:Int)),some K2,some (.int (j2:Int))] H8:=by
      intro K2 j2 H8 s8 Qw
      refine h2 _ _ ?_
      have h8:=h7.same s8
      have Ko:=Nn.trans' (ST.of_same Nn.to s8)
      obtain⟨Ru,Rc,SV,VY,Lm,Uq,YC,iY⟩:=id h8
      have DJ:=lr S6 t6
      obtain⟨JO,Gg⟩:=oE S6 t6
      cases t6 with
      |name _=>cases Ha
      |place _=>cases Ha
      |aa _=>cases Ha
      |call a u=>
       cases a with
       |name _=>cases Ha
       |place _=>cases Ha
       |call _ _=>cases Ha
       |aa b=>
        have JO:b.size+1+u.size+1<=_:=JO
        refine⟨_,rfl,x,Ru,Rc,rfl,Lm.ins,Lm.iU _ (by decide+kernel),x,ab,b,u,S6,rfl,h8,Nq,by omega,by omega,by omega,Ko.to,fun t9 S9 H9 Px Nj h9 Wb Wv Zd=>?_⟩
        have Ni:=EO h8 Px
        have Y5:b0 (i+1) t=some (bu S9 t9):=by
         rw[iS,cq,Wv]
         exact zY Mp
        have Qv:mx C hA x ab t (i+1) H9 K2 j2:=Qw.imp id fun⟨y,yb,tj,Sj,e,n1,n2,Ax,hj,E3⟩=>⟨y,yb,tj,Sj,e,n1,n2,Ax.ka Px Ni n1 n2,hj,E3⟩
        have Wa:ST TL H H9:=⟨fun c o m e=>Px c o (fun z=>by rw[nL c z] at e;cases e) m (Ko.sx c o m e),Nj⟩
        refine⟨_,rfl,_,_,rfl,rfl,?_⟩
        exact⟨n - (i+1),by omega,i+1,F2,j2,t9,S9,K2,rfl,Wa,h9,Wb,Zd Mp,Y5,by omega,by omega,vI,Gu,Qv,rfl⟩
     have up:mx C hA x ab t i H7 mk j->mx C hA x ab t (i+1) H7 mk j:=fun h=>h.imp id fun⟨y,yb,tj,Sj,e,n1,n2,Ax,hj,E3⟩=>⟨y,yb,tj,Sj,e,n1,n2,Ax,hj,by omega⟩
     have new:fW D2 [some v,some (.int (F2:Int)),some (.ref x),some (.int (i:Int)),some mk,some (.int (j:Int))] H7:=by
      refine⟨_,rfl,x,U4,UY,rfl,JP.ins,JP.iU _ (by decide+kernel),x,ab,t6,S6,rfl,h7,fun y yb H8 s8 ny Tn Ax=>⟨_,rfl,?_⟩⟩
      have nn:∀z,H7 z=none->z∉[x,ab]:=fun z hz hm=>by
       rcases List.mem_cons.mp hm with e|hm
       ·rw[e,JP.ins] at hz;cases hz
       ·rw[List.mem_singleton.mp hm,UL] at hz;cases hz
      exact sE (.ref y) i H8 s8 (.inr ⟨y,yb,t6,S6,rfl,nn y ny,nn yb Tn,Ax,cq,by omega⟩)
     rcases Qx with rfl|⟨y,yb,tj,Sj,rfl,n1,n2,Ax,hj,E3⟩
     ·exact⟨_,rfl,rfl,_,rfl,ia rfl (fu new)⟩
     ·refine⟨_,rfl,rfl,_,rfl,dh (fun z=>by cases z) ⟨_,rfl,_,rfl,_,_,rfl,rfl,.inl ⟨by decide,by decide⟩,_,_,rfl,rfl,_,rfl,uj (fun _=>new) (fun _=>?_)⟩⟩
      exact sE (.ref y) j H7 (fun _ _ h=>h) (up (.inr ⟨y,yb,tj,Sj,rfl,n1,n2,Ax,hj,E3⟩))
   rcases id LI with rfl|⟨y,yb,tj,Sj,rfl,n1,n2,Ax,hj,E3⟩
   ·exact⟨_,rfl,rfl,_,rfl,oV rfl (cf (sF F' H6 (fun _ _ h=>h) QE EX CF))⟩
   ·obtain⟨JO,Gg⟩:=oE S6 t6
    refine⟨_,rfl,rfl,_,rfl,rk (fun z=>by cases z) ⟨_,rfl,x,Mg,Mb,rfl,Gh.ins,Gh.iU _ (by decide+kernel),_,rfl,x,ab,y,yb,t6,tj,S6,Sj,rfl,h6,Ax,by omega,(fun f hf=>Nat.le_trans (Gg f hf) Us),fun b H7 s7 hb=>⟨_,rfl,?_⟩⟩⟩
    cases b with
    |false=>exact cf (sF F' H7 s7 QE EX CF)
    |true=>
     obtain⟨e1,e2⟩:=hb rfl
     have NN:b0 j t=some (bu S6 t6):=by rw[e1,e2];exact hj
     obtain⟨p,hp⟩:∃p,i=j+p:=⟨i - j,by omega⟩
     have Qj:0 < p:=by omega
     have h2:b0 (j+p) t=some (bu S6 t6):=by rw[<-hp];exact cq
     have hFn:F'<=n:=CF.resolve_right fun⟨y,hy,PL⟩=>BC Qj NN h2 hy PL
     have h3:b0 (i+p) t=some (bu S6 t6):=by
      have:=jl NN h2 2
      rw[show i+p=j+2*p by omega]
      exact this
     have h4:=BA Qj cq h3 QE
     have hm:=Nat.mod_lt (F' - i) Qj
     have NH:=Nat.mod_le (F' - i) p
     refine fu ⟨_,rfl,_,rfl,_,rfl,_,_,rfl,rfl,_,rfl,_,rfl,_,_,rfl,rfl,_,_,rfl,rfl,(by show(0:Int) < (i:Int) - (j:Int);omega),_,_,rfl,rfl,?_⟩
     have ec:(i:Int)+((F':Int) - (i:Int)) % ((i:Int) - (j:Int))=((i+(F' - i) % p:Nat):Int):=by
      rw[show(F':Int) - (i:Int)=((F' - i:Nat):Int) by omega,show(i:Int) - (j:Int)=(p:Int) by omega,<-Int.natCast_emod]
      omega
     show D1.nx [some v,some (.int ((i:Int)+((F':Int) - (i:Int)) % ((i:Int) - (j:Int)))),some (.ref x),some (.int (i:Int)),some (.ref y),some (.int (j:Int))] H7
     rw[ec]
     refine sF _ H7 s7 (by omega) ?_ (.inl (by omega))
     rw[show min (i+(F' - i) % p) n=i+(F' - i) % p by omega,h4,<-EX,show min F' n=F' by omega]
end
theorem Pf:¬(V.str "one"=V.str "form"):=by decide+kernel
theorem Pd:¬(V.str "other"=V.str "form"):=by decide+kernel
theorem Pc:¬(V.str "other"=V.str "one"):=by decide+kernel
inductive rN(H:Hp):V->Fm Str->Prop where
 |aa {p:Addr}{u:V} (h:H p=some (.tup [.str "form",u])):rN H (.ref p) .aa
 |one {p q:Addr}{x u:V}{t:Tm} (h:H p=some (.tup [.str "one",.ref q])) (hq:H q=some (.tup [.str "call",x,u])) (hu:au H u t):rN H (.ref p) (.one t)
 |other {p q:Addr}{x u:V}{t:Tm} (h:H p=some (.tup [.str "other",.ref q])) (hq:H q=some (.tup [.str "call",u,x])) (hu:au H u t):rN H (.ref p) (.other t)
theorem rN.mono{H H':Hp}{v:V}{f:Fm Str}(h:rN H v f)(k:bY H H'):rN H' v f:=by
 cases h with
 |aa h=>exact .aa (k _ _ h)
 |one h hq hu=>exact .one (k _ _ h) (k _ _ hq) (hu.mono k)
 |other h hq hu=>exact .other (k _ _ h) (k _ _ hq) (hu.mono k)
theorem qP{H H':Hp}{vs:List V}{S:List (Fm Str)}(h:Paired (rN H) vs S)(k:bY H H'):Paired (rN H') vs S:=aq (fun _ _ q=>q.mono k) h
section
variable {P:Program}{w:World}{K:W.Frag}{mg:Str->Option Value}{base:Heap}
seal L2.PE L2.PA L2.PT L2.PS L2.nZ L2.PW L2.PG L2.uW L2.PI L2.PO L2.gy L2.wc L2.cE L2.mw L2.rS L2.rR
abbrev fi:Stmt:=top 24
theorem bE:a8 ["_law_term","_law_path","_law_opened","_law_part","_law_turn","_law_made","_law_pair"] ["_law_term","_law_path"] (aw fi):=⟨rfl,rfl,rfl,by decide+kernel,rfl,by decide+kernel,by decide+kernel⟩
inductive Fx(H:Hp)(v:V)(t:Tm)(ps:List Int)(pl op:Addr)(i:Nat)(σ:L2.St)(H':Hp):Prop where
 |mk(u:_)(S:_)(uv:_)(xs:_)(x4:_)(c1:σ=[some v,some (.ref pl),some (.ref op),some uv,x4,none,none])(c2:aQ H H')(c3:H' op=some (.lst xs))(c4:Paired (rN H') xs S.reverse)(c5:au H' uv u)(c6:dR u (ps.drop i) S=dR t ps [])(c7:u.size<=100000)(c8:Small 100000 S)(c9:S.length<=i)
def Dv(H:Hp)(v:V)(t:Tm)(ps:List Int)(pl op:Addr)(i:Nat)(σ:L2.St)(H':Hp):Prop:=Fx H v t ps pl op i σ H'
inductive we(vs:List V)(H:Hp)(Q:VK):Prop where
 |mk(v:_)(t:_)(pl:_)(ps:_)(c1:vs=[v,.ref pl])(c2:au H v t)(c3:t.size<=100000)(c4:H pl=some (.lst (ps.map V.int)))(c5:ps.length<=900)(c6:(∀r,stepT t ps=some r->∀v' H',aQ H H'->au H' v' r->Q v' H'))(c7:(stepT t ps=none->∀H',aQ H H'->Q .d0 H'))
def lX:Sp:=fun vs H Q lK=>we vs H Q
theorem xl{f:Addr}{fd:FuncData}(F:jS K "_law_stepped" "_law_stepped" fi f fd)(N_:cV mg)(gS:GF P w K mg base bK 3 "_law_stuffed" ["_law_body","_law_given"] ke):
  cg P w K mg base bK 4 f fd ["_law_term","_law_path"] lX:=by
 refine F.ok bE (fun vs H Q E h=>?_) (fun fx A outer s H vs Q E hr h=>?_)
 ·obtain⟨v,t,pl,ps,rfl,_⟩:=h
  rfl
 ·obtain⟨v,t,pl,ps,rfl,ht,hsz,mm,hlen,k1,k2⟩:=h
  refine⟨_,(ag (aE (i:=2) bE.nd rfl (Or.inl rfl) (et aj))
   (ag (aE (i:=3) bE.nd rfl (Or.inl rfl) (pv 0))
   (ag (iu PassesOwn.never rfl (pY (pv 1)) (cU (i:=4) bE.nd rfl (Or.inl rfl)) (ai (bj (PW.pt (ei (ax bC (aD ay (pv 3) ah (fun _ _=>rfl)) aC (aA _)) (dt (ax bC (pv 4) ah (aA _))))) (ag (a0 (eA (pv 2) (cB (ak aC (ak (pv 3) aj)))))
   (ai (aE (i:=3) bE.nd rfl (Or.inl rfl) (aD ay (pv 3) ah (fun _ _=>rfl))))) (ai (bj (PW.pt (ei (ax bC (aD ay (pv 3) ah (fun _ _=>rfl)) aC (aA _)) (dt (PW.pt (hU (ax bC (pv 4) ah (aA _)) (ir (ax bC (pv 4) ah (aA _)))))))) (ag (a0 (eA (pv 2) (cB (ak (aD ee (et (ak aC (ak aC aj))) (pv 4) (fun _ _=>rfl)) (ak (pv 3) aj)))))
   (ai (aE (i:=3) bE.nd rfl (Or.inl rfl) (aD ay (pv 3) (bU gI ah (pv 4)) (fun _ _=>rfl))))) (ai (aU qN)))))))
   (ag (bj (PW.pt (hU (ax lL (aD ay (pv 3) ah (fun _ _=>rfl)) aC (aA _)) (ir (ax lL (aD ay (aD ay (pv 3) ah (fun _ _=>rfl)) ah (fun _ _=>rfl)) aC (aA _))))) (ai (aU qN)) aZ)
   (ag (aE (i:=5) bE.nd rfl (Or.inl rfl) (cA gS (hr.mono (by decide)) rfl bt (ak (aD ay (aD ay (pv 3) ah (fun _ _=>rfl)) ah (fun _ _=>rfl)) (ak (aD ay (pv 3) ah (fun _ _=>rfl)) aj))))
   (ag (iu PassesOwn.never rfl (BQ rfl N_.reversed (pv 2)) (cU (i:=6) bE.nd rfl (Or.inl rfl)) (ai (bj (ax bC (aD ay (pv 6) ah (fun _ _=>rfl)) aC (aA _)) (ai (aE (i:=5) bE.nd rfl (Or.inl rfl) (cB (ak aC (ak (pv 5) aj))))) (ai (bj (ax bC (aD ay (pv 6) ah (fun _ _=>rfl)) aC (aA _)) (ai (aE (i:=5) bE.nd rfl (Or.inl rfl) (cB (ak aC (ak (pv 5) (ak (aD ay (aD ay (pv 6) ah (fun _ _=>rfl)) ah (fun _ _=>rfl)) aj)))))) (ai (aE (i:=5) bE.nd rfl (Or.inl rfl) (cB (ak aC (ak (aD ay (aD ay (pv 6) ah (fun _ _=>rfl)) ah (fun _ _=>rfl)) (ak (pv 5) aj)))))))))))
   (ai (aU (pv 5))))))))),?_⟩
  show(let cP:TS:=_;let dj:TS:=_;let eW:TS:=_;let fy:TS:=_;let fW:TS:=bS _ eW fy;let iI:TS:=bS _ dj fW;let kE:TS:=aL (qz _ _ iI) cP;let kD:TS:=aL _ kE;let lJ:TS:=_;let eD:TS:=aL (bS _ lJ _) kD;let fb:TS:=_;let kG:TS:=aL _ fb;let kF:TS:=_;let nY:TS:=aL _ kF;let nX:TS:=_;let wb:TS:=bS _ nY nX;let wa:TS:=bS _ kG wb;let uH:TS:=aL (qz _ _ wa) eD;let v9:TS:=aL _ uH;aL _ v9 _ _ _)
  intro cP dj eW fy fW iI kE kD lJ eD fb kG kF nY nX wb wa uH v9
  refine⟨az (by simp),fun op H1 WK s1 Qp=>⟨_,rfl,?_⟩⟩
  refine⟨_,rfl,pl,rfl,⟨_,bp.of (s1 _ _ mm)⟩,nI (K:=K) (a:=pl) (xs:=ps.map V.int) (Dv H v t ps pl op) ⟨t,[],v,[],_,rfl,s1,Qp,.nil,ht.same s1,rfl,hsz,(fun _ z=>nomatch z),Nat.le_refl _⟩
   (fun i σ H' _ ⟨_,_,_,_,_,_,e,_,_,_,_,_,_,_⟩=>bp.of (e _ _ mm)) ?_ ?_⟩
  ·rintro i y σ H' hi ⟨u,S,uv,xs,x4,rfl,s3,pK,Ll,PX,AF,JQ,vJ,IM⟩
   obtain⟨n,hn,rfl⟩:∃n,ps[i]? =some n/\y=V.int n:=by
    rw[List.getElem?_map] at hi
    cases e:ps[i]? with
    |none=>rw[e] at hi;cases hi
    |some z=>rw[e] at hi;exact⟨z,rfl,(Option.some.inj hi).symm⟩
   have LS:i < ps.length:=(List.getElem?_eq_some_iff.mp hn).1
   have Bc:xs.length<=900:=by rw[Paired.length Ll,List.length_reverse];omega
   rw[vU hn] at AF
   have AF:(if gm u n=true then dR (child u n) (ps.drop (i+1)) (frame u n::S) else none)=dR t ps []:=AF
   have stop:gm u n=false->Q .d0 H':=fun hl=>by
    rw[hl,if_neg Bool.false_ne_true] at AF
    exact k2 (by unfold stepT;rw[<-AF];rfl) H' s3
   have fin:∀{p:Addr}{H2 H3:Hp}{c:V},gm u n=true->aQ H' H2->rN H2 (.ref p) (frame u n)->bh [op] H2 H3->H3 op=some (.lst (xs++[.ref p]))->au H2 c (child u n)->∀x4,Dv H v t ps pl op (i+1) [some v,some (.ref pl),some (.ref op),some c,x4,none,none] H3:=by
    intro p H2 H3 c hl s2 ho k3 se hc x4
    rw[hl,if_pos rfl] at AF
    have Qo:=s2 _ _ pK
    have tu:=k3.dS Qo
    refine⟨child u n,frame u n::S,c,_,x4,rfl,bH (s3.trans s2) k3 (by exact WK),se,?_,hc.mono tu,AF,Nat.le_trans (rG u n) JQ,vJ.cons (Nat.le_trans (AJ u n) JQ),Nat.succ_le_succ IM⟩
    rw[List.reverse_cons]
    exact aJ (ho.mono tu) (qP (qP Ll (.of_same s2)) tu)
   cases PX with
   |name h=>exact⟨_,rfl,_,_,_,_,rfl,rfl,aS.of h,bW,rfl,_,rfl,dh pE (cf ⟨_,rfl,_,_,_,_,rfl,rfl,aS.of h,bW,rfl,_,rfl,dh pF (cf (stop rfl))⟩)⟩
   |place h=>exact⟨_,rfl,_,_,_,_,rfl,rfl,aS.of h,bW,rfl,_,rfl,dh pC (cf ⟨_,rfl,_,_,_,_,rfl,rfl,aS.of h,bW,rfl,_,rfl,dh pD (cf (stop rfl))⟩)⟩
   |@aa a1 v1 b1 h hb=>
    refine⟨_,rfl,_,_,_,_,rfl,rfl,aS.of h,bW,rfl,_,rfl,ia rfl ⟨_,rfl,rfl,_,rfl,?_⟩⟩
    by_cases h0:n=0
    ·subst h0
     refine ia rfl ?_
     refine⟨_,rfl,Or.inl ⟨rfl,_,bp.of pK⟩,_,rfl,az (by show 2<=1000000;decide),fun p H2 np s2 h2=>⟨_,_,_,rfl,rfl,s2 _ _ pK,small (by omega),fun H3 k3 se=>?_⟩⟩
     refine⟨_,rfl,_,_,_,_,rfl,rfl,aS.of (k3.dS (s2 _ _ pK) _ _ (s2 _ _ h)),gb,?_⟩
     exact fin rfl s2 (.aa h2) k3 se (hb.same s2) _
    ·refine dh (fun z=>h0 (V.int.inj z)) ⟨_,rfl,_,_,_,_,rfl,rfl,aS.of h,bW,rfl,_,rfl,dh vB (cf (stop ?_))⟩
     show decide (n=0)=false
     exact decide_eq_false h0
   |@call a1 v1 u1 t1 t2 h ur rq=>
    refine⟨_,rfl,_,_,_,_,rfl,rfl,aS.of h,bW,rfl,_,rfl,dh m7 (cf ⟨_,rfl,_,_,_,_,rfl,rfl,aS.of h,bW,rfl,_,rfl,ia rfl ⟨_,rfl,rfl,_,rfl,?_⟩⟩)⟩
    by_cases h0:n=0
    ·subst h0
     refine ia rfl (fu ?_)
     refine⟨_,rfl,Or.inl ⟨rfl,_,bp.of pK⟩,az (by show 2<=1000000;decide),fun pm H2 WI s2 JU=>⟨_,rfl,_,_,_,_,rfl,rfl,bp.of JU,bW,_,rfl,az (by show 2<=1000000;decide),fun p H3 np s4 h4=>⟨_,_,_,rfl,rfl,s4 _ _ (s2 _ _ pK),small (by omega),fun H4 k4 se=>?_⟩⟩⟩
     have h3:=(s2.trans s4) _ _ h
     refine⟨_,rfl,_,rfl,_,_,rfl,rfl,_,_,_,_,rfl,rfl,aS.of (k4.dS (s4 _ _ (s2 _ _ pK)) _ _ h3),gb,?_⟩
     exact fin rfl (s2.trans s4) (.one h4 h3 (rq.same (s2.trans s4))) k4 se (ur.same (s2.trans s4)) _
    ·refine dh (fun z=>h0 (V.int.inj z)) ⟨_,rfl,rfl,_,rfl,?_⟩
     by_cases h1:n=1
     ·subst h1
      refine ia rfl ?_
      refine⟨_,rfl,Or.inl ⟨rfl,_,bp.of pK⟩,az (by show 2<=1000000;decide),fun pm H2 WI s2 JU=>⟨_,rfl,_,_,_,_,rfl,rfl,bp.of JU,gb,_,rfl,az (by show 2<=1000000;decide),fun p H3 np s4 h4=>⟨_,_,_,rfl,rfl,s4 _ _ (s2 _ _ pK),small (by omega),fun H4 k4 se=>?_⟩⟩⟩
      have h3:=(s2.trans s4) _ _ h
      refine⟨_,rfl,_,rfl,_,_,rfl,rfl,_,_,_,_,rfl,rfl,aS.of (k4.dS (s4 _ _ (s2 _ _ pK)) _ _ h3),at2,?_⟩
      exact fin rfl (s2.trans s4) (.other h4 h3 (ur.same (s2.trans s4))) k4 se (rq.same (s2.trans s4)) _
     ·refine dh (fun z=>h1 (V.int.inj z)) (stop ?_)
      show(decide (n=0)||decide (n=1))=false
      rw[decide_eq_false h0,decide_eq_false h1]
      rfl
  ·rintro σ H' ⟨u,S,uv,xs,x4,rfl,s3,pK,Ll,PX,AF,JQ,vJ,IM⟩
   rw[List.length_map,List.drop_length] at AF
   have AF:some (u,S)=dR t ps []:=AF
   have stop:e7 (some (u,S))=none->Q .d0 H':=fun hl=>k2 (by unfold stepT;rw[<-AF];exact hl) H' s3
   cases PX with
   |name h=>exact⟨_,rfl,_,_,_,_,rfl,rfl,aS.of h,bW,rfl,_,rfl,rk pF (fu (stop rfl))⟩
   |place h=>exact⟨_,rfl,_,_,_,_,rfl,rfl,aS.of h,bW,rfl,_,rfl,rk pD (fu (stop rfl))⟩
   |aa h _=>exact⟨_,rfl,_,_,_,_,rfl,rfl,aS.of h,bW,rfl,_,rfl,rk vB (fu (stop rfl))⟩
   |@call a1 v1 u1 t1 t2 h ur rq=>
    obtain⟨a2,y2,r2,rfl,h2⟩:=ur.tup
    refine⟨_,rfl,_,_,_,_,rfl,rfl,aS.of h,bW,rfl,_,rfl,oV rfl ⟨_,rfl,_,_,_,_,rfl,rfl,aS.of h,gb,_,_,_,_,rfl,rfl,aS.of h2,bW,rfl,_,rfl,?_⟩⟩
    cases t1 with
    |name _=>exact rk pE (stop rfl)
    |place _=>exact rk pC (stop rfl)
    |call _ _=>exact rk m7 (stop rfl)
    |aa b=>
     refine oV rfl ?_
     cases ur with
     |aa h3 QY=>
     have XS:b.size+1+t2.size+1<=100000:=JQ
     refine⟨_,rfl,_,_,_,_,rfl,rfl,aS.of h,gb,_,_,_,_,rfl,rfl,aS.of h3,gb,_,rfl,_,_,_,_,rfl,rfl,aS.of h,at2,_,b,_,t2,rfl,QY,rq,by omega,by omega,fun mv H4 s4 hm=>?_⟩
     have se:=s4 _ _ pK
     have XN:Paired (rN H4) xs.reverse S:=by have:=gF (qP Ll (.of_same s4));rwa[List.reverse_reverse] at this
     refine⟨_,rfl,op,xs,rfl,bp.of se,yV (K:=K) (a:=op) (xs:=xs) (fun i σ H'=>∃mv m x6,σ=[some v,some (.ref pl),some (.ref op),some (.ref a1),x4,some mv,x6]/\aQ H4 H'/\au H' mv m/\bu (S.drop i) m=bu S (b.fill t2))
      ⟨mv,b.fill t2,_,rfl,.refl _,hm,rfl⟩ (fun i σ H' _ ⟨_,_,_,_,e,_⟩=>bp.of (e _ _ se)) ?_ ?_⟩
     ·rintro i x σ H5 hi ⟨WS,m5,x6,rfl,s5,LK,Az⟩
      obtain⟨fm,Ys,X6⟩:=cm XN hi
      rw[vU Ys] at Az
      have Qn:=X6.mono (.of_same s5)
      have fin:∀{p:Addr}{m:Tm}{H6:Hp},aQ H5 H6->au H6 (.ref p) m->m=cZ fm m5->∀x6,∃mv m VW,([some v,some (.ref pl),some (.ref op),some (.ref a1),x4,some (.ref p),x6]:L2.St)=[some v,some (.ref pl),some (.ref op),some (.ref a1),x4,some mv,VW]/\aQ H4 H6/\au H6 mv m/\bu (S.drop (i+1)) m=bu S (b.fill t2):=
       fun s6 h6 e x6=>⟨_,_,_,rfl,s5.trans s6,h6,by rw[e];exact Az⟩
      cases Qn with
      |aa h=>
       refine⟨_,rfl,_,_,_,_,rfl,rfl,aS.of h,bW,rfl,_,rfl,ia rfl ⟨_,rfl,az (by show 2<=1000000;decide),fun p H6 np s6 h6=>?_⟩⟩
       exact fin s6 (.aa h6 (LK.same s6)) rfl _
      |one h hq hu=>
       refine⟨_,rfl,_,_,_,_,rfl,rfl,aS.of h,bW,rfl,_,rfl,dh Pf ⟨_,rfl,_,_,_,_,rfl,rfl,aS.of h,bW,rfl,_,rfl,ia rfl ⟨_,rfl,_,rfl,_,_,_,_,rfl,rfl,aS.of h,gb,_,_,_,_,rfl,rfl,aS.of hq,at2,az (by show 3<=1000000;decide),fun p H6 np s6 h6=>?_⟩⟩⟩
       exact fin s6 (.call h6 (LK.same s6) (hu.same s6)) rfl _
      |other h hq hu=>
       refine⟨_,rfl,_,_,_,_,rfl,rfl,aS.of h,bW,rfl,_,rfl,dh Pd ⟨_,rfl,_,_,_,_,rfl,rfl,aS.of h,bW,rfl,_,rfl,dh Pc ⟨_,rfl,_,_,_,_,rfl,rfl,aS.of h,gb,_,_,_,_,rfl,rfl,aS.of hq,gb,_,rfl,az (by show 3<=1000000;decide),fun p H6 np s6 h6=>?_⟩⟩⟩
       exact fin s6 (.call h6 (hu.same s6) (LK.same s6)) rfl _
     ·rintro σ H5 ⟨WS,m5,x6,rfl,s5,LK,Az⟩
      have hl:xs.length=S.length:=by rw[Paired.length Ll,List.length_reverse]
      rw[hl,List.drop_length] at Az
      have Az:m5=bu S (b.fill t2):=Az
      refine⟨_,rfl,k1 _ ?_ _ H5 ((s3.trans s4).trans s5) LK⟩
      unfold stepT
      rw[<-AF,Az]
      rfl
end
section
variable {P:Program}{w:World}{K:W.Frag}{mg:Str->Option Value}{base:Heap}
seal L2.PE L2.PA L2.PT L2.PS L2.nZ L2.PW L2.PG L2.uW L2.PI L2.PO L2.gy L2.wc L2.cE L2.mw L2.rS L2.rR
abbrev cT:Stmt:=top 25
theorem ck:a8 ["_law_term","_law_found","_law_todo","_law_part","_law_path"] ["_law_term"] (aw cT):=⟨rfl,rfl,rfl,by decide+kernel,rfl,by decide+kernel,by decide+kernel⟩
inductive A9(H:Hp)(v:V)(t:Tm)(f d:Addr)(m:Nat)(σ:L2.St)(H':Hp):Prop where
 |mk(aN:_)(xs:_)(fs:_)(ps:_)(x3:_)(x4:_)(c1:σ=[some v,some (.ref f),some (.ref d),x3,x4])(c2:aQ H H')(c3:H' f=some (.lst fs))(c4:H' d=some (.lst xs))(c5:Paired (jR [f,d] H') xs aN)(c6:Paired (jd [f,d] H') fs ps)(c7:(ps++pend aN).Perm t.ao)(c8:m=eF aN)(c9:eF aN<=t.size)(Vd:∀q∈aN,q.2.length+q.1.size<=t.size)
def wu(H:Hp)(v:V)(t:Tm)(f d:Addr)(m:Nat)(σ:L2.St)(H':Hp):Prop:=A9 H v t f d m σ H'
inductive A6(vs:List V)(H:Hp)(Q:VK):Prop where
 |mk(v:_)(t:_)(c1:vs=[v])(c2:au H v t)(c3:t.size<=600000)(NV:t.ao.length<=63)(c4:∀l rs H',aQ H H'->H l=none->H' l=some (.lst rs)->Paired (lQ H') rs t.ao->Q (.ref l) H')
def qG:Sp:=fun vs H Q lK=>A6 vs H Q
theorem js{f:Addr}{fd:FuncData}(F:jS K "_law_calls_of_forms" "_law_calls_of_forms" cT f fd)(N_:cV mg):cg P w K mg base bK 2 f fd ["_law_term"] qG:=by
 refine F.ok ck (fun vs H Q E h=>?_) (fun fx A outer s H vs Q E hr h=>?_)
 ·obtain⟨v,t,rfl,_⟩:=h
  rfl
 ·obtain⟨v,t,rfl,ht,hsz,Ur,k⟩:=h
  have lP:=hr.qu
  have XT:=Nat.lt_of_le_of_lt (Nat.add_le_add_left (by decide:8<=64) _) hr.units
  refine⟨_,(ag (aE (i:=1) ck.nd rfl (Or.inl rfl) (et aj))
   (ag (aE (i:=2) ck.nd rfl (Or.inl rfl) (et (ak (cB (ak (pv 0) (ak (et aj) aj))) aj)))
   (ag (dY PassesOwn.never (ax (gG lP) (pv 2) (et aj) (aA _)) (ag (BL (iA (pv 2)) (oO rfl (dF (cU (i:=3) ck.nd rfl (Or.inl rfl)) (dF (cU (i:=4) ck.nd rfl (Or.inl rfl)) kP))))
   (ag (bj (ax bC (aD ay (pv 3) ah (fun _ _=>rfl)) aC (aA _)) (ai (a0 (eA (pv 2) (cB (ak (aD ay (pv 3) ah (fun _ _=>rfl)) (ak (bU B5 (pv 4) (et (ak ah aj))) aj)))))) aZ)
   (ai (bj (ax bC (aD ay (pv 3) ah (fun _ _=>rfl)) aC (aA _)) (ag (a0 (eA (pv 2) (cB (ak (aD ay (pv 3) ah (fun _ _=>rfl)) (ak (bU B5 (pv 4) (et (ak ah aj))) aj)))))
   (ag (a0 (eA (pv 2) (cB (ak (aD ay (pv 3) ah (fun _ _=>rfl)) (ak (bU B5 (pv 4) (et (ak ah aj))) aj)))))
   (ai (bj (ax bC (aD ay (aD ay (pv 3) ah (fun _ _=>rfl)) ah (fun _ _=>rfl)) aC (aA _)) (ai (a0 (eA (pv 1) (pv 4)))) aZ)))) aZ)))))
   (ai (aU (mh (xT XT) (by rfl) N_.sorted boot_sorted (ak (pv 1) aj))))))),?_⟩
  show(let cP:TS:=_;let dj:TS:=_;let eW:TS:=bS _ dj _;let fy:TS:=aL _ eW;let fW:TS:=aL _ fy;let iI:TS:=bS _ fW _;let kE:TS:=_;let kD:TS:=aL (bS _ kE _) iI;let lJ:TS:=aL _ kD;let eD:TS:=aL (gc _ lJ) cP;let fb:TS:=aL _ eD;aL _ fb _ _ _)
  intro cP dj eW fy fW iI kE kD lJ eD fb
  refine⟨az (by simp),fun f H1 nf s1 xF=>⟨_,rfl,az (by simp),fun pl H2 To s2 Qe=>⟨az (by simp),fun q H3 nq s3 IA=>⟨az (by simp),fun d H4 nd s4 E4=>?_⟩⟩⟩⟩
  have zK:aQ H H4:=((s1.trans s2).trans s3).trans s4
  have LW:H4 f=some (.lst []):=s4 _ _ (s3 _ _ (s2 _ _ xF))
  have vA:f≠d:=aY (s3 _ _ (s2 _ _ xF)) nd
  have LD:=s3 _ _ Qe
  have JN:H f=none:=nf
  have Bb:H d=none:=(s1.trans (s2.trans s3)).free nd
  have nL:∀x∈[f,d],H x=none:=fun x hx=>by
   rcases List.mem_cons.mp hx with e|hx
   ·rw[e];exact JN
   ·rw[List.mem_singleton.mp hx];exact Bb
  have Wt:pl≠f:=(aY xF To).symm
  have Wu:pl≠d:=aY LD nd
  refine⟨wu H v t f d,⟨eF [(t,[])],?_⟩,?_⟩
  ·refine⟨[(t,[])],[.ref q],[],[],none,none,rfl,zK,LW,E4,.cons ⟨q,v,.ref pl,rfl,s4 _ _ IA,ht.same zK,pl,rfl,by simp[Wt,Wu],s4 _ _ LD⟩ .nil,.nil,?_,rfl,?_,?_⟩
   ·show([]++(under [] t++[])).Perm _
    rw[List.append_nil,List.nil_append,sr]
   ·show t.size+0<=t.size
    omega
   ·intro q hq
    rw[List.mem_singleton.mp hq]
    show 0+t.size<=t.size
    omega
  ·rintro m σ H5 ⟨aN,xs,fs,ps,x3,x4,rfl,s5,DI,qg,hit,wC,heq,rfl,fO,uw⟩
   refine⟨_,rfl,az (by simp),fun e0 Dy Tr vi LY=>⟨_,_,_,rfl,rfl,bp.of (vi _ _ qg),bp.of LY,_,rfl,?_⟩⟩
   have xE:=vi _ _ DI
   have pL:=vi _ _ qg
   have K5:bh [f,d] H5 Dy:=bh.of_same vi
   have US:=fM DI qg
   have hit:=aq (fun a b h=>jR.keep h K5 US) hit
   have wC:=aq (fun a b h=>jd.keep h K5) wC
   have s5:=s5.trans vi
   clear DI qg US K5
   by_cases lE:aN=[]
   ·subst lE
    cases cC hit
    have e:ps.Perm t.ao:=by
     have:=heq
     unfold pend at this
     simpa using this
    have hlen:fs.length < 64:=by
     rw[Paired.length wC,e.length_eq]
     omega
    refine cf ⟨_,rfl,_,_,_,rfl,bp.of xE,hlen,aq (fun a b h=>h.path) wC,fun my BN l H' pm OC pr nl sm hl=>?_⟩
    have e2:t.ao=BN:=km ((pm.trans e).symm) (gn t) OC
    subst e2
    exact k l my H' (s5.trans sm) (s5.free nl) hl (aq (fun a b h=>h.same sm) pr)
   ·obtain⟨its',⟨t1,p1⟩,rfl⟩:=fS lE
    obtain⟨iJ,x,rfl,uk,a,tv,pv,rfl,ha,pI,LC⟩:=bo hit
    have pI:au Dy tv t1:=pI
    have LC:jd [f,d] Dy pv p1:=LC
    have lF:(!(iJ++[V.ref a]).isEmpty)=true:=by simp
    rw[show(if true=true then !(iJ++[V.ref a]).isEmpty else (iJ++[V.ref a]).isEmpty)=true by simp]
    refine fu ⟨fun σ' H'=>∃m',m' < eF (its'++[(t1,p1)])/\wu H v t f d m' σ' H',fun _ _ h=>h,?_⟩
    refine⟨_,rfl,Or.inl ⟨rfl,_,bp.of pL⟩,d,iJ,.ref a,rfl,rfl,pL,fun H6 k6 jW=>?_⟩
    have hL:=fM xE pL
    have K6:bh [f,d] Dy H6:=k6.sub (by simp)
    have tG:=K6.cM hL
    have Gy:=tG _ _ ha
    have Cu:=pI.mono tG
    obtain⟨l,rfl,nl,NI⟩:=LC.keep K6
    have wF:H6 f=some (.lst fs):=k6.at xE vA
    have s6:aQ H H6:=bN s5 K6 nL
    have qd:=aq (fun a b h=>jR.keep h K6 hL) uk
    have BM:=aq (fun a b h=>jd.keep h K6) wC
    have Bg:=fM wF jW
    rw[gv] at heq
    rw[fH] at fO
    rw[fH]
    have yS:∀q∈its',q.2.length+q.1.size<=t.size:=fun q hq=>uw q (List.mem_append_left _ hq)
    have NF:p1.length+t1.size<=t.size:=uw (t1,p1) (by simp)
    have NB:eF its'+t1.size<=t.size:=fO
    have Bc:iJ.length<=t.size:=by
     rw[Paired.length qd]
     have:=sJ its'
     omega
    have Qf:ps.length<=t.size:=by
     have h1:=heq.length_eq
     have h2:=iN t
     rw[List.length_append] at h1
     omega
    have UI:fs.length<=t.size:=by rw[Paired.length BM];exact Qf
    refine⟨a,_,rfl,aS.of Gy,rfl,_,_,rfl,_,_,rfl,rfl,?_⟩
    have heq:(ps++(under p1 t1++pend its')).Perm t.ao:=heq
    cases Cu with
    |name h=>
     refine⟨_,rfl,_,_,_,_,rfl,rfl,aS.of h,bW,rfl,_,rfl,dh pE ⟨_,rfl,_,_,_,_,rfl,rfl,aS.of h,bW,rfl,_,rfl,dh pF ?_⟩⟩
     exact⟨_,by show eF its' < eF its'+1;omega,its',iJ,fs,ps,_,_,rfl,s6,wF,jW,qd,BM,heq,rfl,by omega,yS⟩
    |place h=>
     refine⟨_,rfl,_,_,_,_,rfl,rfl,aS.of h,bW,rfl,_,rfl,dh pC ⟨_,rfl,_,_,_,_,rfl,rfl,aS.of h,bW,rfl,_,rfl,dh pD ?_⟩⟩
     exact⟨_,by show eF its' < eF its'+1;omega,its',iJ,fs,ps,_,_,rfl,s6,wF,jW,qd,BM,heq,rfl,by omega,yS⟩
    |@aa a1 bv b h hb=>
     refine⟨_,rfl,_,_,_,_,rfl,rfl,aS.of h,bW,rfl,_,rfl,ia rfl ?_⟩
     have QV:T.size (.aa b:Tm)=b.size+1:=rfl
     refine tX rfl rfl rfl h gb NI jW (by omega) (by omega) fun b8 b9 gz iX gY n9 n8 h9 h8=>?_
     have wo:bh [f,d] H6 gz:=iX.sub (by simp)
     have Pn:b8∉[f,d]:=by simp[(aY wF n8).symm,(aY jW n8).symm]
     have AI:=wo.cM Bg _ _ h
     refine⟨_,rfl,_,_,_,_,rfl,rfl,aS.of AI,bW,rfl,_,rfl,dh vB ?_⟩
     refine⟨_,?_,its'++[(b,p1++[0])],_,fs,ps,_,_,rfl,bN s6 wo nL,iX.at wF vA,gY,aJ ⟨b9,_,_,rfl,h9,hb.mono (wo.cM Bg),b8,rfl,Pn,h8⟩ (aq (fun a b h=>jR.keep h wo Bg) qd),aq (fun a b h=>jd.keep h wo) BM,?_,rfl,?_,?_⟩
     ·rw[fH];show eF its'+b.size < eF its'+(b.size+1);omega
     ·rw[gv,<-qv];exact heq
     ·rw[fH];show eF its'+b.size<=t.size;omega
     ·intro q hq
      rcases List.mem_append.mp hq with hq|hq
      ·exact yS q hq
      ·rw[List.mem_singleton.mp hq]
       show(p1++[0]).length+b.size<=t.size
       rw[List.length_append,List.length_singleton]
       omega
    |@call a1 xv yv x y h hx hy=>
     have JW:T.size (.call x y:Tm)=x.size+y.size+1:=rfl
     refine⟨_,rfl,_,_,_,_,rfl,rfl,aS.of h,bW,rfl,_,rfl,dh m7 ⟨_,rfl,_,_,_,_,rfl,rfl,aS.of h,bW,rfl,_,rfl,ia rfl ?_⟩⟩
     refine tX rfl rfl rfl h gb NI jW (by omega) (by omega) fun b8 b9 H7 k7 rp n9 n8 h9 h8=>?_
     have K7:bh [f,d] H6 H7:=k7.sub (by simp)
     have Pn:b8∉[f,d]:=by simp[(aY wF n8).symm,(aY jW n8).symm]
     have h7:=K7.cM Bg _ _ h
     have xD:=k7.at wF vA
     have GA:=fM xD rp
     refine tX rfl rfl rfl h7 at2 (K7 _ _ nl NI) rp (by rw[List.length_append,List.length_singleton];omega) (by omega) fun c8 c9 H8 k8 DK m9 m8 g9 g8=>?_
     have K8:bh [f,d] H7 H8:=k8.sub (by simp)
     have WT:c8∉[f,d]:=by simp[(aY xD m8).symm,(aY rp m8).symm]
     have YV:=K8.cM GA _ _ h7
     have NO:=k8.at xD vA
     have J4:=K7.trans K8
     obtain⟨a',z,r,ev,Av⟩:=(hx.mono (J4.cM Bg)).tup
     have Ue:=aJ (F:=jR [f,d] H8) (x:=V.ref c9) (y:=(y,p1++[1])) ⟨c9,_,_,rfl,g9,hy.mono (J4.cM Bg),c8,rfl,WT,g8⟩
      (aq (fun a b h=>jR.keep h K8 GA) (aJ (F:=jR [f,d] H7) (x:=V.ref b9) (y:=(x,p1++[0])) ⟨b9,_,_,rfl,h9,hx.mono (K7.cM Bg),b8,rfl,Pn,h8⟩ (aq (fun a b h=>jR.keep h K7 Bg) qd)))
     have Te:=aq (fun a b h=>jd.keep h J4) BM
     have eB:eF ((its'++[(x,p1++[0])])++[(y,p1++[1])]) < eF its'+(x.size+y.size+1):=by
      rw[fH,fH]
      show eF its'+x.size+y.size < _
      omega
     have hle:eF ((its'++[(x,p1++[0])])++[(y,p1++[1])])<=t.size:=by omega
     have UN:∀q∈(its'++[(x,p1++[0])])++[(y,p1++[1])],q.2.length+q.1.size<=t.size:=by
      intro q hq
      rcases List.mem_append.mp hq with hq|hq
      ·rcases List.mem_append.mp hq with hq|hq
       ·exact yS q hq
       ·rw[List.mem_singleton.mp hq]
        show(p1++[0]).length+x.size<=t.size
        rw[List.length_append,List.length_singleton]
        omega
      ·rw[List.mem_singleton.mp hq]
       show(p1++[1]).length+y.size<=t.size
       rw[List.length_append,List.length_singleton]
       omega
     subst ev
     refine⟨_,rfl,_,_,_,_,rfl,rfl,aS.of YV,gb,_,_,_,_,rfl,rfl,aS.of Av,bW,rfl,_,rfl,?_⟩
     rw[qy]
     refine Ij (fun e=>?_) (fun e=>?_)
     ·refine⟨_,rfl,Or.inl ⟨rfl,_,bp.of NO⟩,_,rfl,_,_,_,rfl,rfl,NO,small (by omega),fun H9 k9 Yu=>?_⟩
      have K9:bh [f,d] H8 H9:=k9.sub (by simp)
      have YJ:=fM NO DK
      refine⟨_,eB,_,_,_,_,_,_,rfl,bN s6 (J4.trans K9) nL,Yu,k9.at DK vA.symm,aq (fun a b h=>jR.keep h K9 YJ) Ue,
       aJ (x:=V.ref l) (y:=p1) ⟨l,rfl,nl,K9 _ _ nl (J4 _ _ nl NI)⟩ (aq (fun a b h=>jd.keep h K9) Te),?_,rfl,hle,UN⟩
      rw[gv,gv]
      refine List.Perm.trans ?_ heq
      rw[lW,if_pos e,List.append_assoc,List.append_assoc]
      refine List.Perm.append_left _ (List.Perm.append_left _ ?_)
      rw[List.append_assoc,<-List.append_assoc,<-List.append_assoc]
      exact List.Perm.append_right _ List.perm_append_comm
     ·refine⟨_,eB,_,_,_,_,_,_,rfl,bN s6 J4 nL,NO,DK,Ue,Te,?_,rfl,hle,UN⟩
      rw[gv,gv]
      refine List.Perm.trans ?_ heq
      rw[lW,if_neg (by rw[e];exact Bool.false_ne_true),List.nil_append]
      refine List.Perm.append_left _ ?_
      rw[List.append_assoc,<-List.append_assoc,<-List.append_assoc]
      exact List.Perm.append_right _ List.perm_append_comm
abbrev fk:Stmt:=top 30
theorem dE:a8 ["_law_many","_law_term","_law_k","_law_twice"] ["_law_many"] (aw fk):=⟨rfl,rfl,rfl,by decide+kernel,rfl,by decide+kernel,by decide+kernel⟩
inductive Fq(vs:List V)(H:Hp)(Q:VK):Prop where
 |mk(n:Nat)(c1:vs=[.int (n:Int)])(c2:n<=100)(c3:∀v H',aQ H H'->au H' v (dbl n)->Q v H')
def wZ:Sp:=fun vs H Q _=>Fq vs H Q
theorem HA{f:Addr}{fd:FuncData}(F:jS K "_law_doubled" "_law_doubled" fk f fd)(N_:cV mg):cg P w K mg base bK 1 f fd ["_law_many"] wZ:=by
 refine F.ok dE (fun vs H Q E h=>?_) (fun fx A outer s H vs Q E hr h=>?_)
 ·obtain⟨n,rfl,_⟩:=h
  rfl
 ·obtain⟨n,rfl,hn,k⟩:=h
  refine⟨_,(ag (aE (i:=1) dE.nd rfl (Or.inl rfl) (cB (ak aC (ak (cB (ak aC (ak ah aj))) aj))))
   (ag (iu PassesOwn.never rfl (oN rfl N_.range (ak (pv 0) aj)) (cU (i:=2) dE.nd rfl (Or.inl rfl)) (ag (aE (i:=3) dE.nd rfl (Or.inl rfl) (cB (ak aC (ak (cB (ak aC (ak (cB (ak aC (ak ah aj))) (ak (cB (ak aC (ak ah aj))) aj)))) aj))))
   (ai (aE (i:=1) dE.nd rfl (Or.inl rfl) (cB (ak aC (ak (pv 3) (ak (pv 1) aj))))))))
   (ai (aU (pv 1))))),?_⟩
  show(let cP:TS:=_;let dj:TS:=_;let eW:TS:=aL _ dj;let fy:TS:=aL (qz _ _ eW) cP;aL _ fy _ _ _)
  intro cP dj eW fy
  refine⟨az (by show 2<=1000000;decide),fun q1 H1 n1 s1 h1=>⟨az (by show 2<=1000000;decide),fun q2 H2 n2 s2 h2=>⟨_,rfl,_,rfl,by omega,by omega,?_⟩⟩⟩
  rw[show((n:Nat):Int).toNat=n by omega]
  refine oX (fun i σ H'=>∃v x2 x3,σ=[some (.int (n:Int)),some v,x2,x3]/\aQ H H'/\au H' v (dbl i)) ⟨.ref q2,none,none,rfl,s1.trans s2,.aa h2 (.place (s2 _ _ h1))⟩ ?_ ?_
  ·rintro i σ H3 hi ⟨v,x2,x3,rfl,s3,hv⟩
   refine⟨az (by show 2<=1000000;decide),fun p1 H4 m1 s4 g1=>⟨az (by show 2<=1000000;decide),fun p2 H5 m2 s5 g2=>⟨az (by show 3<=1000000;decide),fun p3 H6 m3 s6 g3=>⟨az (by show 2<=1000000;decide),fun p4 H7 m4 s7 g4=>?_⟩⟩⟩⟩
   refine⟨_,rfl,_,rfl,az (by show 3<=1000000;decide),fun p5 H8 m5 s8 g5=>?_⟩
   have Ta:=s7.trans s8
   have Nr:=s6.trans Ta
   refine⟨_,_,_,rfl,s3.trans (s4.trans (s5.trans Nr)),.call g5 (.aa (s8 _ _ g4) (.call (Ta _ _ g3) (.place (Nr _ _ (s5 _ _ g1))) (.place (Nr _ _ g2)))) (hv.same (s4.trans (s5.trans Nr)))⟩
  ·rintro σ H3 ⟨v,x2,x3,rfl,s3,hv⟩
   exact⟨_,rfl,k v H3 s3 hv⟩
end
inductive Fn(TL:cS)(K:W.Frag)(vs:List V)(H:Hp)(Q:VK):Prop where
 |mk(a:_)(ns:List Int)(c1:vs=[.ref a])(c2:bp K H a (ns.map V.int))(c3:ns.length<=63)(c4:TO TL H)(c5:∀H',Q (.bl true) H')
def wX(TL:cS)(K:W.Frag):Sp:=fun vs H Q lK=>Fn TL K vs H Q
theorem G7:Sx 6 (dbl 3:Tm):=zj 6 _ (by decide+kernel)
theorem Eb:∀i (x:Tm),i<=20->b0 i (dbl 3:Tm)=some x->xa x:=sR 20 _ (by decide+kernel)
def Jv(t:Tm)(mo:Nat):Prop:=∀k (x:Tm),k<=20->b0 k t=some x->(∀j (y:Tm),j < k->b0 j t=some y->y.size < mo)->xa x
theorem Ea{t:Tm}(h:kp t<=10):Jv t 20:=fun k x hk hx hs=>by
 cases k with
 |zero=>
  cases hx
  have h1:=gM t 0 false
  rw[if_neg (by decide)] at h1
  have h1:t.size+0+2<=3*kp t:=h1
  have h2:=fe t
  have h3:=Gd t
  have h4:=T.fw t
  exact⟨by omega,by omega,by omega⟩
 |succ k=>
  rw[iS] at hx
  cases hy:b0 k t with
  |none=>rw[hy] at hx;cases hx
  |some y=>
   rw[hy] at hx
   exact BE (Nat.le_refl 20) (hs k y (Nat.lt_succ_self k) hy) hx
theorem BF:Jv (dbl 3) 60:=fun k x hk hx _=>Eb k x hk hx
structure MP(t:Tm)(mo:Nat)(k:Nat)(xs:List V)(ts:List Tm)(H:Hp):Prop where
 p:Paired (au H) xs ts
 len:ts.length=k+1
 run:∀j,j<=k->b0 j t=ts[j]?
 small:∀j (y:Tm),j < k->b0 j t=some y->y.size < mo
inductive JA(H:Hp)(a:Addr)(v:V)(t:Tm)(mo:Nat)(D9:Addr)(H0:Hp)(i:Nat)(σ:L2.St)(H':Hp):Prop where
 |mk(k:Nat)(xs:List V)(ts:List Tm)(vh:V)(th:Tm)(x5 x6:Option V)(c1:σ=[some (.ref a),some v,some (.int (mo:Int)),some vh,some (.ref D9),x5,x6,none,none,none,none,none,none,none])(c2:aQ H0 H')(c3:H' D9=some (.lst xs))(c4:MP t mo k xs ts H')(c5:au H' vh th)(c6:b0 k t=some th)(c7:k<=i)
inductive M7(t:Tm)(Hb:Hp)(pre post:List (Option V))(i:Nat)(σ:L2.St)(H':Hp):Prop where
 |mk(m:Int)(vt:V)(n5 n6:Option V)(ps:List (List Int))(r:Nat)(c1:σ=pre++n5::n6::(post++[some (.int m),some vt]))(c2:aQ Hb H')(c3:au H' vt (eU t (oF ps)))(c4:gA t (oF ps))(c5:6<=r+i)(c6:Sx r (eU t (oF ps)))
theorem OD{K:W.Frag}{H H':Hp}{a:Addr}{xs:List V}(h:bp K H a xs)(s:cI H H'):bp K H' a xs:=by
 rcases h with(h|⟨o,h⟩)|h
 ·exact .inl (.inl (s _ _ (fun _ z=>by cases z) h))
 ·exact .inl (.inr ⟨o,s _ _ (fun _ z=>by cases z) h⟩)
 ·exact .inr h
theorem sy(ps:List (List Int))(p:List Int):oF (ps++[p])=oF ps++[[p]]:=List.map_append
theorem G6{r:Nat}{t:Tm}(h:Sx r t):t.ao.length<=63/\t.size<=600000:=by
 cases r with
 |zero=>exact h
 |succ r=>
  obtain⟨⟨h1,h2,_⟩,_⟩:=h
  exact⟨h1,by omega⟩
theorem Cd{H:Hp}{rs:List V}{t:Tm}(h:Paired (lQ H) rs t.ao):rs.isEmpty=t.ao.isEmpty:=by
 cases gx:t.ao with
 |nil=>rw[gx] at h;cases h;rfl
 |cons _ _=>rw[gx] at h;cases h;rfl
section
variable {P:Program}{w:World}{K:W.Frag}{mg:Str->Option Value}{base:Heap}
seal L2.PE L2.PA L2.PT L2.PS L2.nZ L2.PW L2.PG L2.uW L2.PI L2.PO L2.gy L2.wc L2.cE L2.mw L2.rS L2.rR
abbrev mS:Stmt:=top 31
theorem cW:a8 ["_law_script","_law_term","_law_most","_law_here","_law_row","_law_turn","_law_every","_law_fuel","_law_many","_law_due","_law_word","_law_found","_law_left","_law_there"] ["_law_script"] (aw mS):=⟨rfl,rfl,rfl,by decide+kernel,rfl,by decide+kernel,by decide+kernel⟩
theorem Hy{f:Addr}{fd:FuncData}{TL:cS}(F:jS K "law" "law" mS f fd)(N_:cV mg)(jH:GF P w K mg base bK 2 "_law_grown" ["_law_cells"] (qF K))(fZ:GF P w K mg base bK 1 "_law_room" ["_law_script","_law_most","_law_bound"] (tM K))(fP:GF P w K mg base bK 1 "_law_at" ["_law_script","_law_k"] (wY K))(fQ:GF P w K mg base bK 1 "_law_any" ["_law_cell"] tQ)(eh:GF P w K mg base bK 1 "_law_whole" ["_law_found"] mK)
  (gU:GF P w K mg base bK 1 "_law_doubled" ["_law_many"] wZ)(bI:GF P w K mg base bK 2 "_law_calls_of_forms" ["_law_term"] qG)(cO:GF P w K mg base bK 1 "_law_parts" ["_law_term"] iQ)(fz:GF P w K mg base bK 4 "_law_stepped" ["_law_term","_law_path"] lX)(DB:GF P w K mg base bK 12 "led" ["term","fuel"] (tN TL))(gT:GF P w K mg base bK 2 "_law_is_term" ["_law_found"] kg):cg P w K mg base bK 13 f fd ["_law_script"] (wX TL K):=by
 refine F.ok cW (fun vs H Q E h=>?_) (fun fx A outer s H vs Q E hr h=>?_)
 ·obtain⟨a,ns,rfl,_⟩:=h
  rfl
 ·obtain⟨a,ns,rfl,hS,hl,Om,k⟩:=h
  have Um:A.units+3+16*12+200 < cLine:=hr.un
  have lP:=hr.qu
  refine⟨_,(ag (aE (i:=1) cW.nd rfl (Or.inl rfl) (cA jH (hr.mono (by decide)) rfl bt (ak (qM Kq (pv 0) (pX ah) (pX (bU gI ah (cA fZ (hr.mono (by decide)) rfl bt (ak (pv 0) (ak ah (ak ah aj))))))) aj)))
   (ag (aE (i:=2) cW.nd rfl (Or.inl rfl) (cA fZ (hr.mono (by decide)) rfl bt (ak (pv 0) (ak ah (ak ah aj)))))
   (ag (bj (ax bC (bU gH (cA fP (hr.mono (by decide)) rfl bt (ak (pv 0) (ak ah aj))) ah) ah (aA _)) (ag (aE (i:=1) cW.nd rfl (Or.inl rfl) (cA gU (hr.mono (by decide)) rfl bt (ak ah aj)))
   (ai (aE (i:=2) cW.nd rfl (Or.inl rfl) ah))) aZ)
   (ag (aE (i:=3) cW.nd rfl (Or.inl rfl) (pv 1))
   (ag (aE (i:=4) cW.nd rfl (Or.inl rfl) (et (ak (pv 1) aj)))
   (ag (iu PassesOwn.never rfl (oN rfl N_.range (ak (cA fZ (hr.mono (by decide)) rfl bt (ak (pv 0) (ak ah (ak ah aj)))) aj)) (cU (i:=5) cW.nd rfl (Or.inl rfl)) (ag (aE (i:=6) cW.nd rfl (Or.inl rfl) (cA bI (hr.mono (by decide)) rfl bt (ak (pv 3) aj)))
   (ai (bj (PW.pt (ei (ax (gG lP) (pv 6) (et aj) (aA _)) (dt (ax yw (mh bf (by rfl) N_.len boot_len (ak (cA cO (hr.mono (by decide)) rfl bt (ak (pv 3) aj)) aj)) (pv 2) (aA _))))) (ag (aE (i:=3) cW.nd rfl (Or.inl rfl) (cA fz (hr.mono (by decide)) rfl bt (ak (pv 3) (ak (aD ee (pv 6) ah (fun _ _=>rfl)) aj))))
   (ai (a0 (eA (pv 4) (pv 3))))) aZ))))
   (ag (aE (i:=7) cW.nd rfl (Or.inl rfl) (bU gH (bU kQ (cA fP (hr.mono (by decide)) rfl bt (ak (pv 0) (ak ah aj))) ah) (mh bf (by rfl) N_.len boot_len (ak (pv 4) aj))))
   (ag (bj (PW.pt (ei (ax (qQ lP) (cA bI (hr.mono (by decide)) rfl bt (ak (pv 3) aj)) (et aj) (aA _)) (dt (ax mY (bU gH (cA fP (hr.mono (by decide)) rfl bt (ak (pv 0) (ak ah aj))) ah) ah (aA _))))) (ai (aE (i:=7) cW.nd rfl (Or.inl rfl) (bU gI (bU mi (mh bf (by rfl) N_.len boot_len (ak (pv 4) aj)) ah) (mh rH (by rfl) N_.abs boot_abs (ak (cA fQ (hr.mono (by decide)) rfl bt (ak (cA fP (hr.mono (by decide)) rfl bt (ak (pv 0) (ak ah aj))) aj)) aj))))) aZ)
   (ag (aE (i:=8) cW.nd rfl (Or.inl rfl) (mh (AO rfl) (by rfl) N_.min boot_min (ak (pv 7) (ak (bU mi (mh bf (by rfl) N_.len boot_len (ak (pv 4) aj)) ah) aj))))
   (ag (aE (i:=9) cW.nd rfl (Or.inl rfl) (aD ee (pv 4) (pv 8) (fun _ _=>rfl)))
   (ag (aE (i:=10) cW.nd rfl (Or.inl rfl) (aD ee (et (ak aC (ak aC aj))) (O1 sT (by rfl) N_.int boot_int (ak (dP (gG lP) (cA bI (hr.mono (by decide)) rfl bt (ak (pv 9) aj)) (et aj) (aA _)) aj)) (fun _ _=>rfl)))
   (ag (aE (i:=11) cW.nd rfl (Or.inl rfl) (cA DB (hr.mono (by decide)) rfl bt (ak (pv 1) (ak (pv 7) aj))))
   (ag (bj (PW.pt (hU (fK (dH (mh gR (by rfl) N_.isinstance boot_isinstance (ak (pv 11) (ak (jr (v:=V.ty "tuple") rfl N_.tuple boot_tuple rfl) aj))))) (hU (fK (dH (mh gR (by rfl) N_.isinstance boot_isinstance (ak (aD ay (pv 11) ah (fun _ _=>rfl)) (ak (jr (v:=V.ty "str") rfl N_.str boot_str rfl) aj))))) (ir (ax lL (aD ay (pv 11) ah (fun _ _=>rfl)) (pv 10) (aA _)))))) (ai (aU e4)) aZ)
   (ag (bj (PW.pt (hU (ax yw (mh bf (by rfl) N_.len boot_len (ak (pv 11) aj)) ah (aA _)) (hU (fK (dH (cA gT (hr.mono (by decide)) rfl bt (ak (aD ay (pv 11) ah (fun _ _=>rfl)) aj)))) (ir (ax Ht (aD ay (pv 11) ah (fun _ _=>rfl)) (pv 9) (aA _)))))) (ai (aU e4)) aZ)
   (ag (bj (ax lL (mh bf (by rfl) N_.len boot_len (ak (pv 11) aj)) (bU gI ah (O1 sT (by rfl) N_.int boot_int (ak (dP bC (pv 10) aC (aA _)) aj))) (aA _)) (ai (aU e4)) aZ)
   (ag (bj (PW.pt (ei (ax bC (pv 10) aC (aA _)) (dt (PW.pt (hU (fK (dH (cA eh (hr.mono (by decide)) rfl bt (ak (aD ay (pv 11) ah (fun _ _=>rfl)) aj)))) (ir (ax lL (aD ay (pv 11) ah (fun _ _=>rfl)) (pv 8) (aA _)))))))) (ai (aU e4)) aZ)
   (ag (aE (i:=12) cW.nd rfl (Or.inl rfl) (cA fP (hr.mono (by decide)) rfl bt (ak (pv 0) (ak ah aj))))
   (ag (aE (i:=13) cW.nd rfl (Or.inl rfl) (pv 1))
   (ag (iu PassesOwn.never rfl (oN rfl N_.range (ak ah aj)) (cU (i:=5) cW.nd rfl (Or.inl rfl)) (ag (aE (i:=6) cW.nd rfl (Or.inl rfl) (cA bI (hr.mono (by decide)) rfl bt (ak (pv 13) aj)))
   (ai (bj (ax (gG lP) (pv 6) (et aj) (aA _)) (ag (aE (i:=13) cW.nd rfl (Or.inl rfl) (cA fz (hr.mono (by decide)) rfl bt (ak (pv 13) (ak (aD ee (pv 6) (bU gH (pv 12) (mh bf (by rfl) N_.len boot_len (ak (pv 6) aj))) (fun _ _=>rfl)) aj))))
   (ai (aE (i:=12) cW.nd rfl (Or.inl rfl) (bU gI (bU kQ (pv 12) ah) (pv 5))))) aZ))))
   (ag (bj (PW.pt (ei (ax bC (pv 10) aC (aA _)) (dt (ax (qQ lP) (cA bI (hr.mono (by decide)) rfl bt (ak (pv 13) aj)) (et aj) (aA _))))) (ai (aU (dP xj (pv 13) (aD ay (pv 11) ah (fun _ _=>rfl)) (aA _)))) aZ)
   (ai (aU e4)))))))))))))))))))))),?_⟩
  show(let cP:TS:=_;let dj:TS:=_;let eW:TS:=aL (bS _ dj _) cP;let fy:TS:=_;let fW:TS:=aL _ fy;let iI:TS:=bS _ fW _;let kE:TS:=aL _ iI;let kD:TS:=aL (qz _ _ kE) eW;let lJ:TS:=aL _ kD;let eD:TS:=aL _ lJ;let fb:TS:=_;let kG:TS:=aL (bS _ fb _) eD;let kF:TS:=_;let nY:TS:=aL (bS _ kF _) kG;let nX:TS:=_;let wb:TS:=aL (bS _ nX _) nY;let wa:TS:=_;let uH:TS:=aL (bS _ wa _) wb;let v9:TS:=aL _ uH;let Dc:TS:=aL _ v9;let C9:TS:=aL _ Dc;let AU:TS:=aL _ C9;let ME:TS:=_;let Jg:TS:=aL (bS _ ME _) AU;let MD:TS:=aL _ Jg;let MC:TS:=_;let MB:TS:=aL _ MC;let MA:TS:=bS _ MB _;let Mz:TS:=aL _ MA;let My:TS:=aL (qz _ _ Mz) MD;let Mx:TS:=aL _ My;let Jf:TS:=aL _ Mx;let Mw:TS:=_;let Mv:TS:=aL _ Mw;let Je:TS:=aL (bS _ Mv _) Jf;let Mu:TS:=aL _ Je;aL _ Mu _ _ _)
  intro cP dj eW fy fW iI kE kD lJ eD fb kG kF nY nX wb wa uH v9 Dc C9 AU ME Jg MD MC MB MA Mz My Mx Jf Mw Mv Je Mu
  refine⟨_,rfl,_,rfl,_,rfl,a,ns,_,_,rfl,hS,hl,_,_,rfl,rfl,_,rfl,a,_,rfl,hS,fun p1 H1 np1 s1 h1=>?_⟩
  obtain⟨ms,h1,hms⟩:=Fb 2 12 h1
  refine⟨p1,ms,rfl,bp.of h1,by omega,fun v0 t0 H2 s2 XR NJ=>?_⟩
  have NJ:kp t0<=10:=Nat.le_trans NJ (Nat.max_le.mpr ⟨by decide,by omega⟩)
  have Nt:=s1.trans s2
  refine⟨_,rfl,a,ns,_,_,rfl,fc hS Nt,hl,?_⟩
  show Je _ _ _
  refine kK (u:=Jf) fun D1 IS Qd=>?_
  have sF:∀(v:V) (t:Tm) (mo:Nat) (H3:Hp),aQ H H3->au H3 v t->Sx 6 t->Jv t mo->mo<=60->D1.nx [some (.ref a),some v,some (.int (mo:Int)),none,none,none,none,none,none,none,none,none,none,none] H3:=by
   intro v t mo H3 s3 hv XX Ay hmo
   refine IS _ _ ?_
   refine⟨_,rfl,_,rfl,az (by show 1<=1000000;decide),fun D9 H4 WH s4 XZ=>?_⟩
   refine⟨_,rfl,a,ns,_,_,rfl,fc (fc hS s3) s4,hl,_,rfl,by decide,by decide,?_⟩
   have zK:=s3.trans s4
   refine oX (lo:=0) (n:=20) (JA H4 a v t mo D9 H3) ⟨0,[v],[t],v,t,none,none,rfl,s4,XZ,⟨.cons (hv.same s4) .nil,rfl,fun j hj=>by rw[show j=0 by omega];rfl,fun j y hj=>absurd hj (Nat.not_lt_zero _)⟩,hv.same s4,rfl,Nat.le_refl _⟩ ?_ ?_
   ·rintro i σ H5 hi ⟨k',xs,ts,vh,th,x5,x6,rfl,s5,xA,hR,Il,cq,UD⟩
    have hP:xa th:=Ay k' th (by omega) cq hR.small
    obtain⟨hP1,hP2,YI⟩:=hP
    refine⟨_,rfl,vh,th,rfl,Il,by omega,YI,fun ev sg H6 s6 Nw CD wD=>?_⟩
    refine⟨_,rfl,az (by show 0<=1000000;decide),fun e0 H7 n7 s7 h7=>⟨_,_,_,rfl,rfl,bp.of (s7 _ _ CD),bp.of h7,_,rfl,Ij (fun hE=>?_) (fun hE=>cf ?_)⟩⟩
    ·have yo:=s6.trans s7
     refine⟨_,rfl,vh,th,rfl,Il.same yo,by omega,fun pl Tf H8 s8 To mm X4=>⟨_,_,rfl,Or.inl (bp.of mm),_,rfl,_,_,rfl,rfl,_,rfl,uj (fun eB=>?_) (fun eB=>?_)⟩⟩
     ·have He:=yo.trans s8
      have hlen:Tf.length=th.size:=by rw[Paired.length X4,List.length_reverse,cD]
      have eB:th.size < mo:=by
       have eB:(Tf.length:Int) < (mo:Int):=eB
       omega
      cases sg with
      |nil=>simp at hE
      |cons u us=>
       cases gx:th.ao with
       |nil=>rw[gx] at wD;cases wD
       |cons p ps=>
        rw[gx] at wD
        cases wD with
        |cons hu _=>
        obtain⟨pb,rfl,Qg⟩:=hu
        have xC:p∈th.ao:=by rw[gx];exact List.mem_cons_self
        have X5:=iP th p xC
        obtain⟨r,er⟩:=ow xC
        have QM:=s8 _ _ (s7 _ _ CD)
        refine⟨_,rfl,_,rfl,_,_,_,_,rfl,rfl,bp.of QM,bW,vh,th,pb,p,rfl,Il.same He,by omega,s8 _ _ (s7 _ _ Qg),by omega,fun r' JT v2 H9 s9 NA=>?_,fun uT=>?_⟩
        ·rw[dX] at JT
         have hn:nextT th=some r':=by
          unfold nextT
          rw[gx]
          exact JT
         have FQ:=He.trans s9
         have Iw:=FQ _ _ xA
         have Bc:xs.length=k'+1:=(Paired.length hR.p).trans hR.len
         refine⟨_,rfl,Or.inl ⟨rfl,_,bp.of Iw⟩,_,rfl,_,_,_,rfl,rfl,Iw,small (by omega),fun gz iX AI=>?_⟩
         have tu:=iX.dS Iw
         have Uu:b0 (k'+1) t=some r':=by rw[iS,cq];exact hn
         refine⟨k'+1,xs++[v2],ts++[r'],v2,r',_,_,rfl,bH (s5.trans FQ) iX WH,AI,⟨aJ (NA.mono tu) (aq (fun _ _ h=>(h.same FQ).mono tu) hR.p),by rw[List.length_append,hR.len];rfl,fun j hj=>?_,fun j y hj hy=>?_⟩,NA.mono tu,Uu,by omega⟩
         ·by_cases e:j=k'+1
          ·rw[e,Uu,List.getElem?_append_right (by rw[hR.len];exact Nat.le_refl _),hR.len,Nat.sub_self]
           rfl
          ·rw[hR.run j (by omega),List.getElem?_append_left (by rw[hR.len];omega)]
         ·by_cases e:j=k'
          ·rw[e,cq] at hy
           cases hy
           exact eB
          ·exact hR.small j y (by omega) hy
        ·rw[dX,er] at uT
         cases uT
     ·have He:=yo.trans s8
      exact⟨k',xs,ts,vh,th,_,_,rfl,s5.trans He,He _ _ xA,⟨aq (fun _ _ h=>h.same He) hR.p,hR.len,hR.run,hR.small⟩,Il.same He,cq,by omega⟩
    ·have yo:=s6.trans s7
     exact⟨k',xs,ts,vh,th,_,_,rfl,s5.trans yo,yo _ _ xA,⟨aq (fun _ _ h=>h.same yo) hR.p,hR.len,hR.run,hR.small⟩,Il.same yo,cq,by omega⟩
   ·rintro σ H5 ⟨k',xs,ts,vh,th,x5,x6,rfl,s5,xA,hR,Il,cq,UD⟩
    have hP:xa th:=Ay k' th UD cq hR.small
    have Bc:xs.length=k'+1:=(Paired.length hR.p).trans hR.len
    have JX:=fc (fc hS s3) s5
    have BG:∀j,j<=k'->∃y,b0 j t=some y/\xa y:=fun j hj=>by
     have NK:j < ts.length:=by rw[hR.len];omega
     have e:ts[j]? =some ts[j]:=List.getElem?_eq_getElem NK
     have UE:b0 j t=some ts[j]:=(hR.run j hj).trans e
     exact⟨_,UE,Ay j _ (by omega) UE fun l y hl=>hR.small l y (by omega)⟩
    refine⟨_,rfl,a,ns,0,rfl,JX,hl,fun c0=>⟨_,_,rfl,rfl,⟨by decide,by decide⟩,_,rfl,_,_,rfl,Or.inl (bp.of xA),_,_,rfl,rfl,(by show(0:Int) < (xs.length:Int);omega),?_⟩⟩
    obtain⟨F0,YR,L8⟩:∃F0:Nat,c0 / 7 % (xs.length:Int)=(F0:Int)/\F0<=k':=by
     have h1:0<=c0 / 7 % (xs.length:Int):=Int.emod_nonneg _ (by omega)
     have h2:c0 / 7 % (xs.length:Int) < (xs.length:Int):=Int.emod_lt_of_pos _ (by omega)
     exact⟨(c0 / 7 % (xs.length:Int)).toNat,(Int.toNat_of_nonneg h1).symm,by omega⟩
    rw[YR]
    show Jg _ _ _
    refine kK (u:=AU) fun D2 h2 EZ=>?_
    have sE:∀(Fl:Nat) (H6:Hp),aQ H5 H6->(Fl<=k' ∨ th.ao=[])->D2.nx [some (.ref a),some v,some (.int (mo:Int)),some vh,some (.ref D9),x5,x6,some (.int (Fl:Int)),none,none,none,none,none,none] H6:=by
     intro Fl H6 s6 hF
     refine h2 _ _ ?_
     have Lz:=s6 _ _ xA
     obtain⟨td,JR,L7⟩:=BG (min Fl k') (Nat.min_le_right _ _)
     have Y3:ts[min Fl k']? =some td:=(hR.run _ (Nat.min_le_right _ _)).symm.trans JR
     obtain⟨vd,YZ,PR⟩:∃vd,xs[min Fl k']? =some vd/\au H5 vd td:=by
      have eB:min Fl k' < xs.length:=by omega
      obtain⟨y,ey,hy⟩:=cm hR.p (show xs[min Fl k']? =some xs[min Fl k'] from List.getElem?_eq_getElem eB)
      rw[Y3] at ey
      cases ey
      exact⟨_,List.getElem?_eq_getElem eB,hy⟩
     refine⟨_,rfl,_,rfl,_,_,rfl,Or.inl (bp.of Lz),_,_,rfl,rfl,_,_,rfl,?_⟩
     have emin:(if (xs.length:Int) - 1 < (Fl:Int) then (xs.length:Int) - 1 else (Fl:Int))=((min Fl k':Nat):Int):=by
      rw[Bc]
      split<;>omega
     rw[emin]
     refine⟨_,rfl,_,rfl,_,_,_,_,rfl,rfl,bp.of Lz,jE YZ,?_⟩
     refine⟨az (by show 2<=1000000;decide),fun qw H7 n7 s7 X3=>⟨_,rfl,vd,td,rfl,(PR.same s6).same s7,by have:=L7.2.1;omega,L7.2.2,fun ev sg H8 s8 Nw CD wD=>⟨az (by show 0<=1000000;decide),fun e0 H9 n9 s9 h9=>⟨_,_,_,rfl,rfl,bp.of (s9 _ _ CD),bp.of h9,Or.inr ⟨_,rfl,?_⟩⟩⟩⟩⟩
     have wB:=s7.trans (s8.trans s9)
     have FQ:=s6.trans wB
     have LA:=s9 _ _ (s8 _ _ X3)
     have he:sg.isEmpty=td.ao.isEmpty:=by
      cases gx:td.ao with
      |nil=>rw[gx] at wD;cases wD;rfl
      |cons _ _=>rw[gx] at wD;cases wD;rfl
     rw[he]
     have Gj:∀j,j<=k'->∃y,b0 j t=some y/\y.deep<=190/\y.size<=90000:=fun j hj=>let ⟨y,h1,h2⟩:=BG j hj;⟨y,h1,by have:=h2.1;omega,h2.2.1⟩
     have Gs:Fl<=k' ∨ ∃y,b0 k' t=some y/\y.ao=[]:=hF.imp id fun z=>⟨th,cq,z⟩
     have Nj:TO TL H9:=(Om.same s3).same (s5.trans FQ)
     have PU:au H9 v t:=hv.same (s5.trans FQ)
     have YH:=fc JX FQ
     -- the last loop, and the end
     have FI:∀(wd:Str) (b:Addr) (rest:List V) (v':V) (n5:Option V) (n6:Option V) (gz:Hp),cI H9 gz->gz b=some (.tup (.str wd::v'::rest))->au gz v' td->(wd="end"->td.ao=[])->eD {nx:=fun x H'=>Q V.d0 H',rt:=Q} [some (.ref a),some v,some (.int (mo:Int)),some vh,some (.ref D9),n5,n6,some (.int (Fl:Int)),some (.int ((min Fl k':Nat):Int)),some vd,some (.str wd),some (.ref b),none,none] gz:=by
      intro wd b rest v' n5 n6 gz sx hb gf XO
      have PV:au gz v t:=PU.mono sx.cM
      refine⟨_,rfl,a,ns,1,rfl,OD YH sx,hl,fun c3=>⟨_,rfl,_,rfl,by decide,by decide,?_⟩⟩
      refine oX (lo:=0) (n:=6) (M7 t gz [some (.ref a),some v,some (.int (mo:Int)),some vh,some (.ref D9)] [some (.int (Fl:Int)),some (.int ((min Fl k':Nat):Int)),some vd,some (.str wd),some (.ref b)]) ⟨c3,v,n5,n6,[],6,rfl,.refl _,PV,trivial,by omega,XX⟩ ?_ ?_
      ·rintro i σ GP hi ⟨m,vt,n5,n6,ps,r,rfl,rP,Gi,EW,X2,Ir⟩
       cases r with
       |zero=>omega
       |succ r=>
       obtain⟨⟨q1,q2,q3⟩,q4⟩:=Ir
       refine⟨_,rfl,vt,_,rfl,Gi,by omega,q1,fun ev sg Na FR Nw CD wD=>?_⟩
       refine⟨_,rfl,az (by show 0<=1000000;decide),fun e0 H13 WR Ba Q8=>⟨_,_,_,rfl,rfl,bp.of (Ba _ _ CD),bp.of Q8,_,rfl,Ij (fun hE=>?_) (fun hE=>?_)⟩⟩
       ·have Gr:=Ba _ _ CD
        have hlen:(0:Int) < (sg.length:Int):=by
         cases sg with
         |nil=>simp at hE
         |cons _ _=>rw[List.length_cons];omega
        obtain⟨j,hj,NK⟩:∃j:Nat,m % (sg.length:Int)=(j:Int)/\j < sg.length:=by
         have h1:0<=m % (sg.length:Int):=Int.emod_nonneg _ (by omega)
         have h2:m % (sg.length:Int) < (sg.length:Int):=Int.emod_lt_of_pos _ hlen
         exact⟨(m % (sg.length:Int)).toNat,(Int.toNat_of_nonneg h1).symm,by omega⟩
        obtain⟨p,ep,pb,Y4,Qg⟩:=cm wD (show sg[j]? =some sg[j] from List.getElem?_eq_getElem NK)
        have xC:p∈(eU t (oF ps)).ao:=List.mem_of_getElem? ep
        have X5:=iP _ p xC
        obtain⟨u,eu⟩:=ow xC
        have L4:uU sg (m % (sg.length:Int))=some (.ref pb):=by
         rw[hj,<-Y4]
         exact jE (List.getElem?_eq_getElem NK)
        refine⟨_,rfl,_,rfl,_,rfl,_,rfl,_,_,rfl,Or.inl (bp.of Gr),_,_,rfl,rfl,hlen,_,_,_,_,rfl,rfl,bp.of Gr,L4,vt,_,pb,p,rfl,(Gi.same FR).same Ba,q2,Ba _ _ Qg,by omega,fun r' JT v2 H14 Wg NA=>?_,fun uT=>?_⟩
        ·rw[dX] at JT
         have e1:eU t (oF (ps++[p]))=r':=by
          rw[sy,vT,CT JT xC]
         refine⟨_,rfl,_,_,rfl,rfl,⟨by decide,by decide⟩,_,rfl,_,_,rfl,rfl,?_⟩
         refine⟨_,v2,_,_,ps++[p],r,rfl,rP.trans ((FR.trans Ba).trans Wg),by rw[e1];exact NA,?_,by omega,by rw[e1];exact q4 p r' JT⟩
         rw[sy,mD]
         exact⟨EW,fun q hq=>by rw[List.mem_singleton.mp hq];exact xC⟩
        ·rw[dX,eu] at uT
         cases uT
       ·exact⟨m,vt,_,_,ps,r+1,rfl,rP.trans (FR.trans Ba),(Gi.same FR).same Ba,EW,by omega,⟨q1,q2,q3⟩,q4⟩
      ·rintro σ GP ⟨m,vt,n5,n6,ps,r,rfl,rP,Gi,EW,X2,Ir⟩
       obtain⟨q1,q2⟩:=G6 Ir
       refine⟨_,rfl,rfl,_,rfl,uj (fun hw=>?_) (fun _=>cf (k _))⟩
       cases hw
       refine⟨_,rfl,vt,_,rfl,Gi,q2,q1,fun ev sg Na FR Nw CD wD=>⟨az (by show 0<=1000000;decide),fun e0 H13 WR Ba Q8=>⟨_,_,_,rfl,rfl,bp.of (Ba _ _ CD),bp.of Q8,_,rfl,?_⟩⟩⟩
       refine Ij (fun hE=>?_) (fun _=>k _)
       have hE:sg.isEmpty=true:=hE
       rw[Cd wD] at hE
       have uT:(eU t (oF ps)).ao=[]:=List.isEmpty_iff.mp hE
       obtain⟨qs,w1,w2,_⟩:=yp _ _ _ JR
       have e1:eU t (oF ps)=td:=by
        rw[<-w2]
        refine Es EW w1 uT ?_
        rw[w2]
        exact XO rfl
       rw[e1] at Gi
       have Ln:=(Gi.same FR).same Ba
       have Lq:=((gf.same rP).same FR).same Ba
       have QZ:=Ba _ _ (FR _ _ (rP _ _ hb))
       obtain⟨av,rfl⟩:=Gi.ref
       obtain⟨af,rfl⟩:=gf.ref
       refine⟨_,rfl,_,rfl,_,_,_,_,rfl,rfl,aS.of QZ,gb,?_⟩
       refine⟨127,jK td,jK td,av,af,rfl,rfl,gB _ _ (by have:=L7.1;omega),by show A.units+3+127+1 < cLine;omega,iL Ln,iL Lq,fun b1 ur=>?_⟩
       rw[ur.mpr rfl]
       exact k _
     have FT:∀(wd:Str) (b:Addr) (rest:List V) (v':V) (gz:Hp),ST TL H9 gz->gz b=some (.tup (.str wd::v'::rest))->au gz v' td->(wd="end"/\td.ao=[]/\rest=[.int ((min Fl k':Nat):Int)] ∨ wd="on"/\rest=[])->uH {nx:=fun x H'=>Q V.d0 H',rt:=Q} [some (.ref a),some v,some (.int (mo:Int)),some vh,some (.ref D9),x5,x6,some (.int (Fl:Int)),some (.int ((min Fl k':Nat):Int)),some vd,some (.str wd),some (.ref b),none,none] gz:=by
      intro wd b rest v' gz st hb gf Qm
      obtain⟨af,rfl⟩:=gf.ref
      obtain⟨ad,rfl⟩:=PR.ref
      refine⟨_,rfl,_,_,_,_,rfl,.tup hb,rb K,_,rfl,cf ⟨_,rfl,_,_,_,_,rfl,rfl,aS.of hb,bW,_,_,_,_,rfl,.str _,oS K,_,rfl,cf ⟨_,rfl,_,_,_,_,rfl,rfl,aS.of hb,bW,_,rfl,rfl,_,rfl,oV rfl ?_⟩⟩⟩
      refine⟨_,rfl,_,_,rfl,Or.inr (aS.of hb),_,_,rfl,rfl,_,rfl,dh (by simp only[List.length_cons];omega) ⟨_,rfl,_,_,_,_,rfl,rfl,aS.of hb,gb,_,td,rfl,gf,by have:=L7.2.1;omega,fun GP rP=>?_⟩⟩
      have xG:=rP _ _ hb
      have Lo:au GP (.ref ad) td:=(((PR.same FQ).mono st.cM).same rP)
      refine⟨_,rfl,cf ⟨_,rfl,_,_,_,_,rfl,rfl,aS.of xG,gb,_,rfl,?_⟩⟩
      refine⟨127,jK td,jK td,af,ad,rfl,rfl,gB _ _ (by have:=L7.1;omega),by show A.units+3+127+1 < cLine;omega,iL (gf.same rP),iL Lo,fun b1 ur=>?_⟩
      rw[ur.mpr rfl]
      refine⟨_,rfl,cf ?_⟩
      have Kn:cI H9 GP:=st.sx.trans (.of rP)
      rcases Qm with⟨rfl,lE,rfl⟩|⟨rfl,rfl⟩
      ·refine⟨_,rfl,_,_,rfl,Or.inr (aS.of xG),_,rfl,rfl,Or.inr ⟨_,rfl,_,_,rfl,rfl,rfl,_,rfl,oV (by rfl) ?_⟩⟩
       refine⟨_,rfl,rfl,_,rfl,ia rfl ⟨_,rfl,_,_,_,_,rfl,rfl,aS.of xG,at2,_,rfl,_,rfl,cf ⟨_,rfl,_,_,_,_,rfl,rfl,aS.of xG,at2,_,rfl,rfl,_,rfl,oV rfl ?_⟩⟩⟩
       exact FI _ b _ _ _ _ GP Kn xG (gf.same rP) fun _=>lE
      ·refine⟨_,rfl,_,_,rfl,Or.inr (aS.of xG),_,rfl,rfl,Or.inr ⟨_,rfl,_,_,rfl,rfl,rfl,_,rfl,oV (by rfl) ?_⟩⟩
       refine⟨_,rfl,rfl,_,rfl,dh (by decide) (cf ?_)⟩
       exact FI _ b _ _ _ _ GP Kn xG (gf.same rP) fun z=>absurd z (by decide)
     cases gx:td.ao with
     |nil=>
      refine⟨_,_,_,_,rfl,rfl,bp.of LA,bW,?_⟩
      refine⟨_,rfl,_,rfl,v,t,Fl,k',rfl,PU,Gj,Gs,Nj,fun x b v' gz hx ml st hb gf=>?_,fun x b v' gz hx ml st hb gf=>?_⟩
      ·cases JR.symm.trans hx
       exact absurd gx ml
      ·cases JR.symm.trans hx
       exact FT _ b _ v' gz st hb gf (.inl ⟨rfl,gx,rfl⟩)
     |cons p0 ps0=>
      refine⟨_,_,_,_,rfl,rfl,bp.of LA,gb,?_⟩
      refine⟨_,rfl,_,rfl,v,t,Fl,k',rfl,PU,Gj,Gs,Nj,fun x b v' gz hx ml st hb gf=>?_,fun x b v' gz hx ml st hb gf=>?_⟩
      ·cases JR.symm.trans hx
       exact FT _ b _ v' gz st hb gf (.inr ⟨rfl,rfl⟩)
      ·cases JR.symm.trans hx
       rw[gx] at ml
       cases ml
    refine⟨_,rfl,vh,th,rfl,Il,by have:=hP.2.1;omega,hP.2.2,fun ev sg H6 s6 Nw CD wD=>⟨az (by show 0<=1000000;decide),fun e0 H7 n7 s7 h7=>⟨_,_,_,rfl,rfl,bp.of (s7 _ _ CD),bp.of h7,_,rfl,Ij (fun hE=>?_) (fun _=>cf (sE F0 H7 (s6.trans s7) (.inl L8)))⟩⟩⟩
    have yo:=s6.trans s7
    have uT:th.ao=[]:=by
     have:sg=[]:=by
      cases sg with
      |nil=>rfl
      |cons _ _=>simp at hE
     subst this
     cases gx:th.ao with
     |nil=>rfl
     |cons _ _=>rw[gx] at wD;cases wD
    refine⟨_,rfl,a,ns,0,rfl,fc JX yo,hl,fun c1=>⟨_,_,rfl,rfl,(show(0:Int) < 7 by decide),_,_,rfl,rfl,_,rfl,uj (fun _=>?_) (fun _=>sE F0 H7 yo (.inl L8))⟩⟩
    refine⟨_,rfl,_,_,rfl,Or.inl (bp.of (yo _ _ xA)),_,_,rfl,rfl,_,rfl,a,ns,0,rfl,fc JX yo,hl,fun c2=>⟨_,rfl,fun i0 H8 s8=>⟨_,rfl,_,_,rfl,rfl,?_⟩⟩⟩
    have ef:(xs.length:Int) - 1+(if i0 < 0 then -i0 else i0)=((k'+i0.natAbs:Nat):Int):=by
     rw[zp,Bc]
     omega
    show D2.nx [some (.ref a),some v,some (.int (mo:Int)),some vh,some (.ref D9),x5,x6,some (.int ((xs.length:Int) - 1+(if i0 < 0 then -i0 else i0))),none,none,none,none,none,none] H8
    rw[ef]
    exact sE _ H8 (yo.trans s8) (.inr uT)
  refine⟨_,rfl,a,ns,1,rfl,fc hS Nt,hl,fun c1=>⟨_,_,rfl,rfl,(show(0:Int) < 5 by decide),rfl,_,rfl,uj (fun _=>?_) (fun _=>sF v0 t0 20 H2 Nt XR (G5 NJ) (Ea NJ) (by decide))⟩⟩
  exact⟨3,rfl,by decide,fun v3 H3 s3 XQ=>sF v3 (dbl 3) 60 H3 (Nt.trans s3) XQ G7 BF (by decide)⟩
end
end NC
def PySem.W.Fast.tw17262854122661311520:Nat:=0
def PySem.W.Fast.tw1215438689220651052:Nat:=0
def PySem.W.Fast.tw12082110482665272684:Nat:=0
def PySem.W.Fast.tw2098396584089778533:Nat:=0
def PySem.W.Fast.tw13614882826897247978:Nat:=0
def PySem.W.Fast.tw6506306122798102988:Nat:=0
def PySem.W.Fast.tw11760309389187375683:Nat:=0
def PySem.W.Fast.tw8810761737884480264:Nat:=0
def PySem.W.Fast.tw6602885233905591596:Nat:=0
def PySem.W.Fast.tw16352225043778249988:Nat:=0
def PySem.W.Fast.tw524523572615576410:Nat:=0
def PySem.W.Fast.tw4034217476989088643:Nat:=0
def PySem.W.Fast.tw12226595044389018377:Nat:=0
def PySem.W.Fast.tw5642905008304141771:Nat:=0
namespace NC
open PySem PySem.Spec PyProof.Rows L2
inductive o8(K:W.Frag)(f:Addr)(n x:Str)(st:Stmt):Prop where
 |mk{oc od sl kV dc pm an cd ct}(l:K.lookup f=some ⟨oc,od,.func (PySem.W.fnOf n x (cz st) (bX st) (aw st) .none kV dc pm an cd ct),sl⟩)(c:PySem.W.codeIn K cd x=true)(k:PySem.W.keepIn K (.ref f)=true)
inductive jJ(K:W.Frag)(x:Str)(st:Stmt):Prop where
 |mk{f oc od sl kV dc pm an cd ct}(a:PySem.W.nsIn K mainGlobals x=some (some (.ref f)))(l:K.lookup f=some ⟨oc,od,.func (PySem.W.fnOf x x (cz st) (bX st) (aw st) .none kV dc pm an cd ct),sl⟩)(c:PySem.W.codeIn K cd x=true)(k:PySem.W.keepIn K (.ref f)=true)
theorem all_mk{l:PySem.W.OpenLaw}{w:World}{K:W.Frag}{h:Heap}{mg:Str->Option Value}{fa C c0 c1 c2 c3 f3 f5 f6 f7 f8 f9 Rq Rp Ro Rn Rm Rl Rk Rj Ri Rh Rg Rf:Addr}(T0 T1 T2 T3:Addr){C2:Addr}{hA:Addr}{Qs:Option Addr}{X9:Nat}{X8:Array (Option Value)}{X7:Tok}(X:K.In h)(G:h.Ns mainGlobals mg)(Yt:mg "law"=some (.ref fa))
  {WB Vj WA Vi Wz Vh Wy Vg O3 Ms:Option Addr}{Wf We Wd Wc OE:Array (Option Value)}{WG Tw U8 Tj Vc WE Tv U7 Ti Vb WD Tu U6 Th Va WC Tt U5 Tg U9 O4 Lf Ml Kx Mo I9:Value}
  (a3:PySem.W.nsIn K mainGlobals "parts_of"=some (some (.ref f3)))
  (a5:PySem.W.nsIn K mainGlobals "rebuilt"=some (some (.ref f5)))
  (a6:PySem.W.nsIn K mainGlobals "lifted"=some (some (.ref f6)))
  (a9:PySem.W.nsIn K mainGlobals "filled"=some (some (.ref f9)))
  (NW:PySem.W.nsIn K mainGlobals "law"=some (some (.ref Rf)))
  (yC:PySem.W.nsIn K mainGlobals "Raised"=some (some (.ref C)))(yM:PySem.W.makesIn K C=true)(yI:PySem.W.findIn K (.ref C) "__init__"=some (some (.ref f7)))(N4:PySem.W.isFn K (.ref f7)=true)(yK:PySem.W.keepIn K (.ref C)=true)
  (y1:PySem.W.plainGet K C Str.empty=true)(y2:PySem.W.hasDictIn K C=true)(y3:PySem.W.plainOver K C=true)(y4:PySem.W.findIn K (.ref C) "__setattr__"=some (some (.builtin "object.__setattr__")))
  (Bl:PySem.W.findIn K (.ref C) "by"=some (some (.ref f8)))(Bk:PySem.W.isFn K (.ref f8)=true)
  (tq:PySem.W.findIn K (.ref C) "term"=some none)
  (qp:PySem.W.findIn K (.ref C) "ready"=some none)
  (N6:PySem.W.nsIn K mainGlobals "Stand"=some (some (.ref C2)))(N1:PySem.W.makesIn K C2=true)(N5:PySem.W.findIn K (.ref C2) "__init__"=some (some (.ref Rq)))(GR:PySem.W.isFn K (.ref Rq)=true)(N3:PySem.W.keepIn K (.ref C2)=true)
  (Oa:PySem.W.plainGet K C2 Str.empty=true)(N9:PySem.W.hasDictIn K C2=true)(N8:PySem.W.plainOver K C2=true)(N7:PySem.W.findIn K (.ref C2) "__setattr__"=some (some (.builtin "object.__setattr__")))
  (jg:PySem.W.findIn K (.ref C2) "leads_on"=some (some (.ref Rp)))(jf:PySem.W.isFn K (.ref Rp)=true)
  (j5:PySem.W.findIn K (.ref C2) "go_down"=some (some (.ref Ro)))(jY:PySem.W.isFn K (.ref Ro)=true)
  (om:PySem.W.findIn K (.ref C2) "go_up"=some (some (.ref Rn)))(oi:PySem.W.isFn K (.ref Rn)=true)
  (il:PySem.W.findIn K (.ref C2) "go_to_top"=some (some (.ref Rm)))(ig:PySem.W.isFn K (.ref Rm)=true)
  (ik:PySem.W.findIn K (.ref C2) "is_called"=some (some (.ref Rl)))(ie:PySem.W.isFn K (.ref Rl)=true)
  (oo:PySem.W.findIn K (.ref C2) "go_on"=some (some (.ref Rk)))(oj:PySem.W.isFn K (.ref Rk)=true)
  (ip:PySem.W.findIn K (.ref C2) "find_spot"=some (some (.ref Rj)))(ij:PySem.W.isFn K (.ref Rj)=true)
  (j6:PySem.W.findIn K (.ref C2) "do_step"=some (some (.ref Ri)))(jZ:PySem.W.isFn K (.ref Ri)=true)
  (lV:PySem.W.findIn K (.ref C2) "copied"=some (some (.ref Rh)))(lR:PySem.W.isFn K (.ref Rh)=true)
  (j0:PySem.W.findIn K (.ref C2) "same_as"=some (some (.ref Rg)))(jX:PySem.W.isFn K (.ref Rg)=true)
  (qq:PySem.W.findIn K (.ref C2) "part"=some none)
  (oh:PySem.W.findIn K (.ref C2) "above"=some none)
  (eH:PySem.W.nsIn K mainGlobals "HOLE"=some (some (.ref hA)))(Rt:K.lookup hA=some ⟨.type "tuple",Qs,.seq #[.str (Str.ofString "hole") X7] X9,X8⟩)
  (d1:jJ K "is_outer" jj)
  (d2:jJ K "walk" qJ)
  (l3:K.lookup f3=some ⟨WG,WB,.func (PySem.W.fnOf "parts_of" "parts_of" (cz di) (bX di) (aw di) .none Tw U8 Tj Vj (.ref c0) Vc),Wf⟩)(NV:PySem.W.codeIn K (.ref c0) "parts_of"=true)(k3:PySem.W.keepIn K (.ref f3)=true)
  (d4:jJ K "built" mT)
  (l5:K.lookup f5=some ⟨WE,WA,.func (PySem.W.fnOf "rebuilt" "rebuilt" (cz dG) (bX dG) (aw dG) .none Tv U7 Ti Vi (.ref c1) Vb),We⟩)(RZ:PySem.W.codeIn K (.ref c1) "rebuilt"=true)(k5:PySem.W.keepIn K (.ref f5)=true)
  (l6:K.lookup f6=some ⟨WD,Wz,.func (PySem.W.fnOf "lifted" "lifted" (cz ff) (bX ff) (aw ff) .none Tu U6 Th Vh (.ref c2) Va),Wd⟩)(RY:PySem.W.codeIn K (.ref c2) "lifted"=true)(k6:PySem.W.keepIn K (.ref f6)=true)
  (d7:o8 K f7 "__init__" "Raised.__init__" dO)
  (d8:o8 K f8 "by" "Raised.by" g7)
  (l9:K.lookup f9=some ⟨WC,Wy,.func (PySem.W.fnOf "filled" "filled" (cz fg) (bX fg) (aw fg) .none Tt U5 Tg Vg (.ref c3) U9),Wc⟩)(RX:PySem.W.codeIn K (.ref c3) "filled"=true)(k9:PySem.W.keepIn K (.ref f9)=true)
  (RW:jJ K "is_spot" kN)
  (RV:jJ K "same" s_same)
  (RU:o8 K Rq "__init__" "Stand.__init__" d9)
  (RT:o8 K Rp "leads_on" "Stand.leads_on" d6)
  (RS:o8 K Ro "go_down" "Stand.go_down" eO)
  (RR:o8 K Rn "go_up" "Stand.go_up" fU)
  (RQ:o8 K Rm "go_to_top" "Stand.go_to_top" dM)
  (RP:o8 K Rl "is_called" "Stand.is_called" dJ)
  (RO:o8 K Rk "go_on" "Stand.go_on" fV)
  (RN:o8 K Rj "find_spot" "Stand.find_spot" dN)
  (RM:o8 K Ri "do_step" "Stand.do_step" eQ)
  (RL:o8 K Rh "copied" "Stand.copied" fo)
  (RK:o8 K Rg "same_as" "Stand.same_as" eN)
  (RJ:jJ K "led" ym)
  (RI:jJ K "_law_whole" gp)
  (RH:jJ K "_law_any" jk)
  (RG:jJ K "_law_any_word" eM)
  (RF:jJ K "_law_grown" gr)
  (RE:jJ K "_law_at" kO)
  (RD:jJ K "_law_parts" gq)
  (RC:jJ K "_law_raised" fT)
  (RB:jJ K "_law_stuffed" fh)
  (RA:jJ K "_law_stepped" fi)
  (Rz:jJ K "_law_calls_of_forms" cT)
  (Ry:jJ K "_law_is_term" fj)
  (Rx:jJ K "_law_room" g0)
  (Rw:jJ K "_law_doubled" fk)
  (Pt:K.lookup Rf=some ⟨O4,O3,.func (PySem.W.fnOf "law" "law" (cz mS) (bX mS) (aw mS) .none Lf Ml Kx Ms I9 Mo),OE⟩)(Ja:PySem.W.codeIn K I9 "law"=true)(PD:PySem.W.keepIn K (.ref Rf)=true)
  (z0:PySem.W.nsIn K mainGlobals "len"=some none)(z1:PySem.W.nsIn K mainGlobals "abs"=some none)(z2:PySem.W.nsIn K mainGlobals "min"=some none)(z3:PySem.W.nsIn K mainGlobals "isinstance"=some none)(z4:PySem.W.nsIn K mainGlobals "list"=some none)(z5:PySem.W.nsIn K mainGlobals "tuple"=some none)(z6:PySem.W.nsIn K mainGlobals "str"=some none)(z7:PySem.W.nsIn K mainGlobals "reversed"=some none)(z8:PySem.W.nsIn K mainGlobals "int"=some none)(z9:PySem.W.nsIn K mainGlobals "bool"=some none)(NZ:PySem.W.nsIn K mainGlobals "sorted"=some none)(NY:PySem.W.nsIn K mainGlobals "range"=some none)(NX:PySem.W.nsIn K mainGlobals "zip"=some none)
  (Q5:PySem.W.codeHdIn K c0 T0=true)(NS:PySem.W.codeHdIn K c1 T1=true)(L9:PySem.W.codeHdIn K c2 T2=true)(Q4:PySem.W.codeHdIn K c3 T3=true)(hT:[T0,T1,T2,T3].Nodup):
  ∃fd:FuncData,(∀(s:Shared) (v:Value),BindsTo s fd ⟨[v],[]⟩ [("_law_script",v)])/\∀base:Heap,K.In base->base.Ns mainGlobals mg->fC base mg->cg l.prog w K mg base bK 13 fa fd ["_law_script"] (wX [(T0,bz aM,aR),(T1,bz aP,aX),(T2,bA aB,bL),(T3,bA aI,cQ)] K):=by
 have e:=Yt.symm.trans (PySem.W.mg_of X G NW)
 cases e
 have N_:cV mg:=⟨PySem.W.mg_none_of X G z0,PySem.W.mg_none_of X G z1,PySem.W.mg_none_of X G z2,PySem.W.mg_none_of X G z3,PySem.W.mg_none_of X G z4,PySem.W.mg_none_of X G z5,PySem.W.mg_none_of X G z6,PySem.W.mg_none_of X G z7,PySem.W.mg_none_of X G z8,PySem.W.mg_none_of X G z9,PySem.W.mg_none_of X G NZ,PySem.W.mg_none_of X G NY,PySem.W.mg_none_of X G NX⟩
 have xO:xW [(T0,bz aM,aR),(T1,bz aP,aX),(T2,bA aB,bL),(T3,bA aI,cQ)]:=DT hT
 have YF:(T0,bz aM,aR)∈([(T0,bz aM,aR),(T1,bz aP,aX),(T2,bA aB,bL),(T3,bA aI,cQ)]:cS):=(.head _)
 have DL:(T1,bz aP,aX)∈([(T0,bz aM,aR),(T1,bz aP,aX),(T2,bA aB,bL),(T3,bA aI,cQ)]:cS):=(.tail _ (.head _))
 have IL:(T2,bA aB,bL)∈([(T0,bz aM,aR),(T1,bz aP,aX),(T2,bA aB,bL),(T3,bA aI,cQ)]:cS):=(.tail _ (.tail _ (.head _)))
 have IK:(T3,bA aI,cQ)∈([(T0,bz aM,aR),(T1,bz aP,aX),(T2,bA aB,bL),(T3,bA aI,cQ)]:cS):=(.tail _ (.tail _ (.tail _ (.head _))))
 have R:Jx K C:=⟨⟨y1,y2,y3,y4⟩,tq,qp⟩
 have R2:jc K C2:=⟨⟨Oa,N9,N8,N7⟩,qq,oh⟩
 have hH:rO K mg hA:=⟨PySem.W.mg_of X G eH,fun H=> .inr ⟨_,_,_,Rt,rfl,rfl,by show 1<=sizeLine;decide,.cons ⟨_,rfl⟩ .nil⟩⟩
 obtain⟨a1,l1,Zk,k1⟩:=d1
 have F1:=bR (st:=jj) l1 Zk k1
 have b1:=F1.binds (ps:=["part","forms"]) fun _ _ _ _ _ _ us hl=>by obtain⟨_,_,rfl⟩:=ku hl;rfl
 have m1:=PySem.W.mg_of X G a1
 obtain⟨a2,l2,Zh,k2⟩:=d2
 have F2:=bR (st:=qJ) l2 Zh k2
 have b2:=F2.binds (ps:=["term","around","inward"]) fun _ _ _ _ _ _ us hl=>by obtain⟨_,_,_,rfl⟩:=HR hl;rfl
 have m2:=PySem.W.mg_of X G a2
 have F3:sj K "parts_of" "parts_of" di f3 _ c0:=⟨⟨_,_,_,_,_,_,_,_,rfl,l3,NV⟩⟩
 have b3:Binds K (PySem.W.fnOf "parts_of" "parts_of" (cz di) (bX di) (aw di) .none Tw U8 Tj Vj (.ref c0) Vc) ["term"] []:= .all fun us hl=>by obtain⟨_,rfl⟩:=jx hl;rfl
 have m3:=PySem.W.mg_of X G a3
 obtain⟨a4,l4,Zg,k4⟩:=d4
 have F4:=bR (st:=mT) l4 Zg k4
 have b4:=F4.binds (ps:=["found","leaf","over"]) fun _ _ _ _ _ _ us hl=>by obtain⟨_,_,_,rfl⟩:=HR hl;rfl
 have m4:=PySem.W.mg_of X G a4
 have F5:sj K "rebuilt" "rebuilt" dG f5 _ c1:=⟨⟨_,_,_,_,_,_,_,_,rfl,l5,RZ⟩⟩
 have b5:Binds K (PySem.W.fnOf "rebuilt" "rebuilt" (cz dG) (bX dG) (aw dG) .none Tv U7 Ti Vi (.ref c1) Vb) ["term","change"] []:= .all fun us hl=>by obtain⟨_,_,rfl⟩:=ku hl;rfl
 have m5:=PySem.W.mg_of X G a5
 have F6:sj K "lifted" "lifted" ff f6 _ c2:=⟨⟨_,_,_,_,_,_,_,_,rfl,l6,RY⟩⟩
 have b6:Binds K (PySem.W.fnOf "lifted" "lifted" (cz ff) (bX ff) (aw ff) .none Tu U6 Th Vh (.ref c2) Va) ["term","by"] []:= .all fun us hl=>by obtain⟨_,_,rfl⟩:=ku hl;rfl
 have m6:=PySem.W.mg_of X G a6
 obtain⟨l7,Zf,k7⟩:=d7
 have F7:=bR (st:=dO) l7 Zf k7
 have b7:=F7.binds (ps:=["self","term"]) fun _ _ _ _ _ _ us hl=>by obtain⟨_,_,rfl⟩:=ku hl;rfl
 obtain⟨l8,Ze,k8⟩:=d8
 have F8:=bR (st:=g7) l8 Ze k8
 have b8:=F8.binds (ps:=["self","forms"]) fun _ _ _ _ _ _ us hl=>by obtain⟨_,_,rfl⟩:=ku hl;rfl
 have F9:sj K "filled" "filled" fg f9 _ c3:=⟨⟨_,_,_,_,_,_,_,_,rfl,l9,RX⟩⟩
 have b9:Binds K (PySem.W.fnOf "filled" "filled" (cz fg) (bX fg) (aw fg) .none Tt U5 Tg Vg (.ref c3) U9) ["body","term"] []:= .all fun us hl=>by obtain⟨_,_,rfl⟩:=ku hl;rfl
 have m9:=PySem.W.mg_of X G a9
 obtain⟨Z3,XD,Sv,iX⟩:=RW
 have VT:=bR (st:=kN) XD Sv iX
 have ZN:=VT.binds (ps:=["part"]) fun _ _ _ _ _ _ us hl=>by obtain⟨_,rfl⟩:=jx hl;rfl
 have Xa:=PySem.W.mg_of X G Z3
 obtain⟨Z2,XC,Su,Uc⟩:=RV
 have VS:=bR (st:=s_same) XC Su Uc
 have ZM:=VS.binds (ps:=["one","other"]) fun _ _ _ _ _ _ us hl=>by obtain⟨_,_,rfl⟩:=ku hl;rfl
 have W9:=PySem.W.mg_of X G Z2
 obtain⟨XB,Ss,ES⟩:=RU
 have VR:=bR (st:=d9) XB Ss ES
 have ZL:=VR.binds (ps:=["self","term"]) fun _ _ _ _ _ _ us hl=>by obtain⟨_,_,rfl⟩:=ku hl;rfl
 obtain⟨XA,Sr,Ub⟩:=RT
 have VQ:=bR (st:=d6) XA Sr Ub
 have ZK:=VQ.binds (ps:=["self","turn"]) fun _ _ _ _ _ _ us hl=>by obtain⟨_,_,rfl⟩:=ku hl;rfl
 obtain⟨Xz,Sq,Ua⟩:=RS
 have VP:=bR (st:=eO) Xz Sq Ua
 have ZJ:=VP.binds (ps:=["self","turn"]) fun _ _ _ _ _ _ us hl=>by obtain⟨_,_,rfl⟩:=ku hl;rfl
 obtain⟨Xy,So,T9⟩:=RR
 have VO:=bR (st:=fU) Xy So T9
 have ZI:=VO.binds (ps:=["self"]) fun _ _ _ _ _ _ us hl=>by obtain⟨_,rfl⟩:=jx hl;rfl
 obtain⟨Xx,Sn,T8⟩:=RQ
 have VN:=bR (st:=dM) Xx Sn T8
 have ZH:=VN.binds (ps:=["self"]) fun _ _ _ _ _ _ us hl=>by obtain⟨_,rfl⟩:=jx hl;rfl
 obtain⟨Xw,Sm,T7⟩:=RP
 have VM:=bR (st:=dJ) Xw Sm T7
 have ZG:=VM.binds (ps:=["self"]) fun _ _ _ _ _ _ us hl=>by obtain⟨_,rfl⟩:=jx hl;rfl
 obtain⟨Xv,Sl,T6⟩:=RO
 have VL:=bR (st:=fV) Xv Sl T6
 have ZF:=VL.binds (ps:=["self"]) fun _ _ _ _ _ _ us hl=>by obtain⟨_,rfl⟩:=jx hl;rfl
 obtain⟨Xu,Sk,T5⟩:=RN
 have VJ:=bR (st:=dN) Xu Sk T5
 have ZE:=VJ.binds (ps:=["self"]) fun _ _ _ _ _ _ us hl=>by obtain⟨_,rfl⟩:=jx hl;rfl
 obtain⟨Xt,Si,T4⟩:=RM
 have VI:=bR (st:=eQ) Xt Si T4
 have ZD:=VI.binds (ps:=["self"]) fun _ _ _ _ _ _ us hl=>by obtain⟨_,rfl⟩:=jx hl;rfl
 obtain⟨Xs,Sh,TZ⟩:=RL
 have VH:=bR (st:=fo) Xs Sh TZ
 have ZC:=VH.binds (ps:=["self"]) fun _ _ _ _ _ _ us hl=>by obtain⟨_,rfl⟩:=jx hl;rfl
 obtain⟨Xr,Sg,TY⟩:=RK
 have VG:=bR (st:=eN) Xr Sg TY
 have ZA:=VG.binds (ps:=["self","other"]) fun _ _ _ _ _ _ us hl=>by obtain⟨_,_,rfl⟩:=ku hl;rfl
 obtain⟨Z1,Xq,Sf,TX⟩:=RJ
 have VF:=bR (st:=ym) Xq Sf TX
 have Zz:=VF.binds (ps:=["term","fuel"]) fun _ _ _ _ _ _ us hl=>by obtain⟨_,_,rfl⟩:=ku hl;rfl
 have W8:=PySem.W.mg_of X G Z1
 obtain⟨Z0,Xp,Se,TV⟩:=RI
 have VE:=bR (st:=gp) Xp Se TV
 have Zy:=VE.binds (ps:=["_law_found"]) fun _ _ _ _ _ _ us hl=>by obtain⟨_,rfl⟩:=jx hl;rfl
 have W7:=PySem.W.mg_of X G Z0
 obtain⟨ZZ,Xo,Sd,TU⟩:=RH
 have VD:=bR (st:=jk) Xo Sd TU
 have Zx:=VD.binds (ps:=["_law_cell"]) fun _ _ _ _ _ _ us hl=>by obtain⟨_,rfl⟩:=jx hl;rfl
 have W6:=PySem.W.mg_of X G ZZ
 obtain⟨ZY,Xn,Sb,TR⟩:=RG
 have VC:=bR (st:=eM) Xn Sb TR
 have Zw:=VC.binds (ps:=["_law_cell"]) fun _ _ _ _ _ _ us hl=>by obtain⟨_,rfl⟩:=jx hl;rfl
 have W5:=PySem.W.mg_of X G ZY
 obtain⟨ZX,Xm,Sa,TQ⟩:=RF
 have VB:=bR (st:=gr) Xm Sa TQ
 have Zv:=VB.binds (ps:=["_law_cells"]) fun _ _ _ _ _ _ us hl=>by obtain⟨_,rfl⟩:=jx hl;rfl
 have W4:=PySem.W.mg_of X G ZX
 obtain⟨ZW,Xl,R9,TN⟩:=RE
 have VA:=bR (st:=kO) Xl R9 TN
 have Zu:=VA.binds (ps:=["_law_script","_law_k"]) fun _ _ _ _ _ _ us hl=>by obtain⟨_,_,rfl⟩:=ku hl;rfl
 have W3:=PySem.W.mg_of X G ZW
 obtain⟨ZV,Xk,R8,TM⟩:=RD
 have Vz:=bR (st:=gq) Xk R8 TM
 have Zt:=Vz.binds (ps:=["_law_term"]) fun _ _ _ _ _ _ us hl=>by obtain⟨_,rfl⟩:=jx hl;rfl
 have W2:=PySem.W.mg_of X G ZV
 obtain⟨ZU,Xj,R7,TK⟩:=RC
 have Vy:=bR (st:=fT) Xj R7 TK
 have Zs:=Vy.binds (ps:=["_law_term","_law_by"]) fun _ _ _ _ _ _ us hl=>by obtain⟨_,_,rfl⟩:=ku hl;rfl
 have W0:=PySem.W.mg_of X G ZU
 obtain⟨ZT,Xi,R6,TJ⟩:=RB
 have Vx:=bR (st:=fh) Xi R6 TJ
 have Zr:=Vx.binds (ps:=["_law_body","_law_given"]) fun _ _ _ _ _ _ us hl=>by obtain⟨_,_,rfl⟩:=ku hl;rfl
 have WZ:=PySem.W.mg_of X G ZT
 obtain⟨ZS,Xh,R5,TH⟩:=RA
 have Vw:=bR (st:=fi) Xh R5 TH
 have Zq:=Vw.binds (ps:=["_law_term","_law_path"]) fun _ _ _ _ _ _ us hl=>by obtain⟨_,_,rfl⟩:=ku hl;rfl
 have WY:=PySem.W.mg_of X G ZS
 obtain⟨ZR,Xg,R4,TF⟩:=Rz
 have Vv:=bR (st:=cT) Xg R4 TF
 have Zp:=Vv.binds (ps:=["_law_term"]) fun _ _ _ _ _ _ us hl=>by obtain⟨_,rfl⟩:=jx hl;rfl
 have WX:=PySem.W.mg_of X G ZR
 obtain⟨ZQ,Xf,R3,TC⟩:=Ry
 have Vu:=bR (st:=fj) Xf R3 TC
 have Zo:=Vu.binds (ps:=["_law_found"]) fun _ _ _ _ _ _ us hl=>by obtain⟨_,rfl⟩:=jx hl;rfl
 have WW:=PySem.W.mg_of X G ZQ
 obtain⟨ZP,Xe,R1,TB⟩:=Rx
 have Vt:=bR (st:=g0) Xe R1 TB
 have Zn:=Vt.binds (ps:=["_law_script","_law_most","_law_bound"]) fun _ _ _ _ _ _ us hl=>by obtain⟨_,_,_,rfl⟩:=HR hl;rfl
 have WV:=PySem.W.mg_of X G ZP
 obtain⟨ZO,Xd,R0,Tz⟩:=Rw
 have Vs:=bR (st:=fk) Xd R0 Tz
 have Zm:=Vs.binds (ps:=["_law_many"]) fun _ _ _ _ _ _ us hl=>by obtain⟨_,rfl⟩:=jx hl;rfl
 have WU:=PySem.W.mg_of X G ZO
 have Vr:=bR (st:=mS) Pt Ja PD
 have b37:=Vr.binds (ps:=["_law_script"]) fun _ _ _ _ _ _ us hl=>by obtain⟨_,rfl⟩:=jx hl;rfl
 have m37:=PySem.W.mg_of X G NW
 refine⟨PySem.W.fnOf "law" "law" (cz mS) (bX mS) (aw mS) .none Lf Ml Kx Ms I9 Mo,fun s v=> .of_eq rfl,fun base KB _ BB=>?_⟩
 have Go:∀base,GF l.prog w K mg base bK 1 "is_outer" ["part","forms"] eZ:=fun base=>⟨_,_,vp F1,m1,k1,b1⟩
 have Gw:∀base,GB l.prog w K mg base bK 2 "walk" ["term","around","inward"] (tK 1 l.prog w K mg):=fun base cw _=>⟨_,_,Et F2,m2,k2,b2⟩
 have Gp:∀base,fC base mg->GF l.prog w K mg base bK 3 "parts_of" ["term"] (qD [(T0,bz aM,aR),(T1,bz aP,aX),(T2,bA aB,bL),(T3,bA aI,cQ)]):=fun base BB=>⟨_,_,vo F3 Q5 BB xO YF (Gw base),m3,k3,b3⟩
 have Gb1:∀base,GB l.prog w K mg base bK 3 "built" ["found","leaf","over"] (mM [(T0,bz aM,aR),(T1,bz aP,aX),(T2,bA aB,bL),(T3,bA aI,cQ)] 2 l.prog w K mg):=fun base cw _=>⟨_,_,vq F4 N_,m4,k4,b4⟩
 have Gb6:∀base,GB l.prog w K mg base bK 8 "built" ["found","leaf","over"] (mM [(T0,bz aM,aR),(T1,bz aP,aX),(T2,bA aB,bL),(T3,bA aI,cQ)] 7 l.prog w K mg):=fun base cw _=>⟨_,_,vq F4 N_,m4,k4,b4⟩
 have Gr1:∀base,fC base mg->GB l.prog w K mg base bK 4 "rebuilt" ["term","change"] (gD [(T0,bz aM,aR),(T1,bz aP,aX),(T2,bA aB,bL),(T3,bA aI,cQ)] 2 l.prog w K mg):=fun base BB cw kb=>⟨_,_,qS (kf:=1) (by decide) F5 NS (BB.mono kb) xO DL (Gp cw (BB.mono kb)) (Gb1 cw),m5,k5,b5⟩
 have Gr6:∀base,fC base mg->GB l.prog w K mg base bK 9 "rebuilt" ["term","change"] (gD [(T0,bz aM,aR),(T1,bz aP,aX),(T2,bA aB,bL),(T3,bA aI,cQ)] 7 l.prog w K mg):=fun base BB cw kb=>⟨_,_,qS (kf:=6) (by decide) F5 NS (BB.mono kb) xO DL (Gp cw (BB.mono kb)) (Gb6 cw),m5,k5,b5⟩
 have Gl:∀base,fC base mg->GF l.prog w K mg base bK 5 "lifted" ["term","by"] (oy [(T0,bz aM,aR),(T1,bz aP,aX),(T2,bA aB,bL),(T3,bA aI,cQ)]):=fun base BB=>⟨_,_,zT F6 L9 BB xO IL Go (Gr1 base BB),m6,k6,b6⟩
 have Gby:∀base,fC base mg->GM l.prog w K mg base bK 6 C "by" ["self","forms"] (yj [(T0,bz aM,aR),(T1,bz aP,aX),(T2,bA aB,bL),(T3,bA aI,cQ)] C):=fun base BB=>⟨_,_,KL F8 R (Gl base BB),⟨Bl,Bk,k8⟩,b8⟩
 have Gk:GK l.prog w K mg base bK 1 C "Raised" ["self","term"] (tO C):=⟨_,_,Ey F7 R,⟨yM,yI,N4,yK⟩,PySem.W.mg_of X G yC,b7⟩
 have Gf:GF l.prog w K mg base bK 10 "filled" ["body","term"] (oz [(T0,bz aM,aR),(T1,bz aP,aX),(T2,bA aB,bL),(T3,bA aI,cQ)]):=⟨_,_,zU F9 Q4 BB xO IK R.cl Go Gk (fun cw kb=>Gby cw (BB.mono kb)) (Gr6 base BB),m9,k9,b9⟩
 have o5:GF l.prog w K mg base bK 1 "is_spot" ["part"] lZ:=⟨_,_,xm VT,Xa,iX,ZN⟩
 have lC:GK l.prog w K mg base bK 1 C2 "Stand" ["self","term"] (mL C2 hA):=⟨_,_,B9 VR R2,⟨N1,N5,GR,N3⟩,PySem.W.mg_of X G N6,ZL⟩
 have fR:GM l.prog w K mg base bK 1 C2 "leads_on" ["self","turn"] (qE C2 hA):=⟨_,_,Ca VQ R2,⟨jg,jf,Ub⟩,ZK⟩
 have cY:GM l.prog w K mg base bK 1 C2 "go_down" ["self","turn"] (pV C2 hA):=⟨_,_,EB VP R2 hH,⟨j5,jY,Ua⟩,ZJ⟩
 have cG:GM l.prog w K mg base bK 1 C2 "go_up" ["self"] (vc C2 hA):=⟨_,_,KH VO R2 hH,⟨om,oi,T9⟩,ZI⟩
 have fA:GM l.prog w K mg base bK 2 C2 "go_to_top" ["self"] (wW C2 hA):=⟨_,_,Hx VN R2 cG,⟨il,ig,T8⟩,ZH⟩
 have cL:GM l.prog w K mg base bK 1 C2 "is_called" ["self"] (kL C2 hA):=⟨_,_,zW VM N_ R2 hH,⟨ik,ie,T7⟩,ZG⟩
 have gk:GM l.prog w K mg base bK 11 C2 "do_step" ["self"] (Bu [(T0,bz aM,aR),(T1,bz aP,aX),(T2,bA aB,bL),(T3,bA aI,cQ)] C2 hA):=⟨_,_,KJ VI R2 Gf cL cG,⟨j6,jZ,T4⟩,ZD⟩
 have iH:GM l.prog w K mg base bK 2 C2 "go_on" ["self"] (Bs C2 hA):=⟨_,_,KI VL R2 cL cG cY,⟨oo,oj,T6⟩,ZF⟩
 have fB:GM l.prog w K mg base bK 3 C2 "find_spot" ["self"] (tP C2 hA):=⟨_,_,Ez VJ R2 o5 fR cY iH,⟨ip,ij,T5⟩,ZE⟩
 have gW:GM l.prog w K mg base bK 3 C2 "copied" ["self"] (oA C2 hA):=⟨_,_,zV VH N_ R2 lC,⟨lV,lR,TZ⟩,ZC⟩
 have uP:GF l.prog w K mg base bK 1 "same" ["one","other"] (tL hA):=⟨_,_,Eu VS N_ hH,W9,Uc,ZM⟩
 have gj:GM l.prog w K mg base bK 2 C2 "same_as" ["self","other"] (Bv C2 hA):=⟨_,_,KN VG N_ R2 uP,⟨j0,jX,TY⟩,ZA⟩
 have DB:GF l.prog w K mg base bK 12 "led" ["term","fuel"] (tN [(T0,bz aM,aR),(T1,bz aP,aX),(T2,bA aB,bL),(T3,bA aI,cQ)]):=⟨_,_,Ex VF N_ R2 lC fB gj fA gW gk,W8,TX,Zz⟩
 have eh:GF l.prog w K mg base bK 1 "_law_whole" ["_law_found"] mK:=⟨_,_,r0 VE N_,W7,TV,Zy⟩
 have fQ:GF l.prog w K mg base bK 1 "_law_any" ["_law_cell"] tQ:=⟨_,_,vw VD,W6,TU,Zx⟩
 have gh:GF l.prog w K mg base bK 1 "_law_any_word" ["_law_cell"] kh:=⟨_,_,oR VC N_,W5,TR,Zw⟩
 have jH:GF l.prog w K mg base bK 2 "_law_grown" ["_law_cells"] (qF K):=⟨_,_,r8 VB N_ fQ gh,W4,TQ,Zv⟩
 have fP:GF l.prog w K mg base bK 1 "_law_at" ["_law_script","_law_k"] (wY K):=⟨_,_,xn VA N_,W3,TN,Zu⟩
 have fZ:GF l.prog w K mg base bK 1 "_law_room" ["_law_script","_law_most","_law_bound"] (tM K):=⟨_,_,tZ Vt N_,WV,TB,Zn⟩
 have cO:GF l.prog w K mg base bK 1 "_law_parts" ["_law_term"] iQ:=⟨_,_,r6 Vz N_,W2,TM,Zt⟩
 have iG:GF l.prog w K mg base bK 2 "_law_raised" ["_law_term","_law_by"] lY:=⟨_,_,qT Vy cO,W0,TK,Zs⟩
 have gS:GF l.prog w K mg base bK 3 "_law_stuffed" ["_law_body","_law_given"] ke:=⟨_,_,pz Vx cO iG,WZ,TJ,Zr⟩
 have gT:GF l.prog w K mg base bK 2 "_law_is_term" ["_law_found"] kg:=⟨_,_,pA Vu N_ eh,WW,TC,Zo⟩
 have bI:GF l.prog w K mg base bK 2 "_law_calls_of_forms" ["_law_term"] qG:=⟨_,_,js Vv N_,WX,TF,Zp⟩
 have fz:GF l.prog w K mg base bK 4 "_law_stepped" ["_law_term","_law_path"] lX:=⟨_,_,xl Vw N_ gS,WY,TH,Zq⟩
 have gU:GF l.prog w K mg base bK 1 "_law_doubled" ["_law_many"] wZ:=⟨_,_,HA Vs N_,WU,Tz,Zm⟩
 exact Hy Vr N_ jH fZ fP fQ eh gU bI cO fz DB gT
end NC
open PySem PySem.W PyProof.Rows
set_option maxRecDepth 100000 in
set_option maxHeartbeats 0 in
theorem PySem.Challenge.cw_namecall_k14_whole_one_end_holds : PySem.Challenge.rw_namecall_k14_whole_one_end.Holds := by
 w_on;o_law;k_head;(case hw=>w_witness2)
 k_fill
 refine NC.GS (l:=PySem.Challenge.rw_namecall_k14_whole_one_end) (k:=13) (tabs:=[(34,30),(55,51),(62,58),(97,93)]) (sp:=NC.wX [(30,NC.bz NC.aM,NC.aR),(51,NC.bz NC.aP,NC.aX),(58,NC.bA NC.aB,NC.bL),(93,NC.bA NC.aI,NC.cQ)]) (x:="_law_script") rfl rfl ⟨rfl,by decide,by decide⟩ (fun w h Y=>PySem.W.km_in_of Y) ?Y ?T1 ?T2 ?F ?S
 case Y=>exact fun w h Y=>List.forall_mem_cons.mpr ⟨PySem.W.km_tabs_of Y 30 (by k_mem),List.forall_mem_cons.mpr ⟨PySem.W.km_tabs_of Y 51 (by k_mem),List.forall_mem_cons.mpr ⟨PySem.W.km_tabs_of Y 58 (by k_mem),List.forall_mem_cons.mpr ⟨PySem.W.km_tabs_of Y 93 (by k_mem),fun _ h=>nomatch h⟩⟩⟩⟩
 case T1=>exact fun P=>List.forall_mem_cons.mpr ⟨by kernel_rfl,List.forall_mem_cons.mpr ⟨by kernel_rfl,List.forall_mem_cons.mpr ⟨by kernel_rfl,List.forall_mem_cons.mpr ⟨by kernel_rfl,fun _ h=>nomatch h⟩⟩⟩⟩
 case T2=>exact fun P=>List.forall_mem_cons.mpr ⟨by kernel_rfl,List.forall_mem_cons.mpr ⟨by kernel_rfl,List.forall_mem_cons.mpr ⟨by kernel_rfl,List.forall_mem_cons.mpr ⟨by kernel_rfl,fun _ h=>nomatch h⟩⟩⟩⟩
 case S=>exact fun K H a ns hl hH hS=>⟨a,ns,rfl,hS,hl,List.forall_mem_cons.mpr ⟨.inl (hH _ (.head _)),List.forall_mem_cons.mpr ⟨.inl (hH _ (.tail _ (.head _))),List.forall_mem_cons.mpr ⟨.inl (hH _ (.tail _ (.tail _ (.head _)))),List.forall_mem_cons.mpr ⟨.inl (hH _ (.tail _ (.tail _ (.tail _ (.head _))))),fun _ h=>nomatch h⟩⟩⟩⟩,fun _=>rfl⟩
 case F=>
  intro w mg fa h KX G LJ
  refine' NC.all_mk 30 51 58 93 KX G LJ ?a3 ?a5 ?a6 ?a9 ?NW ?yC ?yM ?yI ?N4 ?yK ?y1 ?y2 ?y3 ?y4 ?Bl ?Bk ?tq ?qp ?N6 ?N1 ?N5 ?GR ?N3 ?Oa ?N9 ?N8 ?N7 ?jg ?jf ?j5 ?jY ?om ?oi ?il ?ig ?ik ?ie ?oo ?oj ?ip ?ij ?j6 ?jZ ?lV ?lR ?j0 ?jX ?qq ?oh ?eH ?Rt ?d1 ?d2 ?l3 ?NV ?k3 ?d4 ?l5 ?RZ ?k5 ?l6 ?RY ?k6 ?d7 ?d8 ?l9 ?RX ?k9 ?RW ?RV ?RU ?RT ?RS ?RR ?RQ ?RP ?RO ?RN ?RM ?RL ?RK ?RJ ?RI ?RH ?RG ?RF ?RE ?RD ?RC ?RB ?RA ?Rz ?Ry ?Rx ?Rw ?Pt ?Ja ?PD ?z0 ?z1 ?z2 ?z3 ?z4 ?z5 ?z6 ?z7 ?z8 ?z9 ?NZ ?NY ?NX ?Q5 ?NS ?L9 ?Q4 (by decide)
  (case a3=>k_is);(case a5=>k_is);(case a6=>k_is);(case a9=>k_is);(case NW=>k_is);(case yC=>k_is);(case yM=>k_is);(case yI=>k_is)
  (case N4=>k_is);(case yK=>k_is);(case y1=>k_is);(case y2=>k_is);(case y3=>k_is);(case y4=>k_is);(case Bl=>k_is);(case Bk=>k_is)
  (case tq=>k_is);(case qp=>k_is);(case N6=>k_is);(case N1=>k_is);(case N5=>k_is);(case GR=>k_is);(case N3=>k_is);(case Oa=>k_is)
  (case N9=>k_is);(case N8=>k_is);(case N7=>k_is);(case jg=>k_is);(case jf=>k_is);(case j5=>k_is);(case jY=>k_is);(case om=>k_is)
  (case oi=>k_is);(case il=>k_is);(case ig=>k_is);(case ik=>k_is);(case ie=>k_is);(case oo=>k_is);(case oj=>k_is);(case ip=>k_is)
  (case ij=>k_is);(case j6=>k_is);(case jZ=>k_is);(case lV=>k_is);(case lR=>k_is);(case j0=>k_is);(case jX=>k_is);(case qq=>k_is)
  (case oh=>k_is);(case eH=>k_is);(case Rt=>k_is);(case d1=>constructor;k_is;k_is;k_is;k_is);(case d2=>constructor;k_is;k_is;k_is;k_is);(case l3=>k_is);(case NV=>k_is);(case k3=>k_is)
  (case d4=>constructor;k_is;k_is;k_is;k_is);(case l5=>k_is);(case RZ=>k_is);(case k5=>k_is);(case l6=>k_is);(case RY=>k_is);(case k6=>k_is);(case d7=>constructor;k_is;k_is;k_is)
  (case d8=>constructor;k_is;k_is;k_is);(case l9=>k_is);(case RX=>k_is);(case k9=>k_is);(case RW=>constructor;k_is;k_is;k_is;k_is);(case RV=>constructor;k_is;k_is;k_is;k_is);(case RU=>constructor;k_is;k_is;k_is);(case RT=>constructor;k_is;k_is;k_is)
  (case RS=>constructor;k_is;k_is;k_is);(case RR=>constructor;k_is;k_is;k_is);(case RQ=>constructor;k_is;k_is;k_is);(case RP=>constructor;k_is;k_is;k_is);(case RO=>constructor;k_is;k_is;k_is);(case RN=>constructor;k_is;k_is;k_is);(case RM=>constructor;k_is;k_is;k_is);(case RL=>constructor;k_is;k_is;k_is)
  (case RK=>constructor;k_is;k_is;k_is);(case RJ=>constructor;k_is;k_is;k_is;k_is);(case RI=>constructor;k_is;k_is;k_is;k_is);(case RH=>constructor;k_is;k_is;k_is;k_is);(case RG=>constructor;k_is;k_is;k_is;k_is);(case RF=>constructor;k_is;k_is;k_is;k_is);(case RE=>constructor;k_is;k_is;k_is;k_is);(case RD=>constructor;k_is;k_is;k_is;k_is)
  (case RC=>constructor;k_is;k_is;k_is;k_is);(case RB=>constructor;k_is;k_is;k_is;k_is);(case RA=>constructor;k_is;k_is;k_is;k_is);(case Rz=>constructor;k_is;k_is;k_is;k_is);(case Ry=>constructor;k_is;k_is;k_is;k_is);(case Rx=>constructor;k_is;k_is;k_is;k_is);(case Rw=>constructor;k_is;k_is;k_is;k_is);(case Pt=>k_is)
  (case Ja=>k_is);(case PD=>k_is);(case z0=>k_is);(case z1=>k_is);(case z2=>k_is);(case z3=>k_is);(case z4=>k_is);(case z5=>k_is)
  (case z6=>k_is);(case z7=>k_is);(case z8=>k_is);(case z9=>k_is);(case NZ=>k_is);(case NY=>k_is);(case NX=>k_is)
  (case Q5=>kernel_rfl);(case NS=>kernel_rfl);(case L9=>kernel_rfl);(case Q4=>kernel_rfl)
