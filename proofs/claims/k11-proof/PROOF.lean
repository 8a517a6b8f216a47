import PyProof.Rows.All
import Wide.All
import OpenK.AllK
import Wide.FinOn
import PyProof.EqAt
import PyProof.EqKinds
import PyProof.TupleCall
import PyProof.TupleKey
import KE.KSortTup
import Lean
import PySem.Challenge.RW_pursehall_k11_whole_least_purse
set_option Elab.async false
set_option maxRecDepth 100000
set_option maxHeartbeats 8000000
set_option linter.all false
set_option exponentiation.threshold 500
abbrev FG := PySem.W.Frag
abbrev LQ := List (Int × Int)
abbrev LI := List (List Int)
abbrev Y9 := PySem.Value → PySem.Shared → Prop
abbrev Y8 := List (PySem.Addr × PySem.Obj)
abbrev Y7 := List (List Int × PySem.Addr)
abbrev Y6 := PySem.Str → Option PySem.Value
abbrev Y5 := List (List PySem.Addr)
abbrev Y4 := List (Option Nat)
abbrev Y3 := Array (Int × PySem.Value)
abbrev Y2 := List PySem.Addr
abbrev Y1 := List PySem.Value
abbrev Y0 := List Int
abbrev T0 := List Nat
section
namespace L2
open PySem PySem.Spec PyProof.Rows
abbrev Key := Sum Int Str
def aIz : Key → Value → Bool
 | .inl k, v => Value.isInt k v
 | .inr x, v => Value.isStrOf x v
def aRe (w : World) : Key → Int
 | .inl k => hashInt k
 | .inr x => hashStr w x
theorem cV : ∀ {k : Key} {v : Value}, aIz k v = true → (∃ i t, k = Sum.inl i ∧ v = Value.int i t) ∨ (∃ x t, k = Sum.inr x ∧ v = Value.str x t)
 | .inl i, v, h => by
  obtain ⟨t, e⟩ := Value.isInt_shape (k := i) (v := v) h
  exact .inl ⟨i, t, rfl, e⟩
 | .inr x, v, h => by
  obtain ⟨t, e⟩ := Value.isStrOf_shape (x := x) (v := v) h
  exact .inr ⟨x, t, rfl, e⟩
theorem aKu (a b : Int) : decide ((Sum.inl a : Key) = Sum.inl b) = (a == b) := by
 by_cases e : a = b
 ·subst e; simp
 ·have h : ¬ (Sum.inl a : Key) = Sum.inl b := fun q => e (Sum.inl.inj q)
  rw [decide_eq_false h]
  exact (beq_eq_false_iff_ne.mpr e).symm
theorem aKl (a b : Str) : decide ((Sum.inr a : Key) = Sum.inr b) = decide (a = b) := by
 by_cases e : a = b
 ·subst e; simp
 ·have h : ¬ (Sum.inr a : Key) = Sum.inr b := fun q => e (Sum.inr.inj q)
  rw [decide_eq_false h, decide_eq_false e]
theorem aK1 (a : Int) (b : Str) : decide ((Sum.inl a : Key) = Sum.inr b) = false := decide_eq_false (fun q => nomatch q)
theorem aK0 (a : Str) (b : Int) : decide ((Sum.inr a : Key) = Sum.inl b) = false := decide_eq_false (fun q => nomatch q)
def vG (prog : Program) (w : World) : PySem.KeyKind prog w Key where
 is := aIz
 hash := aRe w
 inj := fun v a b ha hb => by
  rcases cV ha with ⟨i, t, rfl, rfl⟩ | ⟨x, t, rfl, rfl⟩
  ·rcases cV hb with ⟨j, u, rfl, e⟩ | ⟨y, u, rfl, e⟩
   ·injection e with e1 _; rw [e1]
   ·exact nomatch e
  ·rcases cV hb with ⟨j, u, rfl, e⟩ | ⟨y, u, rfl, e⟩
   ·exact nomatch e
   ·injection e with e1 _; rw [e1]
 byValue := fun k v h => by
  rcases cV h with ⟨i, t, rfl, rfl⟩ | ⟨x, t, rfl, rfl⟩ <;> rfl
 pyHash := fun hv h => by
  rcases cV hv with ⟨i, t, rfl, rfl⟩ | ⟨x, t, rfl, rfl⟩
  ·exact wpAny_pyHash_int h
  ·exact wpAny_pyHash_str h
 eqBool := fun hu hv h => by
  rcases cV hu with ⟨i, t, rfl, rfl⟩ | ⟨x, t, rfl, rfl⟩
  ·rcases cV hv with ⟨j, u, rfl, rfl⟩ | ⟨y, u, rfl, rfl⟩
   ·rw [aKu] at h; exact wpAny_eqBool_int h
   ·rw [aK1] at h; exact SeqAt.EqAt.int_str i t y u _ _ _ _ h
  ·rcases cV hv with ⟨j, u, rfl, rfl⟩ | ⟨y, u, rfl, rfl⟩
   ·rw [aK0] at h; exact SeqAt.EqAt.str_int x t j u _ _ _ _ h
   ·rw [aKl] at h; exact wpAny_eqBool_str h
 «strs» := fun k x t v h => by
  rcases cV h with ⟨i, u, rfl, e⟩ | ⟨y, u, rfl, e⟩
  ·exact nomatch e
  ·injection e with e1 _
   subst e1
   cases v <;> rfl
end L2
namespace L2
open PySem PySem.Spec PyProof.Rows
inductive V where
 | non | bl (b : Bool) | int (i : Int) | str (x : Str) | byt (b : Array UInt8) | flt (b : UInt64) | ref (a : Addr) | ty (n : String)
 deriving DecidableEq
def RelV : V → Value → Prop
 | .non, u => u = Value.none
 | .bl b, u => u = Value.bool b
 | .int i, u => ∃ t, u = Value.int i t
 | .str x, u => ∃ t, u = Value.str x t
 | .byt b, u => ∃ t, u = Value.bytes b t
 | .flt b, u => ∃ t, u = Value.float b t
 | .ref a, u => u = Value.ref a
 | .ty n, u => u = Value.type n
abbrev Vals : List V → Y1 → Prop := Paired RelV
theorem Vals.length {xs : List V} {us : Y1} (r : Vals xs us) : xs.length = us.length := Paired.length r
theorem Vals.get : ∀ {xs : List V} {us : Y1} {i : Nat} {x : V}, Vals xs us → xs[i]? = some x → ∃ u, us[i]? = some u ∧ RelV x u
 | _, _, _, _, .nil, e => by simp at e
 | _, _, 0, _, .cons r _, e => by simp at e; subst e; exact ⟨_, rfl, r⟩
 | _, _, i + 1, x, .cons _ t, e => by
  obtain ⟨u, h1, h2⟩ := Vals.get (i := i) (x := x) t (by simpa using e)
  exact ⟨u, by simpa using h1, h2⟩
theorem Vals.set {x : V} {u : Value} (r : RelV x u) : ∀ {xs : List V} {us : Y1} (i : Nat), Vals xs us → Vals (xs.set i x) (us.set i u)
 | _, _, _, .nil => .nil
 | _, _, 0, .cons _ t => .cons r t
 | _, _, i + 1, .cons q t => .cons q (Vals.set r i t)
theorem Vals.append : ∀ {xs ys : List V} {us ws : Y1}, Vals xs us → Vals ys ws → Vals (xs ++ ys) (us ++ ws)
 | _, _, _, _, .nil, s => s
 | _, _, _, _, .cons r t, s => .cons r (Vals.append t s)
def aKd : Option V → Option Value → Prop
 | some v, some u => RelV v u
 | none, none => True
 | _, _ => False
def KV {κ : Type} : List (κ × V) → List (κ × Value) → Prop := Paired fun (p : κ × V) (q : κ × Value) => p.1 = q.1 ∧ RelV p.2 q.2
def kV : Key → V
 | .inl i => .int i
 | .inr x => .str x
inductive HO where
 | lst (xs : List V)
 | tup (xs : List V)
 | dK (kvs : List (Key × V)) | dT (kvs : List (List Key × V))
 | set (S : Int → Bool) (n : Nat)
 | ins (C dx : Addr) (fs : List (Str × V))
 | own (x : Addr)
 | xd (fs : List (Str × V))
 | met (f x : Addr)
 | rng (lo hi : Int)
 | frz (o : Obj) (u : HO)
 | tbl (ps : Array Value)
 | ext (φ : Heap → Prop)
abbrev Hp := Addr → Option HO
def upd (H : Hp) (a : Addr) (o : HO) : Hp := fun b => if b = a then some o else H b
theorem cD {H : Hp} {a : Addr} {o : HO} : upd H a o a = some o := by unfold upd; rw [if_pos rfl]
theorem bB {H : Hp} {a b : Addr} {o : HO} (h : b ≠ a) : upd H a o b = H b := by unfold upd; rw [if_neg h]
theorem bG {H : Hp} {a b : Addr} {o : HO} (h : H a = some o) (h' : H b = none) : a ≠ b := by
 intro e; subst e; rw [h] at h'; cases h'
section
variable (P : Program) (w : World)
def eG (H : Hp) (h : Heap) (a : Addr) : HO → Prop
 | .lst xs => xs.length ≤ sizeLine ∧ ∃ (its : Y1) (n : Nat), Vals xs its ∧ h.get? a = some { cls := .type "list", data := .seq its.toArray n }
 | .tup xs => xs.length ≤ sizeLine ∧ ∃ its : Y1, Vals xs its ∧ IsTup h a its.toArray
 | .dK kvs => kvs.length ≤ sizeLine ∧ (a == sysModules) = false ∧ ∃ vs, KV kvs vs ∧ h.DictOf (vG P w) a vs
 | .dT kvs => kvs.length ≤ sizeLine ∧ (a == sysModules) = false ∧ ∃ xs : List (List Key × Addr × Value),
   Paired (fun (p : List Key × V) (q : List Key × Addr × Value) => p.1 = q.1 ∧ H q.2.1 = some (.tup (p.1.map kV)) ∧ RelV p.2 q.2.2) kvs xs ∧
   ∃ o es ep, h.get? a = some o ∧ o.ExactDict ∧ o.data = .dict es ep ∧ es.toList = xs.map (entryOfKey (tupleKind (vG P w))) ∧ (xs.map (·.1)).Nodup
 | .set S n => h.SetOf (intKind P w) a S n
 | .ins C dx fs => H dx = some (.own a) ∧ fs.length ≤ 1000 ∧ dx ≠ a ∧ h.get? a = some (PySem.W.instObj C dx) ∧
   ∃ mA, h.Ns1 dx mA ∧ (∀ f, aKd (fs.lookup f) (mA f)) ∧ PySem.Within mA (fs.map (·.1))
 | .own _ => ∃ o, h.get? a = some o
 | .xd fs => ∃ mA, h.Ns1 a mA ∧ ∀ f, aKd (fs.lookup f) (mA f)
 | .rng lo hi => ∃ t u v, h.get? a = some { cls := .type "range", data := .fields #[.int lo t, .int hi u, .int 1 v] }
 | .frz o u => h.get? a = some o ∧ eG H h a u
 | .tbl ps => h.get? a = some { cls := .none, data := .fields ps }
 | .met f x => h.get? a = some (PySem.W.methodObj (.ref f) (.ref x))
 | .ext φ => φ h ∧ (∃ o, h.get? a = some o) ∧ ∀ h1 h2 : Heap, φ h1 → (∀ o, h1.get? a = some o → h2.get? a = some o) → φ h2
def HOk (H : Hp) (h : Heap) : Prop := ∀ a o, H a = some o → eG P w H h a o
end
section
variable {P : Program} {w : World} {H H' : Hp} {h h' : Heap} {a : Addr} {o : HO}
theorem eG.lt (x : eG P w H h a o) : a < h.objs.size := by
 cases o with
 | lst xs => obtain ⟨_, _, _, _, e⟩ := x; exact Heap.lt_size e
 | tup xs => obtain ⟨_, _, _, p⟩ := x; exact p.lt
 | dK kvs => obtain ⟨_, _, _, _, o, _, _, e, _⟩ := x; exact Heap.lt_size e
 | dT kvs => obtain ⟨_, _, _, _, o, _, _, e, _⟩ := x; exact Heap.lt_size e
 | set S n => obtain ⟨o, _, _, _, e, _⟩ := x; exact Heap.lt_size e
 | ins C dx fs => obtain ⟨_, _, _, e, _⟩ := x; exact Heap.lt_size e
 | own y => obtain ⟨_, e⟩ := x; exact Heap.lt_size e
 | xd fs => obtain ⟨_, ⟨_, _, _, e, _⟩, _⟩ := x; exact Heap.lt_size e
 | rng lo hi => obtain ⟨_, _, _, e⟩ := x; exact Heap.lt_size e
 | frz ob u => obtain ⟨e, _⟩ := x; exact Heap.lt_size e
 | tbl ps => exact Heap.lt_size (show h.get? a = some _ from x)
 | met f y => exact Heap.lt_size (show h.get? a = some _ from x)
 | ext φ => obtain ⟨_, ⟨_, e⟩, _⟩ := x; exact Heap.lt_size e
theorem Paired.aO3 {α β : Type} {F G : α → β → Prop} : ∀ {l₁ : List α} {l₂ : List β}, Paired F l₁ l₂ → (∀ a b, F a b → G a b) → Paired G l₁ l₂
 | _, _, .nil, _ => .nil
 | _, _, .cons r t, f => .cons (f _ _ r) (Paired.aO3 t f)
theorem eG.stay (x : eG P w H h a o) (k : ∀ b u, (b = a ∨ H b = some (.own a)) → h.get? b = some u → h'.get? b = some u)
  (ho : ∀ b, H b = some (.own a) → H' b = some (.own a)) (ht : ∀ b xs, H b = some (.tup xs) → H' b = some (.tup xs)) : eG P w H' h' a o := by
 induction o with
 | lst xs => obtain ⟨z, its, n, r, e⟩ := x; exact ⟨z, its, n, r, k _ _ (.inl rfl) e⟩
 | tup xs => obtain ⟨z, its, r, ob, e, c⟩ := x; exact ⟨z, its, r, ob, k _ _ (.inl rfl) e, c⟩
 | dK kvs => obtain ⟨z, y, vs, r, ob, es, ep, e, c⟩ := x; exact ⟨z, y, vs, r, ob, es, ep, k _ _ (.inl rfl) e, c⟩
 | dT kvs =>
  obtain ⟨z, y, xs, r, ob, es, ep, e, c⟩ := x
  exact ⟨z, y, xs, Paired.aO3 r fun p q z => ⟨z.1, ht _ _ z.2.1, z.2.2⟩, ob, es, ep, k _ _ (.inl rfl) e, c⟩
 | set S n => obtain ⟨ob, es, ep, t, e, c⟩ := x; exact ⟨ob, es, ep, t, k _ _ (.inl rfl) e, c⟩
 | ins C dx fs =>
  obtain ⟨d, z, ne, e, mA, ⟨od, es, ep, e2, c⟩, r⟩ := x
  exact ⟨ho _ d, z, ne, k _ _ (.inl rfl) e, mA, ⟨od, es, ep, k _ _ (.inr d) e2, c⟩, r⟩
 | own y => obtain ⟨ob, e⟩ := x; exact ⟨ob, k _ _ (.inl rfl) e⟩
 | xd fs => obtain ⟨mA, ⟨od, es, ep, e, c⟩, r⟩ := x; exact ⟨mA, ⟨od, es, ep, k _ _ (.inl rfl) e, c⟩, r⟩
 | rng lo hi => obtain ⟨t, u, v, e⟩ := x; exact ⟨t, u, v, k _ _ (.inl rfl) e⟩
 | frz ob u ih => obtain ⟨e, q⟩ := x; exact ⟨k _ _ (.inl rfl) e, ih q⟩
 | tbl ps =>
  have e : h.get? a = some { cls := .none, data := .fields ps } := x
  show h'.get? a = some { cls := .none, data := .fields ps }
  exact k a _ (.inl rfl) e
 | met f y =>
  have e : h.get? a = some (PySem.W.methodObj (.ref f) (.ref y)) := x
  show h'.get? a = some (PySem.W.methodObj (.ref f) (.ref y))
  exact k a _ (.inl rfl) e
 | ext φ => obtain ⟨p, ⟨o, e⟩, st⟩ := x; exact ⟨st _ _ p fun o q => k _ _ (.inl rfl) q, ⟨o, k _ _ (.inl rfl) e⟩, st⟩
theorem HOk.lt (x : HOk P w H h) (e : H a = some o) : a < h.objs.size := (x a o e).lt
theorem HOk.fresh (x : HOk P w H h) (e : h.objs.size ≤ a) : H a = none := by
 cases q : H a with
 | none => rfl
 | some u => exact absurd (Nat.lt_of_lt_of_le (x.lt q) e) (Nat.lt_irrefl _)
theorem HOk.kept (x : HOk P w H h) (k : ∀ b u, h.get? b = some u → h'.get? b = some u) : HOk P w H h' := fun a o e =>
 (x a o e).stay (fun b u _ q => k b u q) (fun _ q => q) fun _ _ q => q
theorem HOk.laid (x : HOk P w H h) (k : ∀ b u, h.get? b = some u → h'.get? b = some u) (hp : h.objs.size ≤ a) (new : eG P w (upd H a o) h' a o) : HOk P w (upd H a o) h' := fun b u e => by
 have hn := x.fresh hp
 by_cases hb : b = a
 ·subst hb; rw [cD] at e; cases e; exact new
 ·rw [bB hb] at e
  exact (x b u e).stay (fun c v _ q => k c v q) (fun c q => by rw [bB (bG q hn)]; exact q) fun c xs q => by rw [bB (bG q hn)]; exact q
end
def Rd (H : Hp) (a : Addr) (u : HO) : Prop := H a = some u ∨ ∃ o, H a = some (.frz o u)
theorem Rd.ok {P : Program} {w : World} {H : Hp} {h : Heap} {a : Addr} {u : HO} (r : Rd H a u) (x : HOk P w H h) : eG P w H h a u := by
 rcases r with r | ⟨o, r⟩
 ·exact x a u r
 ·obtain ⟨_, q⟩ := x a _ r
  exact q
def Mut : Option HO → Prop
 | some (.lst _) => True
 | some (.dK _) => True
 | some (.dT _) => True
 | some (.set _ _) => True
 | some (.ins _ _ _) => True
 | some (.ext _) => True
 | _ => False
section
variable {P : Program} {w : World} {H : Hp} {h h' : Heap} {x e : Addr} {o' : HO}
theorem HOk.write (ok : HOk P w H h) (mu : Mut (H x)) (he : e = x ∨ H e = some (.own x)) (k : ∀ b u, b ≠ e → h.get? b = some u → h'.get? b = some u) (heo : ∃ u, h'.get? e = some u)
  (new : eG P w (upd H x o') h' x o') : HOk P w (upd H x o') h' := fun b u q => by
 have nown : ∀ c y, H c = some (.own y) → c ≠ x := fun c y r z => by subst z; rw [r] at mu; exact mu
 have ntup : ∀ c xs, H c = some (.tup xs) → c ≠ x := fun c xs r z => by subst z; rw [r] at mu; exact mu
 by_cases hb : b = x
 ·subst hb; rw [cD] at q; cases q; exact new
 ·rw [bB hb] at q
  by_cases hbe : b = e
  ·have q' : H b = some (.own x) := by
    rcases he with z | z
    ·exact absurd (hbe.trans z) hb
    ·rw [hbe]; exact z
   rw [q] at q'; cases q'
   obtain ⟨v, hv⟩ := heo
   exact ⟨v, by rw [hbe]; exact hv⟩
  ·refine (ok b u q).stay (fun c v hc r => k c v ?_ r) (fun c r => by rw [bB (nown c b r)]; exact r) fun c xs r => by rw [bB (ntup c xs r)]; exact r
   rcases hc with rfl | hc
   ·exact hbe
   ·rintro rfl
    rcases he with z | z
    ·exact nown c b hc z
    ·rw [hc] at z; cases z; exact hb rfl
end
structure Un (fs ex : Y2) (H H' : Hp) (h h' : Heap) : Prop where
 keep : ∀ b o, h.get? b = some o → H b = none → b ∉ fs → b ∉ ex → h'.get? b = some o
 slot : ∀ b o, h.get? b = some o → H b = none → b ∈ fs → b ∉ ex → ∃ sl, h'.get? b = some { o with slots := sl }
 free : ∀ b o, h.get? b = some o → H b = none → b ∉ ex → H' b = none
 there : ∀ b o, h.get? b = some o → b ∉ ex → ∃ o', h'.get? b = some o'
 tups : ∀ b xs, H b = some (.tup xs) → H' b = some (.tup xs)
 frzs : ∀ b o u, H b = some (.frz o u) → H' b = some (.frz o u)
 tbls : ∀ b ps, H b = some (.tbl ps) → ∃ more, H' b = some (.tbl (ps ++ more))
section
variable {fs fs' ex ex' : Y2} {H H1 H2 : Hp} {h h1 h2 h' : Heap} {a x e : Addr} {o : HO}
theorem Un.any (u : Un fs ex H H1 h h1) {b : Addr} {ob : Obj} (q : h.get? b = some ob) (n : H b = none) (hx : b ∉ ex) : ∃ sl, h1.get? b = some { ob with slots := sl } := by
 by_cases hb : b ∈ fs
 ·exact u.slot b ob q n hb hx
 ·exact ⟨ob.slots, u.keep b ob q n hb hx⟩
theorem Un.trans (a : Un fs ex H H1 h h1) (b : Un fs ex H1 H2 h1 h2) : Un fs ex H H2 h h2 where
 keep := fun c ob q n hc hx => b.keep c ob (a.keep c ob q n hc hx) (a.free c ob q n hx) hc hx
 slot := fun c ob q n hc hx => by
  obtain ⟨sl, e1⟩ := a.slot c ob q n hc hx
  obtain ⟨sl', e2⟩ := b.slot c _ e1 (a.free c ob q n hx) hc hx
  exact ⟨sl', e2⟩
 free := fun c ob q n hx => by
  obtain ⟨o', e1⟩ := a.there c ob q hx
  exact b.free c o' e1 (a.free c ob q n hx) hx
 there := fun c ob q hx => by
  obtain ⟨o', e1⟩ := a.there c ob q hx
  exact b.there c o' e1 hx
 tups := fun c xs q => b.tups c xs (a.tups c xs q)
 frzs := fun c ob xs q => b.frzs c ob xs (a.frzs c ob xs q)
 tbls := fun c ps q => by
  obtain ⟨m1, e1⟩ := a.tbls c ps q
  obtain ⟨m2, e2⟩ := b.tbls c _ e1
  exact ⟨m1 ++ m2, by rw [e2, Array.append_assoc]⟩
theorem Un.kept (k : ∀ b u, h.get? b = some u → h'.get? b = some u) : Un fs ex H H h h' :=
 ⟨fun b ob q _ _ _ => k b ob q, fun b ob q _ _ _ => ⟨ob.slots, k b ob q⟩, fun _ _ _ n _ => n, fun b ob q _ => ⟨ob, k b ob q⟩, fun _ _ q => q, fun _ _ _ q => q, fun _ ps q => ⟨#[], by rw [q]; simp⟩⟩
theorem Un.refl : Un fs ex H H h h := Un.kept fun _ _ q => q
theorem Un.laid (k : ∀ b u, h.get? b = some u → h'.get? b = some u) (hp : h.objs.size ≤ a) (hn : H a = none) : Un fs ex H (upd H a o) h h' where
 keep := fun b u q _ _ _ => k b u q
 slot := fun b u q _ _ _ => ⟨u.slots, k b u q⟩
 free := fun b u q n _ => by rw [bB (Nat.ne_of_lt (Nat.lt_of_lt_of_le (Heap.lt_size q) hp))]; exact n
 there := fun b u q _ => ⟨u, k b u q⟩
 tups := fun b xs q => by rw [bB (bG q hn)]; exact q
 frzs := fun b u xs q => by rw [bB (bG q hn)]; exact q
 tbls := fun b ps q => ⟨#[], by rw [bB (bG q hn), q]; simp⟩
theorem Un.write (mu : Mut (H x)) (he : e = x ∨ H e = some (.own x)) (k : ∀ b u, b ≠ e → h.get? b = some u → h'.get? b = some u) (heo : ∃ u, h'.get? e = some u) : Un fs ex H (upd H x o) h h' := by
 have hx : ∀ b, H b = none → b ≠ x := fun b n z => by subst z; rw [n] at mu; exact mu
 have hb : ∀ b, H b = none → b ≠ e := fun b n z => by
  subst z
  rcases he with r | r
  ·exact hx b n r
  ·rw [n] at r; cases r
 have hm : ∀ b u, H b = some u → ¬ Mut (some u) → b ≠ x := fun b u q nm z => by subst z; rw [q] at mu; exact nm mu
 refine ⟨fun b u q n _ _ => k b u (hb b n) q, fun b u q n _ _ => ⟨u.slots, k b u (hb b n) q⟩, fun b u q n _ => by rw [bB (hx b n)]; exact n, fun b u q _ => ?_,
  fun b xs q => by rw [bB (hm b _ q fun z => z)]; exact q, fun b u xs q => by rw [bB (hm b _ q fun z => z)]; exact q, fun b ps q => ⟨#[], by rw [bB (hm b _ q fun z => z), q]; simp⟩⟩
 by_cases hbe : b = e
 ·subst hbe; exact heo
 ·exact ⟨u, k b u hbe q⟩
end
def trk (h : Heap) (H : Hp) : Y2 := (List.range h.objs.size).filter fun a => (H a).isSome
def uR (h : Heap) (H : Hp) : Heap := PySem.W.hideAll h (trk h H)
theorem aCe (h : Heap) (H : Hp) : (uR h H).objs.size = h.objs.size := PySem.W.hideAll_size _ _
theorem aD5 {h : Heap} {H : Hp} {b : Addr} {o : Obj} (e : h.get? b = some o) (n : H b = none) : (uR h H).get? b = some o :=
 PySem.W.hideAll_get _ e fun hm => by
  have q : (H b).isSome = true := (List.mem_filter.mp hm).2
  rw [n] at q; simp at q
theorem aF9 {h : Heap} {H : Hp} {b : Addr} {o : Obj} (e : (uR h H).get? b = some o) : h.get? b = some o ∧ H b = none := by
 have e' : h.get? b = some o := PySem.W.of_hideAll (trk h H) e
 refine ⟨e', ?_⟩
 cases q : H b with
 | none => rfl
 | some x =>
  have hm : b ∈ trk h H := List.mem_filter.mpr ⟨List.mem_range.mpr (Heap.lt_size e'), by simp [q]⟩
  have z : (uR h H).get? b = none := PySem.W.hideAll_none (trk h H) hm
  rw [z] at e; cases e
end L2
namespace L2
open PySem PySem.Spec PyProof.Rows
structure Mod (K : FG) (mg : Y6) (base : Heap) : Prop where
 kin : K.In base
 glob : base.Ns mainGlobals mg
 blt : ∃ mb, base.Ns builtinsNs mb ∧ ∀ x : Str, x ≠ "__name__" → mb x = bootBuiltins x
 nolimit : base.NoLimit
structure Cx where
 prog : Program
 w : World
 K : FG
 mg : Str → Option Value
 base : Heap
 A : Around
 N : List Str
 s₀ : Shared
 H₀ : Hp
 env : Env
 outer : List Env
 stack : List Env
 ex : Y2
 fn : Str → Bool
 calm : Bool
 pn : Y8
 xe : Value → Shared → Prop
def frs (l : List Env) : Y2 := l.filterMap (·.frame)
abbrev Cx.fs (X : Cx) : Y2 := frs X.outer
def Vis (sc : Scope) (x : Str) : Prop := sc.names.lookup x = some .local ∨ sc.names.lookup x = some .cell ∨ sc.names.lookup x = some .free
def Loc (sc : Scope) (x : Str) : Prop := sc.names.lookup x = some .local ∨ sc.names.lookup x = some .cell
def Look (env : Env) (h : Heap) (m : Y6) (x : Str) (u : Value) : Prop :=
 (env.kindOf x = some .local ∧ m x = some u) ∨ ((env.kindOf x = some .cell ∨ env.kindOf x = some .free) ∧ ∃ c, env.cells.lookup x = some c ∧ h.IsCell c (some u))
structure Cx.Ok (X : Cx) : Prop where
 mod : Mod X.K X.mg X.base
 kind : X.env.scope.kind = .function
 glob : X.env.globals = mainGlobals
 blt : X.env.builtins = builtinsNs
 above : X.s₀.heap.objs.size ≤ X.env.locals
 inj : ∀ x y c, X.env.cells.lookup x = some c → X.env.cells.lookup y = some c → x = y
 has : ∀ x, (X.env.kindOf x = some .cell ∨ X.env.kindOf x = some .free) → ∃ c, X.env.cells.lookup x = some c
 cab : ∀ x c, X.fn x = true → X.env.cells.lookup x = some c → X.s₀.heap.objs.size ≤ c
 hd : X.calm = true → X.A.handled = none
 frames : X.A.frames = some X.stack
 stk : X.stack = X.outer ∨ (X.stack = X.env :: X.outer ∧ X.env.frame = some X.env.locals)
 exf : ∀ b ∈ X.ex, b ≠ X.env.locals ∧ ∀ x c, X.env.cells.lookup x = some c → c ≠ b
 bs : ∀ b o, X.base.get? b = some o → X.s₀.heap.get? b = some o ∧ X.H₀ b = none
 bsz : X.base.objs.size ≤ X.s₀.heap.objs.size
 noex : ∀ b o, X.base.get? b = some o → b ∉ X.ex
 exfs : ∀ b ∈ X.ex, b ∉ X.fs
 funs : X.s₀.heap.FunFrames X.base X.outer
 frf : ∀ b ∈ X.fs, X.H₀ b = none
structure Inv (X : Cx) (pins : Y8) (σ : List (Option V)) (H : Hp) (s : Shared) : Prop where
 ok : X.Ok
 os : s.os = X.s₀.os
 bare : AllBare s.gens
 base : Un X.fs X.ex X.H₀ H X.s₀.heap s.heap
 loc : ∃ m, s.heap.Ns X.env.locals m ∧ ∀ (i : Nat) (x : Str) (v : V), X.N[i]? = some x → σ[i]? = some (some v) → Vis X.env.scope x → ∃ u, RelV v u ∧ Look X.env s.heap m x u
 cell : ∀ x c, X.env.cells.lookup x = some c → ∃ v, s.heap.IsCell c v
 free : H X.env.locals = none
 freeC : ∀ x c, X.env.cells.lookup x = some c → H c = none
 pin : ∀ p ∈ X.pn ++ pins, s.heap.get? p.1 = some p.2 ∧ H p.1 = none ∧ p.1 ≠ X.env.locals ∧ p.1 ∉ X.fs ∧ ∀ v, p.2.data ≠ .cell v
 hok : HOk X.prog X.w H s.heap
 len : σ.length = X.N.length
section
variable {X : Cx} {pins : Y8} {σ : List (Option V)} {H H' : Hp} {s : Shared} {h' : Heap}
theorem Cx.Ok.aRg (ok : X.Ok) {b : Addr} {o : Obj} (e : X.base.get? b = some o) : b ∉ X.fs := fun hb => by
 have := (ok.funs.mem hb).1
 rw [e] at this; cases this
theorem Inv.bs (I : Inv X pins σ H s) : ∀ b o, X.base.get? b = some o → s.heap.get? b = some o ∧ H b = none := fun b o e =>
 ⟨I.base.keep b o (I.ok.bs b o e).1 (I.ok.bs b o e).2 (I.ok.aRg e) (I.ok.noex b o e), I.base.free b o (I.ok.bs b o e).1 (I.ok.bs b o e).2 (I.ok.noex b o e)⟩
theorem Inv.bk (I : Inv X pins σ H s) : ∀ b o, X.base.get? b = some o → s.heap.get? b = some o := fun b o e => (I.bs b o e).1
theorem Inv.mod (I : Inv X pins σ H s) : Mod X.K X.mg X.base := I.ok.mod
theorem Inv.kIn (I : Inv X pins σ H s) : X.K.In s.heap := I.ok.mod.kin.keeps I.bk
theorem Inv.lt (I : Inv X pins σ H s) : X.env.locals < s.heap.objs.size := let ⟨_, hn, _⟩ := I.loc; hn.lt
theorem Inv.sz (I : Inv X pins σ H s) : X.s₀.heap.objs.size ≤ s.heap.objs.size := Nat.le_trans I.ok.above (Nat.le_of_lt I.lt)
theorem Inv.aRj (I : Inv X pins σ H s) {a : Addr} (h : s.heap.objs.size ≤ a) : a ∉ X.fs := fun hb => by
 obtain ⟨_, o, ho, _⟩ := I.ok.funs.mem hb
 exact absurd (Nat.lt_of_lt_of_le (Heap.lt_size ho) (Nat.le_trans I.sz h)) (Nat.lt_irrefl _)
theorem Inv.cne (I : Inv X pins σ H s) : ∀ x c, X.env.cells.lookup x = some c → c ≠ X.env.locals := fun x c e z => by
 obtain ⟨v, o, ho, hd⟩ := I.cell x c e
 obtain ⟨m, ⟨o', es, ep, ho', hd', _⟩, _⟩ := I.loc
 rw [z, ho'] at ho; cases ho; rw [hd'] at hd; cases hd
theorem Inv.funs (I : Inv X pins σ H s) : s.heap.FunFrames X.base X.outer := by
 have all : ∀ (l : List Env), (∀ b ∈ frs l, b ∈ X.fs) → X.s₀.heap.FunFrames X.base l → s.heap.FunFrames X.base l := by
  intro l
  induction l with
  | nil => intro _ _; trivial
  | cons env r ih =>
   intro hs hl
   obtain ⟨hk, ⟨L, o, hf, hn, ho, hd⟩, hr⟩ := hl
   have hL : L ∈ X.fs := hs L (by unfold frs; rw [List.filterMap_cons, hf]; exact List.mem_cons_self)
   obtain ⟨sl, e⟩ := I.base.slot L o ho (I.ok.frf L hL) hL fun z => I.ok.exfs L z hL
   exact ⟨hk, ⟨L, _, hf, hn, e, hd⟩, ih (fun b hb => hs b (by unfold frs; rw [List.filterMap_cons, hf]; exact List.mem_cons_of_mem _ hb)) hr⟩
 exact all X.outer (fun _ hb => hb) I.ok.funs
theorem Inv.stack (I : Inv X pins σ H s) : s.heap.FunFrames X.base X.stack := by
 rcases I.ok.stk with e | ⟨e, hf⟩
 ·rw [e]; exact I.funs
 ·rw [e]
  obtain ⟨m, hn, _⟩ := I.loc
  refine .cons (by rw [I.ok.kind]; decide) hf hn ?_ I.funs
  exact Heap.get?_none_of_le (Nat.le_trans I.ok.bsz I.ok.above)
theorem Inv.vM (I : Inv X pins σ H s) : ∀ b ∈ frs X.stack, b ∈ X.env.locals :: X.fs := fun b hb => by
 rcases I.ok.stk with e | ⟨e, hf⟩
 ·rw [e] at hb; exact List.mem_cons_of_mem _ hb
 ·rw [e] at hb
  unfold frs at hb
  rw [List.filterMap_cons, hf] at hb
  exact hb
theorem Inv.vO (I : Inv X pins σ H s) : ∀ b ∈ frs X.stack, H b = none := fun b hb => by
 rcases List.mem_cons.mp (I.vM b hb) with e | hb
 ·rw [e]; exact I.free
 ·obtain ⟨_, o, ho, _⟩ := I.ok.funs.mem hb
  exact I.base.free b o ho (I.ok.frf b hb) fun z => I.ok.exfs b z hb
theorem Inv.step {g' : Array GenState} {t' : Nat} {d' : Drawn} {ch : Y2} (I : Inv X pins σ H s)
  (hch : ∀ b ∈ ch, (b ∈ X.ex ∨ X.s₀.heap.objs.size ≤ b) ∧ b ≠ X.env.locals ∧ (∀ x c, X.env.cells.lookup x = some c → c ≠ b) ∧ ∀ p ∈ X.pn ++ pins, p.1 ≠ b)
  (keep : ∀ b o, b ≠ X.env.locals → b ∉ X.fs → b ∉ ch → s.heap.get? b = some o → H b = none → h'.get? b = some o)
  (slot : ∀ b o, b ≠ X.env.locals → b ∈ X.fs → b ∉ ch → s.heap.get? b = some o → H b = none → ∃ sl, h'.get? b = some { o with slots := sl }) (free : ∀ b o, b ∉ ch → s.heap.get? b = some o → H b = none → H' b = none)
  (there : ∀ b o, b ∉ ch → s.heap.get? b = some o → ∃ o', h'.get? b = some o')
  (tups : ∀ b xs, H b = some (.tup xs) → H' b = some (.tup xs)) (frzs : ∀ b o u, H b = some (.frz o u) → H' b = some (.frz o u)) (tbls : ∀ b ps, H b = some (.tbl ps) → ∃ more, H' b = some (.tbl (ps ++ more)))
  (ns : ∀ m, s.heap.Ns X.env.locals m → h'.Ns X.env.locals m) (hok : HOk X.prog X.w H' h') (hg : AllBare g') :
  Inv X pins σ H' { s with heap := h', gens := g', drawn := d', toks := t' } := by
 have neL : ∀ b o, X.s₀.heap.get? b = some o → b ≠ X.env.locals := fun b o e => Nat.ne_of_lt (Nat.lt_of_lt_of_le (Heap.lt_size e) I.ok.above)
 have neC : ∀ b o, X.s₀.heap.get? b = some o → b ∉ X.ex → b ∉ ch := fun b o e hx hb => by
  rcases (hch b hb).1 with z | z
  ·exact hx z
  ·exact absurd (Nat.lt_of_lt_of_le (Heap.lt_size e) z) (Nat.lt_irrefl _)
 have cellK : ∀ x c, X.env.cells.lookup x = some c → ∀ v, s.heap.IsCell c v → h'.IsCell c v := fun x c e v ⟨o, ho, hd⟩ => by
  have nch : c ∉ ch := fun z => (hch c z).2.2.1 x c e rfl
  by_cases hc : c ∈ X.fs
  ·obtain ⟨sl, q⟩ := slot c o (I.cne x c e) hc nch ho (I.freeC x c e)
   exact ⟨_, q, hd⟩
  ·exact ⟨o, keep c o (I.cne x c e) hc nch ho (I.freeC x c e), hd⟩
 refine ⟨I.ok, I.os, hg, ⟨fun b o e n hb hx => ?_, fun b o e n hb hx => ?_, fun b o e n hx => ?_, fun b o e hx => ?_, fun b xs e => tups b xs (I.base.tups b xs e), fun b o xs e => frzs b o xs (I.base.frzs b o xs e), fun b ps e => ?_⟩, ?_, fun x c e => ?_, ?_, fun x c e => ?_, fun p hp => ?_, hok, I.len⟩
 ·exact keep b o (neL b o e) hb (neC b o e hx) (I.base.keep b o e n hb hx) (I.base.free b o e n hx)
 ·obtain ⟨sl, e1⟩ := I.base.slot b o e n hb hx
  obtain ⟨sl', e2⟩ := slot b _ (neL b o e) hb (neC b o e hx) e1 (I.base.free b o e n hx)
  exact ⟨sl', e2⟩
 ·obtain ⟨o', e1⟩ := I.base.there b o e hx
  exact free b o' (neC b o e hx) e1 (I.base.free b o e n hx)
 ·obtain ⟨o', e1⟩ := I.base.there b o e hx
  exact there b o' (neC b o e hx) e1
 ·obtain ⟨m1, e1⟩ := I.base.tbls b ps e
  obtain ⟨m2, e2⟩ := tbls b _ e1
  exact ⟨m1 ++ m2, by rw [e2, Array.append_assoc]⟩
 ·obtain ⟨m, hn, hl⟩ := I.loc
  refine ⟨m, ns m hn, fun i x v e1 e2 e3 => ?_⟩
  obtain ⟨u, r, l⟩ := hl i x v e1 e2 e3
  refine ⟨u, r, ?_⟩
  rcases l with l | ⟨k, c, e, z⟩
  ·exact .inl l
  ·exact .inr ⟨k, c, e, cellK x c e _ z⟩
 ·obtain ⟨v, z⟩ := I.cell x c e
  exact ⟨v, cellK x c e v z⟩
 ·obtain ⟨m, ⟨o, _, _, ho, _⟩, _⟩ := I.loc
  exact free _ o (fun z => (hch _ z).2.1 rfl) ho I.free
 ·obtain ⟨v, o, ho, hd⟩ := I.cell x c e
  exact free c o (fun z => (hch c z).2.2.1 x c e rfl) ho (I.freeC x c e)
 ·obtain ⟨e, n, ne, nf, d⟩ := I.pin p hp
  have nch : p.1 ∉ ch := fun z => (hch p.1 z).2.2.2 p hp rfl
  exact ⟨keep p.1 p.2 ne nf nch e n, free p.1 p.2 nch e n, ne, nf, d⟩
theorem Inv.un {t' : Nat} (I : Inv X pins σ H s) (u : Un X.fs [] H H' s.heap h') (hok : HOk X.prog X.w H' h') : Inv X pins σ H' { s with heap := h', toks := t' } := by
 obtain ⟨m, ⟨o, es, ep, ho, r⟩, _⟩ := id I.loc
 obtain ⟨sl, hL⟩ := u.any ho I.free (by simp)
 exact I.step (g' := s.gens) (d' := s.drawn) (ch := []) (fun _ z => nomatch z) (fun b o _ hb _ e n => u.keep b o e n hb (by simp)) (fun b o _ hb _ e n => u.slot b o e n hb (by simp)) (fun b o _ e n => u.free b o e n (by simp)) (fun b o _ e => u.there b o e (by simp)) u.tups u.frzs u.tbls (fun m' hm => by
  obtain ⟨o', es', ep', ho', r'⟩ := hm
  rw [ho] at ho'; cases ho'
  exact ⟨_, es', ep', hL, r'⟩) hok I.bare
theorem Inv.call {g' : Array GenState} {t' : Nat} {d' : Drawn} {ch : Y2} (I : Inv X pins σ H s) (u : Un (frs X.stack) ch H H' s.heap h') (hok : HOk X.prog X.w H' h') (hg : AllBare g')
  (hch : ∀ b ∈ ch, (b ∈ X.ex ∨ X.s₀.heap.objs.size ≤ b) ∧ b ≠ X.env.locals ∧ (∀ x c, X.env.cells.lookup x = some c → c ≠ b) ∧ ∀ p ∈ X.pn ++ pins, p.1 ≠ b) :
  Inv X pins σ H' { s with heap := h', gens := g', drawn := d', toks := t' } := by
 obtain ⟨m, ⟨o, es, ep, ho, r⟩, _⟩ := id I.loc
 obtain ⟨sl, hL⟩ := u.any ho I.free fun z => (hch _ z).2.1 rfl
 exact I.step (ch := ch) hch (fun b o hL hb hc e n => u.keep b o e n (fun z => (List.mem_cons.mp (I.vM b z)).elim hL hb) hc) (fun b o _ _ hc e n => u.any e n hc) (fun b o hc e n => u.free b o e n hc) (fun b o hc e => u.there b o e hc) u.tups u.frzs u.tbls (fun m' hm => by
  obtain ⟨o', es', ep', ho', r'⟩ := hm
  rw [ho] at ho'; cases ho'
  exact ⟨_, es', ep', hL, r'⟩) hok hg
theorem Inv.turned {t' : Nat} {it : Addr} (I : Inv X pins σ H s) (k : ∀ b o, b ≠ it → s.heap.get? b = some o → h'.get? b = some o) (hn : H it = none) (hL : it ≠ X.env.locals)
  (h1 : it ∈ X.ex ∨ X.s₀.heap.objs.size ≤ it) (h2 : ∀ x c, X.env.cells.lookup x = some c → c ≠ it) (h3 : ∀ p ∈ X.pn ++ pins, p.1 ≠ it) : Inv X pins σ H { s with heap := h', toks := t' } := by
 have nit : ∀ b u, H b = some u → b ≠ it := fun b u e z => by rw [z, hn] at e; cases e
 refine I.step (g' := s.gens) (d' := s.drawn) (ch := [it]) (fun b hb => ?_) (fun b o _ _ hc e _ => k b o (fun z => hc (by simp [z])) e) (fun b o _ _ hc e _ => ⟨o.slots, k b o (fun z => hc (by simp [z])) e⟩) (fun _ _ _ _ n => n)
  (fun b o hc e => ⟨o, k b o (fun z => hc (by simp [z])) e⟩) (fun _ _ e => e) (fun _ _ _ e => e) (fun b ps e => ⟨#[], by rw [e]; simp⟩) (fun m hm => ?_) (fun b u e => ?_) I.bare
 ·have e : b = it := by simpa using hb
  subst e
  exact ⟨h1, hL, h2, h3⟩
 ·obtain ⟨o, es, ep, ho, r⟩ := hm
  exact ⟨o, es, ep, k _ o (Ne.symm hL) ho, r⟩
 ·refine (I.hok b u e).stay (fun c v hc q => k c v ?_ q) (fun _ q => q) fun _ _ q => q
  rcases hc with z | z
  ·rw [z]; exact nit b u e
  ·exact nit c _ z
theorem Inv.tok (I : Inv X pins σ H s) (t : Nat) : Inv X pins σ H { s with toks := t } := I.un (h' := s.heap) (t' := t) Un.refl I.hok
theorem Inv.kept {t' : Nat} (I : Inv X pins σ H s) (k : ∀ b u, s.heap.get? b = some u → h'.get? b = some u) : Inv X pins σ H { s with heap := h', toks := t' } := I.un (Un.kept k) (I.hok.kept k)
theorem Inv.laid {a : Addr} {o : HO} {t' : Nat} (I : Inv X pins σ H s) (k : ∀ b u, s.heap.get? b = some u → h'.get? b = some u) (hp : s.heap.objs.size ≤ a) (new : eG X.prog X.w (upd H a o) h' a o) :
  Inv X pins σ (upd H a o) { s with heap := h', toks := t' } := I.un (Un.laid k hp (I.hok.fresh hp)) (I.hok.laid k hp new)
theorem Inv.write {x e : Addr} {o : HO} {t' : Nat} (I : Inv X pins σ H s) (mu : Mut (H x)) (he : e = x ∨ H e = some (.own x)) (k : ∀ b u, b ≠ e → s.heap.get? b = some u → h'.get? b = some u) (heo : ∃ u, h'.get? e = some u)
  (new : eG X.prog X.w (upd H x o) h' x o) : Inv X pins σ (upd H x o) { s with heap := h', toks := t' } := I.un (Un.write mu he k heo) (I.hok.write mu he k heo new)
theorem Inv.aBj {pins' : Y8} (I : Inv X pins σ H s) (h : ∀ p ∈ pins', s.heap.get? p.1 = some p.2 ∧ H p.1 = none ∧ p.1 ≠ X.env.locals ∧ p.1 ∉ X.fs ∧ ∀ v, p.2.data ≠ .cell v) : Inv X pins' σ H s :=
 ⟨I.ok, I.os, I.bare, I.base, I.loc, I.cell, I.free, I.freeC, fun p hp => (List.mem_append.mp hp).elim (fun z => I.pin p (List.mem_append_left _ z)) (h p), I.hok, I.len⟩
theorem wR {N : List Str} (hN : N.Nodup) {i j : Nat} {x : Str} (a : N[i]? = some x) (b : N[j]? = some x) : i = j := by
 obtain ⟨h1, e1⟩ := List.getElem?_eq_some_iff.mp a
 obtain ⟨h2, e2⟩ := List.getElem?_eq_some_iff.mp b
 exact (List.getElem_inj hN).mp (e1.trans e2.symm)
theorem sS {M : Model} {A : Around} {E : Y9} {i : Nat} {x : Str} {v : V} {u : Value} {Q : Unit → Shared → Prop} (I : Inv X pins σ H s) (hN : X.N.Nodup) (hi : X.N[i]? = some x) (hx : Loc X.env.scope x) (r : RelV v u)
  (h : ∀ s', Inv X pins (σ.set i (some v)) H s' → (∃ a, Heap.SameBut a s.heap s'.heap ∧ (a = X.env.locals ∨ X.env.cells.lookup x = some a)) → Q () s') (hf : X.fn x = true ∨ X.env.scope.names.lookup x = some .local := by first | exact .inl rfl | exact .inr rfl | assumption) : wpAny M A (storeName X.env x u) Q E s := by
 obtain ⟨m, hn, hl⟩ := id I.loc
 have hcls : (X.env.scope.kind == .class || (X.env.scope.kind == .module && X.env.locals != X.env.globals)) = false := by rw [I.ok.kind]; rfl
 have hiσ : i < σ.length := by rw [I.len]; exact (List.getElem?_eq_some_iff.mp hi).1
 have cne := I.cne
 have tracked : ∀ {a : Addr} {h' : Heap}, (∃ o, s.heap.get? a = some o ∧ H a = none) → Heap.SameBut a s.heap h' → HOk X.prog X.w H h' := fun {a h'} ha hs b ob e => by
  obtain ⟨_, _, hfree⟩ := ha
  refine (I.hok b ob e).stay (fun c w' hc q => (hs.2 c ?_).trans q) (fun _ q => q) fun _ _ q => q
  rintro rfl
  rcases hc with rfl | hc
  ·rw [hfree] at e; cases e
  ·rw [hfree] at hc; cases hc
 rcases hx with hk | hk
 ·refine wpAny_storeName_local hk hn (fun h' hn' hs => ?_) hcls
  obtain ⟨oL, _, _, hoL, _⟩ := id hn
  refine h _ ⟨I.ok, I.os, I.bare, ⟨fun b o e n hb hx => ?_, fun b o e n hb hx => ?_, I.base.free, fun b o e hx => ?_, I.base.tups, I.base.frzs, I.base.tbls⟩, ⟨_, hn', fun j y v' e1 e2 e3 => ?_⟩, fun y c e => ?_, I.free, I.freeC, fun p hp => ?_, tracked ⟨oL, hoL, I.free⟩ hs, by simpa using I.len⟩ ⟨_, hs, .inl rfl⟩
  ·exact (hs.2 b (Nat.ne_of_lt (Nat.lt_of_lt_of_le (Heap.lt_size e) I.ok.above))).trans (I.base.keep b o e n hb hx)
  ·obtain ⟨sl, e1⟩ := I.base.slot b o e n hb hx
   exact ⟨sl, (hs.2 b (Nat.ne_of_lt (Nat.lt_of_lt_of_le (Heap.lt_size e) I.ok.above))).trans e1⟩
  ·obtain ⟨o', e1⟩ := I.base.there b o e hx
   exact ⟨o', (hs.2 b (Nat.ne_of_lt (Nat.lt_of_lt_of_le (Heap.lt_size e) I.ok.above))).trans e1⟩
  ·by_cases hj : j = i
   ·subst hj
    rw [hi] at e1; cases e1
    rw [List.getElem?_set_self hiσ] at e2
    cases e2
    exact ⟨u, r, .inl ⟨hk, by simp⟩⟩
   ·rw [List.getElem?_set_ne (Ne.symm hj)] at e2
    obtain ⟨u', r', q⟩ := hl j y v' e1 e2 e3
    refine ⟨u', r', ?_⟩
    rcases q with ⟨k, e⟩ | ⟨k, c, e, z⟩
    ·refine .inl ⟨k, ?_⟩
     have : y ≠ x := fun e => hj (wR hN e1 (e ▸ hi))
     simp [this, e]
    ·exact .inr ⟨k, c, e, z.sameBut hs (cne y c e)⟩
  ·obtain ⟨w', z⟩ := I.cell y c e
   exact ⟨w', z.sameBut hs (cne y c e)⟩
  ·obtain ⟨e, n, ne, nf, d⟩ := I.pin p hp
   exact ⟨(hs.2 p.1 ne).trans e, n, ne, nf, d⟩
 ·have hfn : X.fn x = true := by
   rcases hf with z | z
   ·exact z
   ·rw [z] at hk; cases hk
  obtain ⟨c, hc⟩ := I.ok.has x (.inl hk)
  obtain ⟨w', z⟩ := I.cell x c hc
  refine wpAny_storeName_cell I.ok.kind hk hc z (fun h' hc' hs => ?_)
  obtain ⟨oc, hoc, hocd⟩ := id z
  refine h { s with heap := h' } ⟨I.ok, I.os, I.bare, ⟨fun b o e n hb hx => ?_, fun b o e n hb hx => ?_, I.base.free, fun b o e hx => ?_, I.base.tups, I.base.frzs, I.base.tbls⟩, ⟨m, hn.sameBut hs (Ne.symm (cne x c hc)), fun j y v' e1 e2 e3 => ?_⟩, fun y c' e => ?_, I.free, I.freeC, fun p hp => ?_, tracked ⟨oc, hoc, I.freeC x c hc⟩ hs, by simpa using I.len⟩ ⟨c, hs, .inr hc⟩
  ·exact (hs.2 b (Nat.ne_of_lt (Nat.lt_of_lt_of_le (Heap.lt_size e) (I.ok.cab x c hfn hc)))).trans (I.base.keep b o e n hb hx)
  ·obtain ⟨sl, e1⟩ := I.base.slot b o e n hb hx
   exact ⟨sl, (hs.2 b (Nat.ne_of_lt (Nat.lt_of_lt_of_le (Heap.lt_size e) (I.ok.cab x c hfn hc)))).trans e1⟩
  ·obtain ⟨o', e1⟩ := I.base.there b o e hx
   exact ⟨o', (hs.2 b (Nat.ne_of_lt (Nat.lt_of_lt_of_le (Heap.lt_size e) (I.ok.cab x c hfn hc)))).trans e1⟩
  ·by_cases hj : j = i
   ·subst hj
    rw [hi] at e1; cases e1
    rw [List.getElem?_set_self hiσ] at e2
    cases e2
    exact ⟨u, r, .inr ⟨.inl hk, c, hc, hc'⟩⟩
   ·rw [List.getElem?_set_ne (Ne.symm hj)] at e2
    obtain ⟨u', r', q⟩ := hl j y v' e1 e2 e3
    refine ⟨u', r', ?_⟩
    rcases q with q | ⟨k, c', e, z'⟩
    ·exact .inl q
    ·refine .inr ⟨k, c', e, z'.sameBut hs ?_⟩
     rintro rfl
     exact hj (wR hN e1 (I.ok.inj _ _ _ e hc ▸ hi))
  ·by_cases hcc : c' = c
   ·subst hcc; exact ⟨_, hc'⟩
   ·obtain ⟨w2, z2⟩ := I.cell y c' e
    exact ⟨w2, z2.sameBut hs hcc⟩
  ·obtain ⟨e, n, ne, nf, d⟩ := I.pin p hp
   refine ⟨(hs.2 p.1 ?_).trans e, n, ne, nf, d⟩
   intro q
   rw [q, hoc] at e
   have q' : oc = p.2 := Option.some.inj e
   exact d w' (by rw [← q']; exact hocd)
theorem rF {M : Model} {A : Around} {E : Y9} {i : Nat} {x : Str} {v : V} {u : Value} {Q : Unit → Shared → Prop} (I : Inv X pins σ H s) (hN : X.N.Nodup) (hi : X.N[i]? = some x) (hx : Loc X.env.scope x) (r : RelV v u)
  (h : ∀ s', Inv X pins (σ.set i (some v)) H s' → Q () s') (hf : X.fn x = true ∨ X.env.scope.names.lookup x = some .local := by first | exact .inl rfl | exact .inr rfl | assumption) : wpAny M A (storeName X.env x u) Q E s :=
 sS I hN hi hx r (fun s' I' _ => h s' I') hf
theorem Inv.aBk {s' : Shared} {ch : Y2} (I : Inv X pins σ H s) (ho : s'.os = s.os) (u : Un (frs X.stack) ch H H' s.heap s'.heap) (hok : HOk X.prog X.w H' s'.heap) (hg : AllBare s'.gens)
  (hch : ∀ b ∈ ch, (b ∈ X.ex ∨ X.s₀.heap.objs.size ≤ b) ∧ b ≠ X.env.locals ∧ (∀ x c, X.env.cells.lookup x = some c → c ≠ b) ∧ ∀ p ∈ X.pn ++ pins, p.1 ≠ b) : Inv X pins σ H' s' := by
 obtain ⟨h', g', d', t', o'⟩ := s'
 have e : o' = s.os := ho
 subst e
 exact I.call (g' := g') (t' := t') (d' := d') u hok hg hch
end
abbrev XK := Value → Option Addr → Hp → Prop
abbrev St := List (Option V)
abbrev VK := V → Hp → Prop
abbrev TE := St → Hp → VK → Prop
abbrev TT := St → Hp → (Bool → Hp → Prop) → Prop
abbrev TA := St → Hp → (List V → Hp → Prop) → Prop
structure Ends where
 nx : St → Hp → Prop
 rt : VK
 bk : St → Hp → Prop := fun _ _ => False
 ct : St → Hp → Prop := fun _ _ => False
abbrev TS := Ends → St → Hp → Prop
def EP (X : Cx) (pins : Y8) (σ : St) (Q : VK) (u : Value) (s' : Shared) : Prop := ∃ v H', Inv X pins σ H' s' ∧ RelV v u ∧ Q v H'
def TP (X : Cx) (pins : Y8) (σ : St) (Q : Bool → Hp → Prop) (b : Bool) (s' : Shared) : Prop := ∃ H', Inv X pins σ H' s' ∧ Q b H'
def AP (X : Cx) (pins : Y8) (σ : St) (Q : List V → Hp → Prop) (us : Y1) (s' : Shared) : Prop := ∃ vs H', Inv X pins σ H' s' ∧ Vals vs us ∧ Q vs H'
def SP (X : Cx) (pins : Y8) (D : Ends) (f : Flow) (s' : Shared) : Prop :=
 match f with
 | .next => ∃ σ' H', Inv X pins σ' H' s' ∧ D.nx σ' H'
 | .brk => ∃ σ' H', Inv X pins σ' H' s' ∧ D.bk σ' H'
 | .cont => ∃ σ' H', Inv X pins σ' H' s' ∧ D.ct σ' H'
 | .ret u => ∃ v σ' H', Inv X pins σ' H' s' ∧ RelV v u ∧ D.rt v H'
def PE (X : Cx) (e : Expr) (t : TE) : Prop :=
 ∀ (pins : Y8) (s : Shared) (σ : St) (H : Hp) (Q : VK), Inv X pins σ H s → t σ H Q → wpAny (model X.prog X.w) X.A (eval e X.env) (EP X pins σ Q) X.xe s
def PT (X : Cx) (e : Expr) (t : TT) : Prop :=
 ∀ (pins : Y8) (s : Shared) (σ : St) (H : Hp) (Q : Bool → Hp → Prop), Inv X pins σ H s → t σ H Q → wpAny (model X.prog X.w) X.A (isTrue e X.env (eval e X.env)) (TP X pins σ Q) X.xe s
def PW (X : Cx) (e : Expr) (t : TT) : Prop :=
 ∀ (whole : Sem Value) (pins : Y8) (s : Shared) (σ : St) (H : Hp) (Q : Bool → Hp → Prop), Inv X pins σ H s → t σ H Q → wpAny (model X.prog X.w) X.A (isTrue e X.env whole) (TP X pins σ Q) X.xe s
theorem PW.pt {X : Cx} {e : Expr} {t : TT} (h : PW X e t) : PT X e t := h _
def PA (X : Cx) (es : List Expr) (t : TA) : Prop :=
 ∀ (pos : Pos) (pins : Y8) (s : Shared) (σ : St) (H : Hp) (Q : List V → Hp → Prop), Inv X pins σ H s → t σ H Q → wpAny (model X.prog X.w) X.A (spliced (backTo pos (starEach es X.env))) (AP X pins σ Q) X.xe s
def PS (X : Cx) (st : Stmt) (t : TS) : Prop :=
 ∀ (pins : Y8) (s : Shared) (σ : St) (H : Hp) (D : Ends), Inv X pins σ H s → t D σ H → wpAny (model X.prog X.w) X.A (exec st X.env) (SP X pins D) X.xe s
def PSs (X : Cx) (st : List Stmt) (t : TS) : Prop :=
 ∀ (pins : Y8) (s : Shared) (σ : St) (H : Hp) (D : Ends), Inv X pins σ H s → t D σ H → wpAny (model X.prog X.w) X.A (execs st X.env) (SP X pins D) X.xe s
theorem thn {α : Type} {t : Sem α} {Q Q' : α → Shared → Prop} {M : Model} {A : Around} {E : Y9} {s : Shared} (h : wpAny M A t Q E s) (hQ : ∀ a s, Q a s → Q' a s) : wpAny M A t Q' E s := wpAny_mono h hQ fun _ _ x => x
end L2
namespace L2
open PySem PySem.Spec PyProof.Rows
section
variable {X : Cx}
def xJ (i : Nat) : TE := fun σ H Q => ∃ v, σ[i]? = some (some v) ∧ Q v H
def tC (v : V) : TE := fun _ H Q => Q v H
theorem mI {i : Nat} {x : Str} {pos : Pos} (hN : X.N[i]? = some x) (hv : Vis X.env.scope x) (hd : (x == ("__debug__" : Str)) = false := by decide) (hcd : (x == ("__classdict__" : Str)) = false := by decide) : PE X (.Name x pos) (xJ i) := by
 intro pins s σ H Q I h
 obtain ⟨v, e, h⟩ := h
 obtain ⟨m, hn, hl⟩ := I.loc
 obtain ⟨u, r, l⟩ := hl i x v hN e hv
 have fin : EP X pins σ Q u s := ⟨v, H, I, r, h⟩
 rcases l with ⟨hk, hm⟩ | ⟨hk, c, hc, hcell⟩
 ·exact wpAny_Name (wpAny_loadName_local I.ok.kind hk hn hm fin) hd
 ·rcases hk with hk | hk
  ·exact wpAny_Name (wpAny_loadName_cell I.ok.kind hk hc hcell fin) hd
  ·exact wpAny_Name (wpAny_loadName_free I.ok.kind hk hc hcell fin hcd) hd
theorem aJw {i j pos} : PE X (.Constant (.int i) j pos) (tC (.int i)) := fun _ _ _ H _ I h => wpAny_Constant_int ⟨.int i, H, I.tok _, ⟨_, rfl⟩, h⟩
theorem aM9 {b j pos} : PE X (.Constant (.bool b) j pos) (tC (.bl b)) := fun _ _ _ H _ I h => Constant_bool ⟨.bl b, H, I, rfl, h⟩
theorem aJq {j pos} : PE X (.Constant .none j pos) (tC .non) := fun _ _ _ H _ I h => Constant_none ⟨.non, H, I, rfl, h⟩
theorem aD8 {x j pos} : PE X (.Constant (.str x) j pos) (tC (.str x)) := fun _ _ _ H _ I h => Calls.Constant_str ⟨.str x, H, I.tok _, ⟨_, rfl⟩, h⟩
def Gl (X : Cx) (x : Str) : Prop := X.env.kindOf x = some .globalImplicit
theorem pJ {E : Y9} {pins : Y8} {s : Shared} {σ : St} {H : Hp} {x : Str} {u : Value} {pos : Pos} {Q : Y9} (I : Inv X pins σ H s) (hg : Gl X x) (hm : X.mg x = some u) (h : Q u s)
  (hd : (x == ("__debug__" : Str)) = false := by decide) : wpAny (model X.prog X.w) X.A (eval (.Name x pos) X.env) Q E s :=
 Calls.Name_function_global I.ok.kind hg (Calls.loadGlobal_global (by rw [I.ok.glob]; exact I.mod.glob.keeps I.bk) hm h) hd
theorem iV {E : Y9} {pins : Y8} {s : Shared} {σ : St} {H : Hp} {x : Str} {u : Value} {pos : Pos} {Q : Y9} (I : Inv X pins σ H s) (hg : Gl X x) (hm : X.mg x = none) (hv : bootBuiltins x = some u) (h : Q u s)
  (hn : x ≠ "__name__" := by decide) (hd : (x == ("__debug__" : Str)) = false := by decide) : wpAny (model X.prog X.w) X.A (eval (.Name x pos) X.env) Q E s := by
 obtain ⟨mb, h1, h2⟩ := I.mod.blt
 exact Calls.Name_function_global I.ok.kind hg (Calls.loadGlobal_builtin (by rw [I.ok.glob]; exact I.mod.glob.keeps I.bk) hm (by rw [I.ok.blt]; exact h1.keeps I.bk) ((h2 x hn).trans hv) h) hd
theorem aHu {x : Str} {v : V} {u : Value} {pos : Pos} (hg : Gl X x) (hm : X.mg x = some u) (r : RelV v u) (hd : (x == ("__debug__" : Str)) = false := by decide) : PE X (.Name x pos) (tC v) :=
 fun _ _ _ H _ I h => pJ I hg hm ⟨v, H, I, r, h⟩ hd
theorem aHg {x : Str} {v : V} {u : Value} {pos : Pos} (hg : Gl X x) (hm : X.mg x = none) (hv : bootBuiltins x = some u) (r : RelV v u) (hn : x ≠ "__name__" := by decide) (hd : (x == ("__debug__" : Str)) = false := by decide) : PE X (.Name x pos) (tC v) :=
 fun _ _ _ H _ I h => iV I hg hm hv ⟨v, H, I, r, h⟩ hn hd
variable {a b : Expr} {ta tb : TE} {pos : Pos}
variable {tA tB' : TT} {rest : List Expr}
def aM1 (t u : TT) : TT := fun σ H Q => t σ H fun c H1 => if c = true then u σ H1 Q else Q false H1
def tOr (t u : TT) : TT := fun σ H Q => t σ H fun c H1 => if c = true then Q true H1 else u σ H1 Q
def aMy (t : TT) : TT := fun σ H Q => t σ H fun c H1 => Q (!c) H1
theorem aGn (ha : PT X a tA) : PW X (.BoolOp .And [a] pos) tA := by
 intro wh pins s σ H Q I h
 refine isTrue_and (thn (ha pins s σ H Q I h) fun c s1 e => ?_)
 cases c with
 | true => exact isTrue_and_nil e
 | false => exact e
theorem aJ4 (ha : PT X a tA) : PW X (.BoolOp .Or [a] pos) tA := by
 intro wh pins s σ H Q I h
 refine isTrue_or (thn (ha pins s σ H Q I h) fun c s1 e => ?_)
 cases c with
 | false => exact isTrue_or_nil e
 | true => exact e
theorem aKs (ha : PT X a tA) (hb : PW X (.BoolOp .And (b :: rest) pos) tB') : PW X (.BoolOp .And (a :: b :: rest) pos) (aM1 tA tB') := by
 intro wh pins s σ H Q I h
 refine isTrue_and (thn (ha pins s σ H _ I h) fun c s1 ⟨H1, I1, q1⟩ => ?_)
 cases c with
 | true => exact hb wh pins s1 σ H1 Q I1 q1
 | false => exact ⟨H1, I1, q1⟩
theorem aNh (ha : PT X a tA) (hb : PW X (.BoolOp .Or (b :: rest) pos) tB') : PW X (.BoolOp .Or (a :: b :: rest) pos) (tOr tA tB') := by
 intro wh pins s σ H Q I h
 refine isTrue_or (thn (ha pins s σ H _ I h) fun c s1 ⟨H1, I1, q1⟩ => ?_)
 cases c with
 | true => exact ⟨H1, I1, q1⟩
 | false => exact hb wh pins s1 σ H1 Q I1 q1
theorem aLw (ha : PT X a tA) : PT X (.UnaryOp .Not a pos) (aMy tA) := by
 intro pins s σ H Q I h
 exact isTrue_not (ha pins s σ H (fun c H1 => Q (!c) H1) I h)
def aIt (ta tb : TE) : TE := fun σ H Q => ta σ H fun x H1 => ∃ c, x = .bl c ∧ if c = true then tb σ H1 Q else Q (.bl false) H1
def aMw (ta tb : TE) : TE := fun σ H Q => ta σ H fun x H1 => ∃ c, x = .bl c ∧ if c = true then Q (.bl true) H1 else tb σ H1 Q
def aIm (ta : TE) : TE := fun σ H Q => ta σ H fun x H1 => ∃ c, x = .bl c ∧ Q (.bl (!c)) H1
theorem aJp {op} {t : TE} (h : PE X a t) : PE X (.BoolOp op [a] pos) t := fun pins s σ H Q I hw => BoolOp_one (h pins s σ H Q I hw)
theorem aL5 (ha : PE X a ta) (hb : PE X (.BoolOp .And (b :: rest) pos) tb) : PE X (.BoolOp .And (a :: b :: rest) pos) (aIt ta tb) := by
 intro pins s σ H Q I h
 refine BoolOp_and (thn (ha pins s σ H _ I h) fun v s1 ⟨x, H1, I1, r1, q1⟩ => ?_)
 obtain ⟨c, rfl, q1⟩ := q1
 cases r1
 refine wpAny_truthy_bool ?_
 cases c with
 | true => exact hb pins s1 σ H1 Q I1 q1
 | false => exact ⟨.bl false, H1, I1, rfl, q1⟩
theorem aNk (ha : PE X a ta) (hb : PE X (.BoolOp .Or (b :: rest) pos) tb) : PE X (.BoolOp .Or (a :: b :: rest) pos) (aMw ta tb) := by
 intro pins s σ H Q I h
 refine BoolOp_or (thn (ha pins s σ H _ I h) fun v s1 ⟨x, H1, I1, r1, q1⟩ => ?_)
 obtain ⟨c, rfl, q1⟩ := q1
 cases r1
 refine wpAny_truthy_bool ?_
 cases c with
 | false => exact hb pins s1 σ H1 Q I1 q1
 | true => exact ⟨.bl true, H1, I1, rfl, q1⟩
theorem aLc (ha : PE X a ta) : PE X (.UnaryOp .Not a pos) (aIm ta) := by
 intro pins s σ H Q I h
 refine UnaryOp_ (thn (ha pins s σ H _ I h) fun v s1 ⟨x, H1, I1, r1, q1⟩ => ?_)
 obtain ⟨c, rfl, q1⟩ := q1
 cases r1
 exact not_of (wpAny_truthy_bool ⟨.bl (!c), H1, I1, rfl, q1⟩)
end
end L2
namespace L2
open PySem PySem.Spec PyProof.Rows
def SqL (K : FG) (H : Hp) (a : Addr) (xs : List V) : Prop :=
 Rd H a (.lst xs) ∨
  ∃ (o : Obj) (its : Array Value) (n : Nat), K.lookup a = some o ∧ o.cls = .type "list" ∧ o.dict = none ∧ o.data = .seq its n ∧ its.size ≤ sizeLine ∧ Vals xs its.toList
def SqT (K : FG) (H : Hp) (a : Addr) (xs : List V) : Prop :=
 Rd H a (.tup xs) ∨
  ∃ (o : Obj) (its : Array Value) (n : Nat), K.lookup a = some o ∧ o.cls = .type "tuple" ∧ o.data = .seq its n ∧ its.size ≤ sizeLine ∧ Vals xs its.toList
def aQ2 : Value → Option V
 | .none => some .non
 | .bool b => some (.bl b)
 | .int i _ => some (.int i)
 | .str x _ => some (.str x)
 | .bytes b _ => some (.byt b)
 | .float b _ => some (.flt b)
 | .ref a => some (.ref a)
 | .type n => some (.ty n)
 | _ => none
theorem RelV.abs {x : V} {u : Value} (r : RelV x u) : aQ2 u = some x := by
 cases x with
 | non => cases r; rfl
 | bl _ => cases r; rfl
 | int _ => obtain ⟨t, rfl⟩ := r; rfl
 | str _ => obtain ⟨t, rfl⟩ := r; rfl
 | byt _ => obtain ⟨t, rfl⟩ := r; rfl
 | flt _ => obtain ⟨t, rfl⟩ := r; rfl
 | ref _ => cases r; rfl
 | ty _ => cases r; rfl
theorem RelV.inj {x y : V} {u : Value} (r : RelV x u) (q : RelV y u) : x = y := Option.some.inj (r.abs.symm.trans q.abs)
theorem Vals.inj : ∀ {xs ys : List V} {us : Y1}, Vals xs us → Vals ys us → xs = ys
 | _, _, _, .nil, .nil => rfl
 | _, _, _, .cons r t, .cons r' t' => by rw [r.inj r', Vals.inj t t']
section
variable {X : Cx} {pins : Y8} {σ : St} {H : Hp} {s : Shared} {a : Addr} {xs ys : List V}
theorem SqL.of {K : FG} (h : H a = some (.lst xs)) : SqL K H a xs := .inl (.inl h)
theorem SqT.of {K : FG} (h : H a = some (.tup xs)) : SqT K H a xs := .inl (.inl h)
theorem Inv.list (I : Inv X pins σ H s) (h : SqL X.K H a xs) : ∃ its : Y1, Vals xs its ∧ PlainL s.heap a its.toArray ∧ xs.length ≤ sizeLine := by
 rcases h with h | ⟨o, its, n, hk, hc, hd, hs, hz, r⟩
 ·obtain ⟨z, its, n, r, e⟩ := h.ok I.hok
  exact ⟨its, r, ⟨_, n, e, rfl, rfl, rfl⟩, z⟩
 ·refine ⟨its.toList, r, ⟨o, n, I.kIn a o hk, hc, hd, by simpa using hs⟩, ?_⟩
  have e := r.length
  simp only [Array.length_toList] at e
  omega
theorem Inv.tuple (I : Inv X pins σ H s) (h : SqT X.K H a xs) : ∃ its : Y1, Vals xs its ∧ IsTup s.heap a its.toArray ∧ xs.length ≤ sizeLine := by
 rcases h with h | ⟨o, its, n, hk, hc, hs, hz, r⟩
 ·obtain ⟨z, its, r, p⟩ := h.ok I.hok
  exact ⟨its, r, p, z⟩
 ·refine ⟨its.toList, r, ⟨o, I.kIn a o hk, hc, n, by simpa using hs⟩, ?_⟩
  have e := r.length
  simp only [Array.length_toList] at e
  omega
theorem Inv.yH (I : Inv X pins σ H s) (h : SqL X.K H a xs) (h' : SqL X.K H a ys) : xs = ys := by
 obtain ⟨its, r, ⟨o, n, e, _, _, d⟩, _⟩ := I.list h
 obtain ⟨its', r', ⟨o', n', e', _, _, d'⟩, _⟩ := I.list h'
 rw [e] at e'; cases e'
 rw [d] at d'
 injection d' with d1 _
 have : its = its' := by simpa using congrArg Array.toList d1
 subst this
 exact r.inj r'
theorem Inv.aCz (I : Inv X pins σ H s) (h : SqT X.K H a xs) (h' : SqT X.K H a ys) : xs = ys := by
 obtain ⟨its, r, ⟨o, e, _, n, d⟩, _⟩ := I.tuple h
 obtain ⟨its', r', ⟨o', e', _, n', d'⟩, _⟩ := I.tuple h'
 rw [e] at e'; cases e'
 rw [d] at d'
 injection d' with d1 _
 have : its = its' := by simpa using congrArg Array.toList d1
 subst this
 exact r.inj r'
end
section
variable {X : Cx} {pins : Y8} {σ : St} {H : Hp} {s : Shared} {E : Y9}
end
section
variable {X : Cx} {st : Stmt} {rest : List Stmt} {t u : TS} {e : Expr} {te : TE} {pos : Pos}
def aIw : TS := fun D σ H => D.nx σ H
def aNc (t u : TS) : TS := fun D σ H => t { D with nx := u D } σ H
theorem aHr : PSs X [] aIw := fun _ _ σ H _ I h => wpAny_execs_nil ⟨σ, H, I, h⟩
theorem aD7 (h1 : PS X st t) (h2 : PSs X rest u) : PSs X (st :: rest) (aNc t u) := by
 intro pins s σ H D I h
 refine wpAny_execs_cons (thn (h1 pins s σ H { D with nx := u D } I h) fun f s1 q => ?_)
 cases f with
 | next =>
  obtain ⟨σ', H', I', q⟩ := q
  exact h2 pins s1 σ' H' D I' q
 | ret v => exact q
 | brk => exact q
 | cont => exact q
theorem aHm (h1 : PS X st t) : PSs X [st] t := by
 intro pins s σ H D I h
 refine wpAny_execs_cons (thn (h1 pins s σ H D I h) fun f s1 q => ?_)
 cases f with
 | next => exact wpAny_execs_nil q
 | ret v => exact q
 | brk => exact q
 | cont => exact q
theorem Inv.quiet {pins : Y8} {σ : St} {H : Hp} {s : Shared} (I : Inv X pins σ H s) : interactive X.env = false := by simp [interactive, I.ok.kind]
def xB (te : TE) : TS := fun D σ H => te σ H fun _ H1 => D.nx σ H1
theorem pG (he : PE X e te) (hs : swapsWith e none pos.line X.env = pure false := by rfl) : PS X (.Expr e pos) (xB te) := by
 intro pins s σ H D I h
 exact wpAny_Expr_any (thn (he pins s σ H _ I h) fun v s1 ⟨x, H1, I1, r1, q1⟩ => ⟨σ, H1, I1, q1⟩) I.quiet hs
def aK2 (te : TE) : TS := fun D σ H => te σ H D.rt
theorem aDk (he : PE X e te) : PS X (.Return (some e) pos) (aK2 te) := by
 intro pins s σ H D I h
 exact wpAny_Return_some (thn (he pins s σ H _ I h) fun v s1 ⟨x, H1, I1, r1, q1⟩ => ⟨x, σ, H1, I1, r1, q1⟩)
def aOv (c : TT) (t u : TS) : TS := fun D σ H => c σ H fun b H1 => if b = true then t D σ H1 else u D σ H1
theorem aN3 {c : Expr} {a b : List Stmt} {tc : TT} (hc : PT X c tc) (ha : PSs X a t) (hb : PSs X b u) : PS X (.If c a b pos) (aOv tc t u) := by
 intro pins s σ H D I h
 refine wpAny_If (thn (hc pins s σ H _ I h) fun d s1 ⟨H1, I1, q1⟩ => ?_)
 cases d with
 | true => exact ha pins s1 σ H1 D I1 q1
 | false => exact hb pins s1 σ H1 D I1 q1
end
abbrev TG := V → St → Hp → (St → Hp → Prop) → Prop
abbrev TGs := List V → St → Hp → (St → Hp → Prop) → Prop
def PG (X : Cx) (target : Expr) (t : TG) : Prop :=
 ∀ (pins : Y8) (s : Shared) (σ : St) (H : Hp) (v : V) (u : Value) (Q : St → Hp → Prop), Inv X pins σ H s → RelV v u → t v σ H Q →
  wpAny (model X.prog X.w) X.A (assign target X.env u) (fun _ s' => ∃ σ' H', Inv X pins σ' H' s' ∧ Q σ' H') X.xe s
def PGs (X : Cx) (ts : List Expr) (t : TGs) : Prop :=
 ∀ (pins : Y8) (s : Shared) (σ : St) (H : Hp) (vs : List V) (us : Y1) (Q : St → Hp → Prop), Inv X pins σ H s → Vals vs us → t vs σ H Q →
  wpAny (model X.prog X.w) X.A (assignInOrder ((assignEach ts X.env).map (·.2)) us) (fun _ s' => ∃ σ' H', Inv X pins σ' H' s' ∧ Q σ' H') X.xe s
abbrev aJ2 := V → V → V → Hp → (Hp → Prop) → Prop
def aNs (X : Cx) (t : aJ2) : Prop :=
 ∀ (pins : Y8) (s : Shared) (σ : St) (H : Hp) (o i v : V) (ov iv u : Value) (Q : Hp → Prop), Inv X pins σ H s → RelV o ov → RelV i iv → RelV v u → t o i v H Q →
  wpAny (model X.prog X.w) X.A (setItem ov iv u) (fun _ s' => ∃ H', Inv X pins σ H' s' ∧ Q H') X.xe s
abbrev TIp := V → V → Hp → VK → Prop
def PIp (X : Cx) (op : Operator) (t : TIp) : Prop :=
 ∀ (pins : Y8) (s : Shared) (σ : St) (H : Hp) (x y : V) (v u : Value) (Q : VK), Inv X pins σ H s → RelV x v → RelV y u → t x y H Q →
  wpAny (model X.prog X.w) X.A (inplaceOp op v u) (EP X pins σ Q) X.xe s
section
variable {X : Cx} {pos : Pos}
def oY (i : Nat) : TG := fun v σ H Q => Q (σ.set i (some v)) H
theorem aGu {i : Nat} {x : Str} (hN : X.N.Nodup) (hi : X.N[i]? = some x) (hx : Loc X.env.scope x) (hf : X.fn x = true ∨ X.env.scope.names.lookup x = some .local := by first | exact .inl rfl | exact .inr rfl | assumption) : PG X (.Name x pos) (oY i) := by
 intro pins s σ H v u Q I r h
 exact wpAny_assign_Name (rF I hN hi hx r (fun s' I' => ⟨_, H, I', h⟩) hf)
def aNl : TGs := fun vs σ H Q => vs = [] ∧ Q σ H
def aI4 (t : TG) (u : TGs) : TGs := fun vs σ H Q => ∃ v r, vs = v :: r ∧ t v σ H fun σ' H' => u r σ' H' Q
theorem aF1 : PGs X [] aNl := by
 intro pins s σ H vs us Q I r h
 obtain ⟨e, h⟩ := h
 subst e
 cases r
 exact assignInOrder_nil ⟨σ, H, I, h⟩
theorem aDq {e : Expr} {es : List Expr} {t : TG} {u : TGs} (h1 : PG X e t) (h2 : PGs X es u)
  (hs : (assignEach (e :: es) X.env).map (·.2) = assign e X.env :: (assignEach es X.env).map (·.2) := by rfl) : PGs X (e :: es) (aI4 t u) := by
 intro pins s σ H vs us Q I r h
 obtain ⟨v, vr, e1, h⟩ := h
 subst e1
 cases r with
 | cons r rr =>
  rw [hs]
  refine assignInOrder_cons (thn (h1 pins s σ H _ _ _ I r h) fun _ s1 ⟨σ1, H1, I1, q1⟩ => ?_)
  exact h2 pins s1 σ1 H1 _ _ Q I1 rr q1
def aKg (K : FG) (n : Nat) (t : TGs) : TG := fun v σ H Q => ∃ a xs, v = .ref a ∧ SqT K H a xs ∧ xs.length = n ∧ t xs σ H Q
theorem kL {es : List Expr} {k : Nat} {t : TGs} {n : Nat} (hc : X.calm = true) (h : PGs X es t)
  (hn : (assignEach es X.env).length = n := by rfl) (hst : (assignEach es X.env).findIdx? (·.1) = none := by rfl) : PG X (.Tuple es k pos) (aKg X.K n t) := by
 intro pins s σ H v u Q I r hw
 obtain ⟨a, xs, e1, hq, hl, hw⟩ := hw
 subst e1
 cases r
 obtain ⟨its, rv, ht, hz⟩ := I.tuple hq
 refine assign_Tuple_tuple (I.ok.hd hc) ht (by simp [hn, ← hl, rv.length]) hst fun h' hx => ?_
 have I1 : Inv X pins σ H { s with heap := h' } := I.kept (t' := s.toks) fun b o e => hx b o (Nat.ne_of_lt (Heap.lt_size e)) e
 exact h pins _ σ H xs _ Q I1 (by simpa using rv) hw
def aMt (to ti : TE) (t : aJ2) : TG := fun v σ H Q => to σ H fun o H1 => ti σ H1 fun i H2 => t o i v H2 fun H3 => Q σ H3
theorem aL0 {o i : Expr} {to ti : TE} {t : aJ2} (ho : PE X o to) (hi : PE X i ti) (hs : aNs X t)
  (ha : ∀ v, assign (.Subscript o i pos) X.env v = (do
   let ov ← holding [v] (eval o X.env)
   let iv ← holding [v, ov] (eval i X.env)
   standAt pos
   holding [v, ov, iv] (setItem ov iv v)
   release [v, ov, iv] []) := by intro _; rfl) : PG X (.Subscript o i pos) (aMt to ti t) := by
 intro pins s σ H v u Q I r h
 rw [ha]
 refine wpAny_bind (wpAny_holding (thn (ho pins s σ H _ I h) fun ov s1 ⟨x, H1, I1, r1, q1⟩ => ?_))
 refine wpAny_bind (wpAny_holding (thn (hi pins s1 σ H1 _ I1 q1) fun iv s2 ⟨y, H2, I2, r2, q2⟩ => ?_))
 refine wpAny_bind (wpAny_standAt (wpAny_bind (wpAny_holding (thn (hs pins s2 σ H2 x y v ov iv u _ I2 r1 r2 r q2) fun _ s3 ⟨H3, I3, q3⟩ => ?_))))
 exact wpAny_release ⟨σ, H3, I3, q3⟩
def aCb (te : TE) (g : TG) : TS := fun D σ H => te σ H fun x H1 => g x σ H1 D.nx
theorem aEs {tg e : Expr} {te : TE} {g : TG} (he : PE X e te) (hg : PG X tg g) (hs : swapsWithSole [tg] e pos.line X.env = pure false := by rfl) (hw : swappedStores [tg] e X.env = pure none := by rfl)
  (h1 : (assignEach [tg] X.env).map (·.2) = [assign tg X.env] := by rfl) : PS X (.Assign [tg] e pos) (aCb te g) := by
 intro pins s σ H D I h
 refine wpAny_Assign_stores (thn (he pins s σ H _ I h) fun v s1 ⟨x, H1, I1, r1, q1⟩ => ?_) hs hw
 rw [h1]
 exact thn (hg pins s1 σ H1 x v _ I1 r1 q1) fun _ s2 q => q
theorem aKr {i : Nat} {x : Str} {e : Expr} {te : TE} {pos' : Pos} (hN : X.N.Nodup) (hi : X.N[i]? = some x) (hx : Loc X.env.scope x) (he : PE X e te) (hs : swapsWith e (some (.Name x pos')) pos.line X.env = pure false := by rfl) (hf : X.fn x = true ∨ X.env.scope.names.lookup x = some .local := by first | exact .inl rfl | exact .inr rfl | assumption) :
  PS X (.Assign [.Name x pos'] e pos) (aCb te (oY i)) := by
 intro pins s σ H D I h
 refine wpAny_Assign_Name (thn (he pins s σ H _ I h) fun v s1 ⟨y, H1, I1, r1, q1⟩ => ?_) hs
 exact rF I1 hN hi hx r1 (fun s2 I2 => ⟨_, H1, I2, q1⟩) hf
def aM7 (i : Nat) (te : TE) (ti : TIp) : TS := fun D σ H => ∃ x, σ[i]? = some (some x) ∧ te σ H fun y H1 => ti x y H1 fun z H2 => D.nx (σ.set i (some z)) H2
theorem aLr {i : Nat} {x : Str} {e : Expr} {te : TE} {op : Operator} {ti : TIp} {pos' : Pos} (hN : X.N.Nodup) (hi : X.N[i]? = some x) (hx : Loc X.env.scope x) (he : PE X e te) (ho : PIp X op ti) (hf : X.fn x = true ∨ X.env.scope.names.lookup x = some .local := by first | exact .inl rfl | exact .inr rfl | assumption) :
  PS X (.AugAssign (.Name x pos') op e pos) (aM7 i te ti) := by
 intro pins s σ H D I h
 obtain ⟨v, e1, h⟩ := h
 obtain ⟨m, hn, hl⟩ := I.loc
 have vis : Vis X.env.scope x := by rcases hx with k | k; exact .inl k; exact .inr (.inl k)
 obtain ⟨u, r, l⟩ := hl i x v hi e1 vis
 refine wpAny_AugAssign_Name ?_
 have go : wpAny (model X.prog X.w) X.A (eval e X.env) (fun w s₂ => wpAny (model X.prog X.w) X.A (inplaceOp op u w) (fun r s₃ => wpAny (model X.prog X.w) X.A (storeName X.env x r) (fun _ => SP X pins D .next) X.xe s₃) X.xe s₂) X.xe s := by
  refine thn (he pins s σ H _ I h) fun w s1 ⟨y, H1, I1, r1, q1⟩ => ?_
  refine thn (ho pins s1 σ H1 v y u w _ I1 r r1 q1) fun z s2 ⟨zv, H2, I2, r2, q2⟩ => ?_
  exact rF I2 hN hi hx r2 (fun s3 I3 => ⟨_, H2, I3, q2⟩) hf
 rcases l with ⟨hk, hm⟩ | ⟨hk, c, hc, hcell⟩
 ·exact wpAny_loadName_local I.ok.kind hk hn hm go
 ·rcases hk with hk | hk
  ·exact wpAny_loadName_cell I.ok.kind hk hc hcell go
  ·rcases hx with k | k
   ·have : X.env.scope.names.lookup x = some .free := hk
    rw [k] at this; cases this
   ·have : X.env.scope.names.lookup x = some .free := hk
    rw [k] at this; cases this
def ipI (f : Int → Int → Int) : TIp := fun x y H Q => ∃ i j, x = .int i ∧ y = .int j ∧ Q (.int (f i j)) H
theorem aDg : PIp X .Add (ipI fun i j => i + j) := by
 intro pins s σ H x y v u Q I r1 r2 h
 obtain ⟨i, j, e1, e2, q⟩ := h
 subst e1; subst e2
 obtain ⟨t, rfl⟩ := r1
 obtain ⟨t', rfl⟩ := r2
 exact iadd_int ⟨.int _, H, I.tok _, ⟨_, rfl⟩, q⟩
end
section
variable {X : Cx} {pos : Pos}
def aEb (c : TT) (tb : TS) : TS := fun D σ H => ∃ W : Nat → St → Hp → Prop, (∃ m, W m σ H) ∧ ∀ m σ H, W m σ H →
 c σ H fun b H1 => if b = true then ∃ N : St → Hp → Prop, (∀ σ' H', N σ' H' → ∃ m', m' < m ∧ W m' σ' H') ∧ tb { D with nx := N, ct := N, bk := D.nx } σ H1 else D.nx σ H1
theorem aFr {c : Expr} {body : List Stmt} {tc : TT} {tb : TS} (hp : PassesOwn (model X.prog X.w) X.A X.env X.xe) (hc : PT X c tc) (hb : PSs X body tb) : PS X (.While c body [] pos) (aEb tc tb) := by
 intro pins s σ H D I h
 obtain ⟨W, ⟨m0, w0⟩, turn⟩ := h
 refine wpAny_While (codeAny_whileLoop (fun n s' => ∃ σ' H', Inv X pins σ' H' s' ∧ W n σ' H') ?_ m0 ⟨σ, H, I, w0⟩)
 rintro n s1 ⟨σ1, H1, I1, w1⟩
 refine wpAny_passesOwn hp (thn (hc pins s1 σ1 H1 _ I1 (turn n σ1 H1 w1)) fun b s2 ⟨H2, I2, q2⟩ => ?_)
 cases b with
 | true =>
  obtain ⟨N, hN, q2⟩ := q2
  rw [if_pos rfl]
  refine wpAny_passesOwn hp (thn (hb pins s2 σ1 H2 _ I2 q2) fun f s3 q3 => ?_)
  cases f with
  | next =>
   obtain ⟨σ3, H3, I3, n3⟩ := q3
   obtain ⟨m', hm, w3⟩ := hN σ3 H3 n3
   exact ⟨m', hm, σ3, H3, I3, w3⟩
  | cont =>
   obtain ⟨σ3, H3, I3, n3⟩ := q3
   obtain ⟨m', hm, w3⟩ := hN σ3 H3 n3
   exact ⟨m', hm, σ3, H3, I3, w3⟩
  | brk => exact q3
  | ret v => exact q3
 | false =>
  rw [if_neg Bool.false_ne_true]
  exact wpAny_execs_nil ⟨σ1, H2, I2, q2⟩
end
structure It where
 go : Nat → Hp → Prop
 yld : Nat → Hp → V → Hp → Prop
 stop : Nat → Hp → Prop
def qH (X : Cx) (pins : Y8) (H : Hp) (b : Addr) : Prop :=
 H b = none ∧ b ≠ X.env.locals ∧ b ∉ X.fs ∧ (b ∈ X.ex ∨ X.s₀.heap.objs.size ≤ b) ∧ (∀ x c, X.env.cells.lookup x = some c → c ≠ b) ∧ ∀ p ∈ X.pn ++ pins, p.1 ≠ b
theorem Inv.aFv {X : Cx} {pins : Y8} {σ : St} {H H' : Hp} {s : Shared} {b : Addr} (I : Inv X pins σ H s) (hb : s.heap.objs.size ≤ b) (hn : H' b = none) : qH X pins H' b := by
 refine ⟨hn, Nat.ne_of_gt (Nat.lt_of_lt_of_le I.lt hb), I.aRj hb, .inr (Nat.le_trans I.sz hb), fun x c e z => ?_, fun p hp z => ?_⟩
 ·obtain ⟨v, q⟩ := I.cell x c e
  exact absurd (Nat.lt_of_lt_of_le q.lt (by rw [z]; exact hb)) (Nat.lt_irrefl _)
 ·exact absurd (Nat.lt_of_lt_of_le (Heap.lt_size (I.pin p hp).1) (by rw [z]; exact hb)) (Nat.lt_irrefl _)
structure Turn (P : Program) (w : World) (K : FG) (tg : Expr) (J : It) (fp : Y2) (it : Addr) (tn : Nat → Heap → Prop) : Prop where
 mem : it ∈ fp
 obj : ∀ i h, tn i h → ∀ b ∈ fp, ∃ o, h.get? b = some o ∧ ∀ v, o.data ≠ .cell v
 keep : ∀ i h h', tn i h → (∀ b ∈ fp, ∀ o, h.get? b = some o → h'.get? b = some o) → tn i h'
 item : ∀ (X : Cx), X.prog = P → X.w = w → X.K = K → X.calm = true → ∀ (i : Nat) (pins : Y8) (s : Shared) (σ : St) (H : Hp) (E : Y9), Inv X pins σ H s → (∀ b ∈ fp, qH X pins H b) → tn i s.heap → J.go i H →
  wpAny (model P w) X.A (pyNext (.ref it)) (fun r s1 => ∃ u, r = some u ∧
   wpAny (model P w) X.A (letOwnedTupleGo tg (.ref it) u) (fun _ s2 => ∃ x H', Inv X pins σ H' s2 ∧ RelV x u ∧ J.yld i H x H' ∧ tn (i + 1) s2.heap ∧ ∀ b ∈ fp, H' b = none) E s1) E s
 done : ∀ (X : Cx), X.prog = P → X.w = w → X.K = K → X.calm = true → ∀ (i : Nat) (pins : Y8) (s : Shared) (σ : St) (H : Hp) (E : Y9), Inv X pins σ H s → (∀ b ∈ fp, qH X pins H b) → tn i s.heap → J.stop i H →
  wpAny (model P w) X.A (pyNext (.ref it)) (fun r s1 => r = none ∧ Inv X pins σ H s1) E s
 self : ∀ (A : Around) (i : Nat) (s : Shared) (Q : Y9) (E : Y9), tn i s.heap → Q (.ref it) s → wpAny (model P w) A (pyIter (.ref it)) Q E s
abbrev TI := St → Hp → (It → Hp → Prop) → Prop
def PIE (X : Cx) (pins : Y8) (σ : St) (tg : Expr) (R : It → Hp → Prop) (itv : Value) (s2 : Shared) : Prop :=
 ∃ (it : Addr) (fp : Y2) (tn : Nat → Heap → Prop) (J : It) (H' : Hp), itv = .ref it ∧ Inv X pins σ H' s2 ∧ Turn X.prog X.w X.K tg J fp it tn ∧ tn 0 s2.heap ∧ (∀ b ∈ fp, qH X pins H' b) ∧ R J H'
def PI (X : Cx) (tg iter : Expr) (wi : TI) : Prop :=
 ∀ (pins : Y8) (s : Shared) (σ : St) (H : Hp) (R : It → Hp → Prop), Inv X pins σ H s → wi σ H R →
  wpAny (model X.prog X.w) X.A (eval iter X.env) (fun v s1 => wpAny (model X.prog X.w) X.A (pyIter v) (PIE X pins σ tg R) X.xe s1) X.xe s
theorem aC5 {M : Model} {A : Around} {E : Y9} {s : Shared} {tg : Expr} {it : Addr} {u : Value} {o : Obj} {n : String} {vs : Array Value} {Q : Unit → Shared → Prop} (ho : s.heap.get? it = some o) (hc : o.cls = .type n) (hd : o.data = .fields vs)
  (hn : ["enumerate", "zip", "dict_itemiterator", "dict_reverseitemiterator", "odict_iterator", "itertools.zip_longest", "itertools.pairwise"].contains n = false) (hQ : Q () s) : wpAny M A (letOwnedTupleGo tg (.ref it) u) Q E s := by
 unfold letOwnedTupleGo
 cases tg <;> first
  | exact wpAny_pure hQ
  | (cases u <;> first
    | exact wpAny_pure hQ
    | (refine wpAny_bind (wpAny_load ho ?_)
       rw [hc, hd]
       show wpAny M A (if (["enumerate", "zip", "dict_itemiterator", "dict_reverseitemiterator", "odict_iterator", "itertools.zip_longest", "itertools.pairwise"].contains n && vs[0]? == some (rawInt _)) = true then _ else _) Q E s
       rw [if_neg (by intro h; rw [hn, Bool.false_and] at h; cases h)]
       exact wpAny_pure hQ))
def Itl (K : FG) (a : Addr) : It :=
 ⟨fun i H => ∃ xs x, SqL K H a xs ∧ xs[i]? = some x, fun i H x H' => H' = H ∧ ∀ xs, SqL K H a xs → xs[i]? = some x, fun i H => ∃ xs, SqL K H a xs ∧ xs.length ≤ i⟩
def Itt (K : FG) (a : Addr) : It :=
 ⟨fun i H => ∃ xs x, SqT K H a xs ∧ xs[i]? = some x, fun i H x H' => H' = H ∧ ∀ xs, SqT K H a xs → xs[i]? = some x, fun i H => ∃ xs, SqT K H a xs ∧ xs.length ≤ i⟩
def Itr (lo : Int) (n : Nat) : It := ⟨fun i _ => i < n, fun i H x H' => H' = H ∧ x = .int (lo + i), fun i _ => n ≤ i⟩
theorem aB0 {P : Program} {w : World} {K : FG} {tg : Expr} (a it : Addr) : Turn P w K tg (Itl K a) [it] it (fun i h => h.IsListIter it a i) where
 mem := by simp
 obj := fun i h st b hb => by
  have e : b = it := by simpa using hb
  subst e
  obtain ⟨o, e, c, d⟩ := st
  exact ⟨o, e, fun v z => by rw [d] at z; cases z⟩
 keep := fun i h h' st k => st.at fun o e => k it (by simp) o e
 item := by
  intro X hP hw hK hc i pins s σ H E I hf st hg
  subst hP hw hK
  obtain ⟨xs, x, hq, hx⟩ := hg
  obtain ⟨its, rv, p, hz⟩ := I.list hq
  obtain ⟨u, hu, ru⟩ := rv.get hx
  obtain ⟨f0, f1, f2, f3, f4, f5⟩ := hf it (by simp)
  refine wpAny_pyNext_list_item st p.isList (x := u) (by simpa using hu) fun h' st' sb => ?_
  have I1 : Inv X pins σ H { s with heap := h' } := I.turned (t' := s.toks) (fun b o hb e => (sb.2 b hb).trans e) f0 f1 f3 f4 f5
  obtain ⟨o, e, c, d⟩ := id st'
  exact ⟨u, rfl, aC5 (s := { s with heap := h' }) e c d (by decide) ⟨x, H, I1, ru, ⟨rfl, fun ys hy => by rw [I.yH hy hq]; exact hx⟩, st', fun b hb => (hf b hb).1⟩⟩
 done := by
  intro X hP hw hK hc i pins s σ H E I hf st hg
  subst hP hw hK
  obtain ⟨xs, hq, hx⟩ := hg
  obtain ⟨its, rv, p, hz⟩ := I.list hq
  obtain ⟨f0, f1, f2, f3, f4, f5⟩ := hf it (by simp)
  have hl := rv.length
  exact wpAny_pyNext_list_end (I.ok.hd hc) st p.isList (by simp; omega) fun h' eb => ⟨rfl, I.turned (t' := s.toks) (fun b o hb e => eb b o hb e) f0 f1 f3 f4 f5⟩
 self := fun _ _ _ _ _ st h => wpAny_pyIter_listiter st h
theorem yW {P : Program} {w : World} {K : FG} {tg : Expr} (a it : Addr) : Turn P w K tg (Itt K a) [it] it (fun i h => h.IsTupleIter it a i) where
 mem := by simp
 obj := fun i h st b hb => by
  have e : b = it := by simpa using hb
  subst e
  obtain ⟨o, e, c, d⟩ := st
  exact ⟨o, e, fun v z => by rw [d] at z; cases z⟩
 keep := fun i h h' st k => st.at fun o e => k it (by simp) o e
 item := by
  intro X hP hw hK hc i pins s σ H E I hf st hg
  subst hP hw hK
  obtain ⟨xs, x, hq, hx⟩ := hg
  obtain ⟨its, rv, p, hz⟩ := I.tuple hq
  obtain ⟨u, hu, ru⟩ := rv.get hx
  obtain ⟨f0, f1, f2, f3, f4, f5⟩ := hf it (by simp)
  refine wpAny_pyNext_tuple_item st (show s.heap.IsTuple a its.toArray from p) (x := u) (by simpa using hu) fun h' st' sb => ?_
  have I1 : Inv X pins σ H { s with heap := h' } := I.turned (t' := s.toks) (fun b o hb e => (sb.2 b hb).trans e) f0 f1 f3 f4 f5
  obtain ⟨o, e, c, d⟩ := id st'
  exact ⟨u, rfl, aC5 (s := { s with heap := h' }) e c d (by decide) ⟨x, H, I1, ru, ⟨rfl, fun ys hy => by rw [I.aCz hy hq]; exact hx⟩, st', fun b hb => (hf b hb).1⟩⟩
 done := by
  intro X hP hw hK hc i pins s σ H E I hf st hg
  subst hP hw hK
  obtain ⟨xs, hq, hx⟩ := hg
  obtain ⟨its, rv, p, hz⟩ := I.tuple hq
  obtain ⟨f0, f1, f2, f3, f4, f5⟩ := hf it (by simp)
  have hl := rv.length
  exact wpAny_pyNext_tuple_end (I.ok.hd hc) st (show s.heap.IsTuple a its.toArray from p) (by simp; omega) fun h' eb => ⟨rfl, I.turned (t' := s.toks) (fun b o hb e => eb b o hb e) f0 f1 f3 f4 f5⟩
 self := fun _ _ _ _ _ st h => wpAny_pyIter_tupleiter st h
theorem zW {P : Program} {w : World} {K : FG} {tg : Expr} (it : Addr) (lo : Int) (n : Nat) : Turn P w K tg (Itr lo n) [it] it (fun i h => IsRangeIter h it (lo + (i : Nat) * 1) ((n : Int) - (i : Nat)) 1) where
 mem := by simp
 obj := fun i h st b hb => by
  have e : b = it := by simpa using hb
  subst e
  exact ⟨_, st, fun v z => by
   have z' : Data.fields _ = Data.cell v := z
   cases z'⟩
 keep := fun i h h' st k => k it (by simp) _ st
 item := by
  intro X hP hw hK hc i pins s σ H E I hf st hg
  subst hP hw hK
  obtain ⟨f0, f1, f2, f3, f4, f5⟩ := hf it (by simp)
  have W := Walks.range (prog := X.prog) (w := X.w) (I.ok.hd hc) it lo 1 n
  refine W.item i s _ _ hg st fun v h' tk hv st' kk => ?_
  obtain ⟨t, rfl⟩ := hv
  have I1 : Inv X pins σ H { s with heap := h', toks := tk } := I.turned (fun b o hb e => kk b o (by simpa using hb) e) f0 f1 f3 f4 f5
  refine ⟨_, rfl, aC5 (s := { s with heap := h', toks := tk }) (n := "range_iterator") st' rfl rfl (by decide) ⟨.int (lo + i), H, I1, ⟨t, ?_⟩, ⟨rfl, rfl⟩, st', fun b hb => (hf b hb).1⟩⟩
  rw [Int.mul_one]
 done := by
  intro X hP hw hK hc i pins s σ H E I hf st hg
  subst hP hw hK
  obtain ⟨f0, f1, f2, f3, f4, f5⟩ := hf it (by simp)
  exact wpAny_pyNext_range_end (I.ok.hd hc) st (by have : n ≤ i := hg; omega) fun h' eb => ⟨rfl, I.turned (t' := s.toks) (fun b o hb e => eb b o hb e) f0 f1 f3 f4 f5⟩
 self := fun _ _ _ _ _ st h => wpAny_pyIter_rangeiter st h
end L2
namespace L2
open PySem PySem.Spec PyProof.Rows
section
variable {X : Cx} {tg : Expr}
def aFc (K : FG) (tl : TE) : TI := fun σ H R => tl σ H fun x H1 => ∃ a, x = .ref a ∧ (∃ xs, SqL K H1 a xs) ∧ R (Itl K a) H1
def aLe (K : FG) (tl : TE) : TI := fun σ H R => tl σ H fun x H1 => ∃ a, x = .ref a ∧ (∃ xs, SqT K H1 a xs) ∧ R (Itt K a) H1
theorem aGc {l : Expr} {tl : TE} (hl : PE X l tl) : PI X tg l (aFc X.K tl) := by
 intro pins s σ H R I h
 refine thn (hl pins s σ H _ I h) fun v s1 ⟨x, H1, I1, r1, q1⟩ => ?_
 obtain ⟨a, e, ⟨xs, hq⟩, q⟩ := q1
 subst e
 cases r1
 obtain ⟨its, rv, p, hz⟩ := I1.list hq
 refine wpAny_pyIter_list p.isList ?_
 refine ⟨s1.heap.objs.size, [s1.heap.objs.size], _, _, H1, rfl, I1.kept (t' := s1.toks) fun b o e => Heap.get?_push_of_some _ e, aB0 a _, ⟨_, Heap.get?_push_size _ rfl, rfl, rfl⟩, fun b hb => ?_, q⟩
 have e : b = s1.heap.objs.size := by simpa using hb
 subst e
 exact I1.aFv (Nat.le_refl _) (I1.hok.fresh (Nat.le_refl _))
theorem aLl {l : Expr} {tl : TE} (hl : PE X l tl) : PI X tg l (aLe X.K tl) := by
 intro pins s σ H R I h
 refine thn (hl pins s σ H _ I h) fun v s1 ⟨x, H1, I1, r1, q1⟩ => ?_
 obtain ⟨a, e, ⟨xs, hq⟩, q⟩ := q1
 subst e
 cases r1
 obtain ⟨its, rv, p, hz⟩ := I1.tuple hq
 refine wpAny_pyIter_tuple (show s1.heap.IsTuple a its.toArray from p) ?_
 refine ⟨s1.heap.objs.size, [s1.heap.objs.size], _, _, H1, rfl, I1.kept (t' := s1.toks) fun b o e => Heap.get?_push_of_some _ e, yW a _, ⟨_, Heap.get?_push_size _ rfl, rfl, rfl⟩, fun b hb => ?_, q⟩
 have e : b = s1.heap.objs.size := by simpa using hb
 subst e
 exact I1.aFv (Nat.le_refl _) (I1.hok.fresh (Nat.le_refl _))
theorem wJ {pins : Y8} {σ : St} {H : Hp} {s : Shared} {R : It → Hp → Prop} {E : Y9} {lo hi : Int} {t u v : Tok} {tk : Nat} (I : Inv X pins σ H s) (h1 : -(2 ^ 62) ≤ lo) (h2 : lo < 2 ^ 62) (h3 : -(2 ^ 62) ≤ hi) (h4 : hi < 2 ^ 62)
  (q : R (Itr lo (hi - lo).toNat) H) : wpAny (model X.prog X.w) X.A (pyIter (.ref s.heap.objs.size)) (PIE X pins σ tg R) E { s with heap := s.heap.push { cls := .type "range", data := .fields #[.int lo t, .int hi u, .int 1 v] }, toks := tk } := by
 refine wpAny_pyIter_range (IsRange.new ..) (small_one h1 h2 h3 h4) ?_
 have I1 : Inv X pins σ H { s with heap := s.heap.push { cls := .type "range", data := .fields #[.int lo t, .int hi u, .int 1 v] }, toks := tk } := I.kept fun b o e => Heap.get?_push_of_some _ e
 refine ⟨(s.heap.push { cls := .type "range", data := .fields #[.int lo t, .int hi u, .int 1 v] }).objs.size, [(s.heap.push { cls := .type "range", data := .fields #[.int lo t, .int hi u, .int 1 v] }).objs.size], _, _, H, rfl,
  I1.kept (t' := tk) fun b o e => Heap.get?_push_of_some _ e, zW _ lo (hi - lo).toNat, ?_, fun b hb => ?_, q⟩
 ·have e1 : lo + ((0 : Nat) : Int) * 1 = lo := by simp
  have e2 : (((hi - lo).toNat : Nat) : Int) - ((0 : Nat) : Int) = Builtin.Range.rangeSize lo hi 1 := by rw [rangeSize_one]; split <;> omega
  show IsRangeIter _ _ (lo + ((0 : Nat) : Int) * 1) ((((hi - lo).toNat : Nat) : Int) - ((0 : Nat) : Int)) 1
  rw [e1, e2]
  exact Heap.get?_push_size _ rfl
 ·have e : b = (s.heap.push { cls := .type "range", data := .fields #[.int lo t, .int hi u, .int 1 v] }).objs.size := by simpa using hb
  subst e
  exact I1.aFv (Nat.le_refl _) (I1.hok.fresh (Nat.le_refl _))
def aIe (ta : TA) : TI := fun σ H R => ta σ H fun vs H1 => ∃ j : Int, vs = [.int j] ∧ -(2 ^ 62) ≤ j ∧ j < 2 ^ 62 ∧ R (Itr 0 j.toNat) H1
def aIn (ta : TA) : TI := fun σ H R => ta σ H fun vs H1 => ∃ i j : Int, vs = [.int i, .int j] ∧ (-(2 ^ 62) ≤ i ∧ i < 2 ^ 62 ∧ -(2 ^ 62) ≤ j ∧ j < 2 ^ 62) ∧ R (Itr i (j - i).toNat) H1
theorem aCr {a : Expr} {ta : TA} {p pos : Pos} (hg : Gl X "range") (hm : X.mg "range" = none) (ha : PA X [a] ta) (hs : starEach [a] X.env = [(false, eval a X.env)] := by rfl) : PI X tg (.Call (.Name "range" p) [a] [] pos) (aIe ta) := by
 intro pins s σ H R I h
 refine Call_ (iV I hg hm boot_range (PyProof.Rows.callWith_type1 (thn (ha pos pins s σ H _ I h) fun us s1 ⟨vs, H1, I1, r1, q1⟩ => ?_) hs rfl))
 obtain ⟨j, e, q1, q2, q⟩ := q1
 subst e
 cases r1 with
 | cons r rr =>
  cases rr
  obtain ⟨t, rfl⟩ := r
  exact call_range_1 (wJ I1 (by omega) (by omega) q1 q2 (by simpa using q))
theorem aBo {a b : Expr} {ta : TA} {p pos : Pos} (hg : Gl X "range") (hm : X.mg "range" = none) (ha : PA X [a, b] ta) (hs : starEach [a, b] X.env = [(false, eval a X.env), (false, eval b X.env)] := by rfl) (hs2 : starEach [b] X.env = [(false, eval b X.env)] := by rfl) :
  PI X tg (.Call (.Name "range" p) [a, b] [] pos) (aIn ta) := by
 intro pins s σ H R I h
 refine Call_ (iV I hg hm boot_range (PyProof.Rows.callWith_type1 (thn (ha pos pins s σ H _ I h) fun us s1 ⟨vs, H1, I1, r1, q1⟩ => ?_) (by rw [hs, hs2]) (by rw [hs2]; rfl)))
 obtain ⟨i, j, e, ⟨q1, q2, q3, q4⟩, q⟩ := q1
 subst e
 cases r1 with
 | cons r rr =>
  cases rr with
  | cons r' rr =>
   cases rr
   obtain ⟨t, rfl⟩ := r
   obtain ⟨t', rfl⟩ := r'
   exact call_range_2 (wJ I1 q1 q2 q3 q4 q)
def aOn (wi : TI) (g : TG) (tb : TS) : TS := fun D σ H => wi σ H fun J H1 => ∃ W : Nat → Nat → St → Hp → Prop, (∃ m, W 0 m σ H1) ∧ ∀ i m σ H, W i m σ H →
 (J.stop i H ∧ D.nx σ H) ∨ (J.go i H ∧ ∃ N : St → Hp → Prop, (∀ σ' H', N σ' H' → ∃ m', m' < m ∧ W (i + 1) m' σ' H') ∧ ∀ x H', J.yld i H x H' → g x σ H' fun σ2 H2 => tb { D with nx := N, ct := N, bk := D.nx } σ2 H2)
def qL (fp : Y2) (h : Heap) : Y8 := fp.filterMap fun b => (h.get? b).map fun o => (b, o)
theorem jV {fp : Y2} {h : Heap} {b : Addr} {o : Obj} (hb : b ∈ fp) (e : h.get? b = some o) : (b, o) ∈ qL fp h := List.mem_filterMap.mpr ⟨b, hb, by rw [e]; rfl⟩
theorem aCo {fp : Y2} {h : Heap} {p : Addr × Obj} (hp : p ∈ qL fp h) : p.1 ∈ fp ∧ h.get? p.1 = some p.2 := by
 obtain ⟨b, hb, e⟩ := List.mem_filterMap.mp hp
 cases q : h.get? b with
 | none => rw [q] at e; cases e
 | some o =>
  rw [q] at e
  have e' : (b, o) = p := Option.some.inj e
  subst e'
  exact ⟨hb, q⟩
theorem Inv.pinned {pins : Y8} {σ : St} {H : Hp} {s : Shared} {fp : Y2} (I : Inv X pins σ H s) (hf : ∀ b ∈ fp, qH X pins H b) (ho : ∀ b ∈ fp, ∃ o, s.heap.get? b = some o ∧ ∀ v, o.data ≠ .cell v) : Inv X (pins ++ qL fp s.heap) σ H s :=
 I.aBj fun p hp => (List.mem_append.mp hp).elim (fun z => I.pin p (List.mem_append_right _ z)) fun z => by
  obtain ⟨hb, e⟩ := aCo z
  obtain ⟨f0, f1, f2, _⟩ := hf p.1 hb
  obtain ⟨o, e', d⟩ := ho p.1 hb
  rw [e] at e'; cases e'
  exact ⟨e, f0, f1, f2, d⟩
theorem Inv.oF {pins pl : Y8} {σ : St} {H : Hp} {s : Shared} (I : Inv X (pins ++ pl) σ H s) : Inv X pins σ H s := I.aBj fun p hp => I.pin p (List.mem_append_right _ (List.mem_append_left _ hp))
theorem aL6 {iter : Expr} {body : List Stmt} {wi : TI} {g : TG} {tb : TS} {pos : Pos} (hp : PassesOwn (model X.prog X.w) X.A X.env X.xe) (hc : X.calm = true) (hi : PI X tg iter wi) (hg : PG X tg g) (hb : PSs X body tb)
  (hs : ∀ x, foldedSetIterable iter X.env x = pure x := by intro _; rfl) : PS X (.For tg iter body [] pos) (aOn wi g tb) := by
 intro pins s σ H D I h
 refine wpAny_For (thn (hi pins s σ H _ I h) fun v s1 h1 => thn h1 fun itv s2 h2 => ?_) hs
 obtain ⟨it, fp, tn, J, H2, e, I2, T, st2, f2, W, ⟨m0, w0⟩, turn⟩ := h2
 subst e
 have stat : ∀ {H' : Hp}, (∀ b ∈ fp, H' b = none) → ∀ b ∈ fp, qH X pins H' b := fun hn b hb => ⟨hn b hb, (f2 b hb).2⟩
 refine codeAny_forLoop_any (fun n s' => ∃ i σ' H', Inv X pins σ' H' s' ∧ tn i s'.heap ∧ (∀ b ∈ fp, H' b = none) ∧ W i n σ' H') ?_ m0 ⟨0, σ, H2, I2, st2, fun b hb => (f2 b hb).1, w0⟩
 rintro n s3 ⟨i, σ3, H3, I3, st3, fr3, w3⟩
 rcases turn i n σ3 H3 w3 with ⟨stop, qn⟩ | ⟨go, N, hN, step⟩
 ·refine wpAny_passesOwn hp (thn (T.done X rfl rfl rfl hc i pins s3 σ3 H3 X.xe I3 (stat fr3) st3 stop) fun r s4 ⟨hr, I4⟩ => ?_)
  subst hr
  exact wpAny_execs_nil ⟨σ3, H3, I4, qn⟩
 ·refine wpAny_passesOwn hp (thn (T.item X rfl rfl rfl hc i pins s3 σ3 H3 X.xe I3 (stat fr3) st3 go) fun r s4 ⟨u, hr, h4⟩ => ?_)
  subst hr
  refine wpAny_passesOwn hp (thn h4 fun _ s5 ⟨x, H5, I5, r5, y5, st5, fr5⟩ => ?_)
  have I5' := I5.pinned (stat fr5) (T.obj _ _ st5)
  refine wpAny_passesOwn hp (thn (hg _ s5 σ3 H5 x u _ I5' r5 (step x H5 y5)) fun _ s6 ⟨σ6, H6, I6, q6⟩ => ?_)
  refine wpAny_passesOwn hp (thn (hb _ s6 σ6 H6 _ I6 q6) fun f s7 q7 => ?_)
  have again : ∀ {σ7 : St} {H7 : Hp}, Inv X (pins ++ qL fp s5.heap) σ7 H7 s7 → N σ7 H7 → ∃ m, m < n ∧ ∃ i σ' H', Inv X pins σ' H' s7 ∧ tn i s7.heap ∧ (∀ b ∈ fp, H' b = none) ∧ W i m σ' H' := fun {σ7 H7} I7 n7 => by
   obtain ⟨m', hm, w7⟩ := hN σ7 H7 n7
   refine ⟨m', hm, i + 1, σ7, H7, I7.oF, T.keep _ _ _ st5 fun b hb o e => (I7.pin (b, o) (List.mem_append_right _ (List.mem_append_right _ (jV hb e)))).1, fun b hb => ?_, w7⟩
   obtain ⟨o, e, d⟩ := T.obj _ _ st5 b hb
   exact (I7.pin (b, o) (List.mem_append_right _ (List.mem_append_right _ (jV hb e)))).2.1
  cases f with
  | next => obtain ⟨σ7, H7, I7, n7⟩ := q7; exact again I7 n7
  | cont => obtain ⟨σ7, H7, I7, n7⟩ := q7; exact again I7 n7
  | brk => obtain ⟨σ7, H7, I7, q7⟩ := q7; exact ⟨σ7, H7, I7.oF, q7⟩
  | ret v => obtain ⟨x7, σ7, H7, I7, r7, q7⟩ := q7; exact ⟨x7, σ7, H7, I7.oF, r7, q7⟩
end
end L2
namespace L2
open PySem PySem.Spec PyProof.Rows
abbrev R2 := V → V → Hp → VK → Prop
def OpR (X : Cx) (f : Value → Value → Sem Value) (r : R2) : Prop :=
 ∀ (pins : Y8) (s : Shared) (σ : St) (H : Hp) (x y : V) (v u : Value) (Q : VK), Inv X pins σ H s → RelV x v → RelV y u → r x y H Q →
  wpAny (model X.prog X.w) X.A (f v u) (EP X pins σ Q) X.xe s
def UnR (X : Cx) (f : Value → Sem Value) (r : V → Hp → VK → Prop) : Prop :=
 ∀ (pins : Y8) (s : Shared) (σ : St) (H : Hp) (x : V) (v : Value) (Q : VK), Inv X pins σ H s → RelV x v → r x H Q →
  wpAny (model X.prog X.w) X.A (f v) (EP X pins σ Q) X.xe s
def lT (X : Cx) (f : Value) (r : List V → Hp → VK → Prop) : Prop :=
 ∀ (pins : Y8) (s : Shared) (σ : St) (H : Hp) (xs : List V) (us : Y1) (Q : VK), Inv X pins σ H s → Vals xs us → r xs H Q →
  wpAny (model X.prog X.w) X.A (call f us) (EP X pins σ Q) X.xe s
def aQ0 (X : Cx) (r : V → Hp → (Bool → Hp → Prop) → Prop) : Prop :=
 ∀ (pins : Y8) (s : Shared) (σ : St) (H : Hp) (x : V) (v : Value) (Q : Bool → Hp → Prop), Inv X pins σ H s → RelV x v → r x H Q →
  wpAny (model X.prog X.w) X.A (truthy v) (TP X pins σ Q) X.xe s
def tOp (r : R2) (ta tb : TE) : TE := fun σ H Q => ta σ H fun x H1 => tb σ H1 fun y H2 => r x y H2 Q
def tUn (r : V → Hp → VK → Prop) (ta : TE) : TE := fun σ H Q => ta σ H fun x H1 => r x H1 Q
def rI (C : Int → Int → Prop) (g : Int → Int → V) : R2 := fun x y H Q => ∃ i j, x = .int i ∧ y = .int j ∧ C i j ∧ Q (g i j) H
def rI0 (g : Int → Int → V) : R2 := fun x y H Q => ∃ i j, x = .int i ∧ y = .int j ∧ Q (g i j) H
def rU (g : Int → V) : V → Hp → VK → Prop := fun x H Q => ∃ i, x = .int i ∧ Q (g i) H
section
variable {X : Cx} {a b c : Expr} {ta tb tc : TE} {pos : Pos}
theorem aKk (ha : PE X a ta) (hb : PE X b tb) {pins : Y8} {s : Shared} {σ : St} {H : Hp} {R : V → V → Hp → Prop} (I : Inv X pins σ H s)
  (h : ta σ H fun x H1 => tb σ H1 fun y H2 => R x y H2) {Q : Y9} {f : Value → Value → Sem Value}
  (hf : ∀ v u s2 x y H2, Inv X pins σ H2 s2 → RelV x v → RelV y u → R x y H2 → wpAny (model X.prog X.w) X.A (f v u) Q X.xe s2) :
  wpAny (model X.prog X.w) X.A (eval a X.env) (fun v s₁ => wpAny (model X.prog X.w) X.A (eval b X.env) (fun u s₂ => wpAny (model X.prog X.w) X.A (f v u) Q X.xe s₂) X.xe s₁) X.xe s := by
 refine thn (ha pins s σ H _ I h) fun v s1 ⟨x, H1, I1, r1, q1⟩ => ?_
 refine thn (hb pins s1 σ H1 _ I1 q1) fun u s2 ⟨y, H2, I2, r2, q2⟩ => ?_
 exact hf v u s2 x y H2 I2 r1 r2 q2
theorem aN1 {op : Operator} {r : R2} (ho : OpR X (binaryOp op) r) (ha : PE X a ta) (hb : PE X b tb) : PE X (.BinOp a op b pos) (tOp r ta tb) := by
 intro pins s σ H Q I h
 exact wpAny_BinOp (aKk ha hb I h fun v u s2 x y H2 I2 rx ry q => ho pins s2 σ H2 x y v u Q I2 rx ry q)
theorem aMq {op : UnaryOp} {r : V → Hp → VK → Prop} (ho : UnR X (unaryOp op) r) (ha : PE X a ta) : PE X (.UnaryOp op a pos) (tUn r ta) := by
 intro pins s σ H Q I h
 exact UnaryOp_ (thn (ha pins s σ H _ I h) fun v s1 ⟨x, H1, I1, r1, q1⟩ => ho pins s1 σ H1 x v Q I1 r1 q1)
theorem opI {f : Value → Value → Sem Value} {C : Int → Int → Prop} {g : Int → Int → Int}
  (rule : ∀ (i j : Int) (t u : Tok) (s : Shared) (Q : Y9) (E : Y9), C i j → Q (.int (g i j) s.toks) { s with toks := s.toks + 1 } → wpAny (model X.prog X.w) X.A (f (.int i t) (.int j u)) Q E s) :
  OpR X f (rI C fun i j => .int (g i j)) := by
 intro pins s σ H x y v u Q I rx ry h
 obtain ⟨i, j, rfl, rfl, hc, q⟩ := h
 obtain ⟨t, rfl⟩ := rx
 obtain ⟨t', rfl⟩ := ry
 exact rule i j t t' s _ _ hc ⟨.int (g i j), H, I.tok _, ⟨_, rfl⟩, q⟩
theorem aMs {f : Value → Value → Sem Value} {g : Int → Int → Int}
  (rule : ∀ (i j : Int) (t u : Tok) (s : Shared) (Q : Y9) (E : Y9), Q (.int (g i j) s.toks) { s with toks := s.toks + 1 } → wpAny (model X.prog X.w) X.A (f (.int i t) (.int j u)) Q E s) :
  OpR X f (rI0 fun i j => .int (g i j)) := by
 intro pins s σ H x y v u Q I rx ry h
 obtain ⟨i, j, rfl, rfl, q⟩ := h
 obtain ⟨t, rfl⟩ := rx
 obtain ⟨t', rfl⟩ := ry
 exact rule i j t t' s _ _ ⟨.int (g i j), H, I.tok _, ⟨_, rfl⟩, q⟩
theorem aK8 {f : Value → Value → Sem Value} {g : Int → Int → Bool}
  (rule : ∀ (i j : Int) (t u : Tok) (s : Shared) (Q : Y9) (E : Y9), Q (.bool (g i j)) s → wpAny (model X.prog X.w) X.A (f (.int i t) (.int j u)) Q E s) :
  OpR X f (rI0 fun i j => .bl (g i j)) := by
 intro pins s σ H x y v u Q I rx ry h
 obtain ⟨i, j, rfl, rfl, q⟩ := h
 obtain ⟨t, rfl⟩ := rx
 obtain ⟨t', rfl⟩ := ry
 exact rule i j t t' s _ _ ⟨.bl (g i j), H, I, rfl, q⟩
theorem aJy : OpR X (binaryOp .Add) (rI0 fun i j => .int (i + j)) := aMs fun _ _ _ _ _ _ _ q => add_int q
theorem aK3 : OpR X (binaryOp .Sub) (rI0 fun i j => .int (i - j)) := aMs fun _ _ _ _ _ _ _ q => sub_int q
theorem aJ5 : OpR X (binaryOp .Mod) (rI (fun _ j => 0 < j) fun i j => .int (i % j)) := opI fun i j _ _ _ _ _ hc q => by
 have h1 : (0 : Int) < j := hc
 exact mod_int' (by omega) (by rw [Int.fmod_eq_emod_of_nonneg i (by omega)]; exact q)
theorem unI {f : Value → Sem Value} {g : Int → Int}
  (rule : ∀ (i : Int) (t : Tok) (s : Shared) (Q : Y9) (E : Y9), Q (.int (g i) s.toks) { s with toks := s.toks + 1 } → wpAny (model X.prog X.w) X.A (f (.int i t)) Q E s) :
  UnR X f (rU fun i => .int (g i)) := by
 intro pins s σ H x v Q I rx h
 obtain ⟨i, rfl, q⟩ := h
 obtain ⟨t, rfl⟩ := rx
 exact rule i t s _ _ ⟨.int (g i), H, I.tok _, ⟨_, rfl⟩, q⟩
theorem aJu : UnR X (unaryOp .USub) (rU fun i => .int (-i)) := unI fun _ _ _ _ _ q => neg_int q
end
section
variable {X : Cx} {a b c : Expr} {ta tb tc : TE} {pos : Pos}
theorem aFp {pins : Y8} {σ : St} {H : Hp} {s : Shared} {Q : VK} {k k' : Bool} (I : Inv X pins σ H s) (q : Q (.bl k) H) (e : k = k') : EP X pins σ Q (.bool k') s := by
 subst e
 exact ⟨.bl k, H, I, rfl, q⟩
theorem aMx : OpR X (compareOp .Lt) (rI0 fun i j => .bl (decide (i < j))) := aK8 fun _ _ _ _ _ _ _ q => lt_int q
theorem aJc : OpR X (compareOp .LtE) (rI0 fun i j => .bl (decide (i ≤ j))) := aK8 fun _ _ _ _ _ _ _ q => le_int q
theorem aIo : OpR X (compareOp .Gt) (rI0 fun i j => .bl (decide (j < i))) := aK8 fun _ _ _ _ _ _ _ q => gt_int q
theorem aKw : OpR X (compareOp .Is) (fun x y H Q => y = .non ∧ Q (.bl (decide (x = .non))) H) := by
 intro pins s σ H x y v u Q I rx ry h
 obtain ⟨rfl, q⟩ := h
 cases ry
 refine is_none_gen (aFp I q ?_)
 cases x <;> first
  | (cases rx; rfl)
  | (obtain ⟨t, rfl⟩ := rx; rfl)
theorem aAj : OpR X (compareOp .IsNot) (fun x y H Q => y = .non ∧ Q (.bl (!decide (x = .non))) H) := by
 intro pins s σ H x y v u Q I rx ry h
 obtain ⟨rfl, q⟩ := h
 cases ry
 refine isnot_none_gen (aFp I q ?_)
 cases x <;> first
  | (cases rx; rfl)
  | (obtain ⟨t, rfl⟩ := rx; rfl)
theorem OpR.or {f : Value → Value → Sem Value} {r r' : R2} (h : OpR X f r) (h' : OpR X f r') : OpR X f (fun x y H Q => r x y H Q ∨ r' x y H Q) := by
 intro pins s σ H x y v u Q I rx ry q
 rcases q with q | q
 ·exact h pins s σ H x y v u Q I rx ry q
 ·exact h' pins s σ H x y v u Q I rx ry q
theorem iM (b : Expr) {op : CmpOp} (h : op ≠ .In := by decide) (h2 : op ≠ .NotIn := by decide) : behindInMarks op b = false := by
 have e1 : (op == CmpOp.In) = false := by cases op <;> first | rfl | exact absurd rfl h
 have e2 : (op == CmpOp.NotIn) = false := by cases op <;> first | rfl | exact absurd rfl h2
 cases b <;> simp [behindInMarks, e1, e2]
theorem aGm {op : CmpOp} {r : R2} (ho : OpR X (compareOp op) r) (ha : PE X a ta) (hb : PE X b tb) (hm : behindInMarks op b = false) : PE X (.Compare a [op] [b] pos) (tOp r ta tb) := by
 intro pins s σ H Q I h
 exact wpAny_Compare1 (aKk ha hb I h fun v u s2 x y H2 I2 rx ry q => ho pins s2 σ H2 x y v u Q I2 rx ry q) hm
def aAs (t : TE) : TT := fun σ H Q => t σ H fun x H' => ∃ k, x = .bl k ∧ Q k H'
theorem aGs {op : CmpOp} {r : R2} (ho : OpR X (compareOp op) r) (ha : PE X a ta) (hb : PE X b tb) (hm : behindInMarks op b = false) : PT X (.Compare a [op] [b] pos) (aAs (tOp r ta tb)) := by
 intro pins s σ H Q I h
 refine wpAny_isTrue_Compare1 (thn (ha pins s σ H _ I h) fun v s1 ⟨x, H1, I1, r1, q1⟩ => thn (hb pins s1 σ H1 _ I1 q1) fun u s2 ⟨y, H2, I2, r2, q2⟩ =>
  thn (ho pins s2 σ H2 x y v u _ I2 r1 r2 q2) fun c s3 ⟨z, H3, I3, r3, k, e, q3⟩ => ?_) hm
 subst e
 cases r3
 exact wpAny_truthy_bool ⟨H3, I3, q3⟩
def aDd (r r' : R2) (ta tb tc : TE) : TE := fun σ H Q => ta σ H fun x H1 => tb σ H1 fun y H2 => r x y H2 fun z H3 => ∃ k, z = .bl k ∧
 (if k = true then tc σ H3 fun w' H4 => r' y w' H4 Q else Q (.bl false) H3)
theorem aC9 {op op' : CmpOp} {r r' : R2} (ho : OpR X (compareOp op) r) (ho' : OpR X (compareOp op') r') (ha : PE X a ta) (hb : PE X b tb) (hc : PE X c tc)
  (hm : lastMarks [op, op'] [b, c] = false := by with_unfolding_all rfl) : PE X (.Compare a [op, op'] [b, c] pos) (aDd r r' ta tb tc) := by
 intro pins s σ H Q I h
 refine Compare_chain (thn (ha pins s σ H _ I h) fun v s1 ⟨x, H1, I1, r1, q1⟩ => chain_link (thn (hb pins s1 σ H1 _ I1 q1) fun u s2 ⟨y, H2, I2, r2, q2⟩ =>
  thn (ho pins s2 σ H2 x y v u _ I2 r1 r2 q2) fun d s3 ⟨z, H3, I3, r3, k, e, q3⟩ => ?_)) hm
 subst e
 cases r3
 refine wpAny_truthy_bool ?_
 cases k with
 | false => exact ite_ff ⟨.bl false, H3, I3, rfl, q3⟩
 | true => exact ite_tt (chain_last (thn (hc pins s3 σ H3 _ I3 q3) fun w' s4 ⟨z', H4, I4, r4, q4⟩ => ho' pins s4 σ H4 y z' u w' Q I4 r2 r4 q4))
def aKe (K : FG) (x : V) (H : Hp) (k : Bool) : Prop :=
 match x with
 | .non => k = false
 | .bl b => k = b
 | .int i => k = (i != 0)
 | .str y => y.length ≤ sizeLine ∧ k = ((y.length : Int) != 0)
 | .byt y => y.size ≤ sizeLine ∧ k = ((y.size : Int) != 0)
 | .ref p => (∃ xs, SqL K H p xs ∧ k = !xs.isEmpty) ∨ (∃ xs, SqT K H p xs ∧ k = !xs.isEmpty) ∨ ∃ kvs, H p = some (.dK kvs) ∧ k = !kvs.isEmpty
 | _ => False
theorem yO {κ : Type} {kvs : List (κ × V)} {vs : List (κ × Value)} (r : KV kvs vs) : (!vs.isEmpty) = !kvs.isEmpty := by
 cases r <;> rfl
theorem pY {xs : List V} {its : Y1} (r : Vals xs its) : (!its.toArray.isEmpty) = !xs.isEmpty := by
 cases r <;> simp
theorem qV : (sizeLine : Nat) < 2 ^ 63 := by rw [sizeLine_eq]; decide
theorem aKy : aQ0 X (fun x H Q => ∃ k, aKe X.K x H k ∧ Q k H) := by
 intro pins s σ H x v Q I rx h
 obtain ⟨k, e, q⟩ := h
 have hl := qV
 have hs : sizeLine = 16777216 := sizeLine_eq
 cases x with
 | non =>
  cases rx
  have e' : k = false := e
  subst e'
  exact truthy_none ⟨H, I, q⟩
 | bl b =>
  cases rx
  have e' : k = b := e
  subst e'
  exact wpAny_truthy_bool ⟨H, I, q⟩
 | int i =>
  obtain ⟨t, rfl⟩ := rx
  have e' : k = (i != 0) := e
  subst e'
  exact PySem.P.truthy_int ⟨H, I, q⟩
 | str y =>
  obtain ⟨t, rfl⟩ := rx
  obtain ⟨hy, e'⟩ : y.length ≤ sizeLine ∧ k = ((y.length : Int) != 0) := e
  subst e'
  exact PySem.P.truthy_str (by omega) ⟨H, I.tok _, q⟩
 | byt y =>
  obtain ⟨t, rfl⟩ := rx
  obtain ⟨hy, e'⟩ : y.size ≤ sizeLine ∧ k = ((y.size : Int) != 0) := e
  subst e'
  exact PySem.W.truthy_bytes (by omega) ⟨H, I.tok _, q⟩
 | ref p =>
  cases rx
  have e' : (∃ xs, SqL X.K H p xs ∧ k = !xs.isEmpty) ∨ (∃ xs, SqT X.K H p xs ∧ k = !xs.isEmpty) ∨ ∃ kvs, H p = some (.dK kvs) ∧ k = !kvs.isEmpty := e
  rcases e' with ⟨xs, hx, e'⟩ | ⟨xs, hx, e'⟩ | ⟨kvs, hx, e'⟩
  ·subst e'
   obtain ⟨its, r, pl, hz⟩ := I.list hx
   have hlen := r.length
   exact wpAny_truthy_list pl.isList (by simp only [List.size_toArray]; omega) ⟨H, I.tok _, by rw [pY r]; exact q⟩
  ·subst e'
   obtain ⟨its, r, pl, hz⟩ := I.tuple hx
   have hlen := r.length
   exact truthy_tuple pl (by simp only [List.size_toArray]; omega) ⟨H, I.tok _, by rw [pY r]; exact q⟩
  ·subst e'
   obtain ⟨hz, hS, vs, r, m⟩ : kvs.length ≤ sizeLine ∧ (p == sysModules) = false ∧ ∃ vs, KV kvs vs ∧ s.heap.DictOf (vG X.prog X.w) p vs := I.hok p _ hx
   have hlen : kvs.length = vs.length := Paired.length r
   exact wpAny_truthy_dict hS m (by omega) ⟨H, I.tok _, by rw [yO r]; exact q⟩
 | _ => exact (show False from e).elim
theorem aC8 (ha : PE X a ta) (he : ∀ whole, isTrue a X.env whole = (do let v ← whole; standAt a.pos; holding [v] (truthy v))) :
  PT X a (fun σ H Q => ta σ H fun x H' => ∃ k, aKe X.K x H' k ∧ Q k H') := by
 intro pins s σ H Q I h
 exact isTrue_plain (thn (ha pins s σ H _ I h) fun v s1 ⟨x, H1, I1, r1, q1⟩ => aKy pins s1 σ H1 x v Q I1 r1 q1) (he _)
theorem vals1 {x : V} {us : Y1} (r : Vals [x] us) : ∃ u, us = [u] ∧ RelV x u := by
 cases r with
 | cons r1 r2 => cases r2; exact ⟨_, rfl, r1⟩
theorem vals2 {x y : V} {us : Y1} (r : Vals [x, y] us) : ∃ u w', us = [u, w'] ∧ RelV x u ∧ RelV y w' := by
 cases r with
 | cons r1 r2 =>
  cases r2 with
  | cons r3 r4 => cases r4; exact ⟨_, _, rfl, r1, r3⟩
theorem aBr (hc : X.calm = true) : lT X (.builtin "max") (fun xs H Q => ∃ i j, xs = [.int i, .int j] ∧ Q (.int (if j > i then j else i)) H) := by
 intro pins s σ H xs us Q I r h
 obtain ⟨i, j, rfl, q⟩ := h
 obtain ⟨u, w', rfl, ⟨t, rfl⟩, ⟨t', rfl⟩⟩ := vals2 r
 refine max_two_ints (I.ok.hd hc) fun h' tk k => ⟨_, H, I.kept k, ?_, q⟩
 by_cases hj : j > i
 ·rw [if_pos hj, if_pos hj]; exact ⟨_, rfl⟩
 ·rw [if_neg hj, if_neg hj]; exact ⟨_, rfl⟩
end
end L2
namespace L2
open PySem PySem.Spec PyProof.Rows
structure ObjM (h : Heap) (x dx C : Addr) (mA : Y6) : Prop where
 obj : h.get? x = some (PySem.W.instObj C dx)
 ns : h.Ns1 dx mA
 ne : dx ≠ x
theorem aCx {h : Heap} {dx : Addr} {mA : Y6} (n : h.Ns1 dx mA) : ∃ od, h.get? dx = some od ∧ ∀ name, PySem.W.lookIn name od = some (mA name) := by
 obtain ⟨o, es, ep, ho, hd, hk, _, hm⟩ := n
 refine ⟨o, ho, fun name => ?_⟩
 have e := hm name
 unfold nsFind findBy at e
 rw [← Array.find?_toList] at e
 unfold PySem.W.lookIn
 rw [hd]
 dsimp only
 split
 ·rename_i y q
  rw [q] at e
  exact congrArg some e
 ·rename_i q
  rw [q] at e
  have a : es.toList.any (·.refKey) = false := by
   rw [List.any_eq_false]
   intro y hy
   obtain ⟨z, t, hkey⟩ := hk y (Array.mem_toList_iff.mp hy)
   simp [DictEntry.refKey, hkey]
  have a' : ¬ es.toList.any (·.refKey) = true := by rw [a]; exact Bool.false_ne_true
  rw [if_neg a']
  exact congrArg some e
theorem ObjM.look {h : Heap} {x dx C : Addr} {mA : Y6} (I : ObjM h x dx C mA) : ∃ od, PySem.W.InstAt h x (PySem.W.instObj C dx) C (some od) ∧ ∀ name, PySem.W.lookIn name od = some (mA name) :=
 let ⟨od, ho, hl⟩ := aCx I.ns
 ⟨od, ⟨I.obj, rfl, rfl, ho⟩, hl⟩
section
variable {prog : Program} {w : World} {A : Around} {E : Y9} {s : Shared} {K : FG} {x dx C f : Addr} {mA : Y6} {name : Str} {v : Value}
end
section
variable {P : Program} {w : World} {H H' : Hp} {h h' : Heap} {a C dx : Addr} {fs fs' : List (Str × V)}
theorem gF (hok : HOk P w H h) (e : H a = some (.ins C dx fs)) : ∃ mA, ObjM h a dx C mA ∧ (∀ f, aKd (fs.lookup f) (mA f)) ∧ PySem.Within mA (fs.map (·.1)) ∧ fs.length ≤ 1000 ∧ H dx = some (.own a) := by
 obtain ⟨d, z, ne, ob, mA, n, r, q⟩ := (show eG P w H h a (.ins C dx fs) from hok a _ e)
 exact ⟨mA, ⟨ob, n, ne⟩, r, q, z, d⟩
end
structure Cls (K : FG) (C : Addr) : Prop where
 pg : PySem.W.plainGet K C Str.empty = true
 hd : PySem.W.hasDictIn K C = true
 po : PySem.W.plainOver K C = true
 sa : PySem.W.findIn K (.ref C) "__setattr__" = some (some (.builtin "object.__setattr__"))
theorem Cls.get {K : FG} {C : Addr} (c : Cls K C) (f : Str) : PySem.W.plainGet K C f = true := c.pg
structure Con (K : FG) (C : Addr) (f : Str) (v : V) (u : Value) : Prop where
 at_ : PySem.W.findIn K (.ref C) f = some (some u)
 rel : RelV v u
 get : PySem.W.specialIn K u "__get__" = some none
 cp : PySem.W.copiedNames.contains f = false
structure Meth (K : FG) (C : Addr) (m : Str) (f : Addr) : Prop where
 at_ : PySem.W.findIn K (.ref C) m = some (some (.ref f))
 fn : PySem.W.isFn K (.ref f) = true
 kp : PySem.W.keepIn K (.ref f) = true
section
variable {X : Cx} {pins : Y8} {σ : St} {H : Hp} {s : Shared} {a C dx : Addr} {fs : List (Str × V)} {f : Str} {v : V} {A : Around} {E : Y9}
end
section
variable {X : Cx} {o e value : Expr} {f : Str} {pos pos' tpos : Pos} {ta tv : TE}
end
section
variable {X : Cx} {pins : Y8} {σ : St} {H : Hp} {s : Shared} {A : Around} {E : Y9} {Q : Y9} {c : Value} {b : Bool}
inductive TyOf (K : FG) (H : Hp) : V → Value → Prop where
 | non : TyOf K H .non (.type "NoneType")
 | bl (x : Bool) : TyOf K H (.bl x) (.type "bool")
 | int (i : Int) : TyOf K H (.int i) (.type "int")
 | str (x : Str) : TyOf K H (.str x) (.type "str")
 | flt (x : UInt64) : TyOf K H (.flt x) (.type "float")
 | lst {a : Addr} {xs : List V} (e : H a = some (.lst xs)) : TyOf K H (.ref a) (.type "list")
 | frz {a : Addr} {o : Obj} {xs : List V} (e : H a = some (.frz o (.lst xs))) : TyOf K H (.ref a) (.type "list")
 | tup {a : Addr} {xs : List V} (e : H a = some (.tup xs)) : TyOf K H (.ref a) (.type "tuple")
 | dK {a : Addr} {kvs : List (Key × V)} (e : H a = some (.dK kvs)) : TyOf K H (.ref a) (.type "dict")
 | dT {a : Addr} {kvs : List (List Key × V)} (e : H a = some (.dT kvs)) : TyOf K H (.ref a) (.type "dict")
 | ins {a C dx : Addr} {fs : List (Str × V)} (e : H a = some (.ins C dx fs)) (cl : Cls K C) (ha : PySem.W.findIn K (.ref C) "__class__" = some (some (.builtin "object.__class__")))
   (hn : PySem.W.specialIn K (.builtin "object.__class__") "__get__" = some (some (.builtin "getset_descriptor.__get__"))) (htk : PySem.W.takesIn K (.builtin "object.__class__") = some true)
   (hm : PySem.W.mroIn K C (.type "object") = some true) : TyOf K H (.ref a) (.ref C)
theorem gO {x : V} {u t : Value} (I : Inv X pins σ H s) (rx : RelV x u) (ty : TyOf X.K H x t) (e : PySem.W.kitOne X.K t c = some b) (h : ∀ tk, Q (.bool b) { s with toks := tk }) :
  wpAny (model X.prog X.w) A (call (.builtin "isinstance") [u, c]) Q E s := by
 cases ty with
 | non => cases (show u = Value.none from rx); exact PySem.W.kia_one PySem.W.kitx_none I.kIn True.intro e (fun z => nomatch z) h
 | bl y => cases (show u = Value.bool y from rx); exact PySem.W.kia_one PySem.W.kitx_bool I.kIn True.intro e (fun z => nomatch z) h
 | int i => obtain ⟨t, q⟩ := (show ∃ t, u = Value.int i t from rx); cases q; exact PySem.W.kia_one PySem.W.kitx_int I.kIn True.intro e (fun z => nomatch z) h
 | str y => obtain ⟨t, q⟩ := (show ∃ t, u = Value.str y t from rx); cases q; exact PySem.W.kia_one PySem.W.kitx_str I.kIn True.intro e (fun z => nomatch z) h
 | flt y => obtain ⟨t, q⟩ := (show ∃ t, u = Value.float y t from rx); cases q; exact PySem.W.kia_one PySem.W.kitx_float I.kIn True.intro e (fun z => nomatch z) h
 | @lst a xs ea =>
  cases (show u = Value.ref a from rx)
  obtain ⟨_, _, n, _, h1⟩ := (show eG X.prog X.w H s.heap a (.lst xs) from I.hok a _ ea)
  exact PySem.W.kia_one PySem.W.kitx_list I.kIn ⟨_, h1, rfl⟩ e (fun z => nomatch z) h
 | @frz a ob xs ea =>
  cases (show u = Value.ref a from rx)
  obtain ⟨_, _, _, n, _, h1⟩ := (show eG X.prog X.w H s.heap a (.frz ob (.lst xs)) from I.hok a _ ea)
  exact PySem.W.kia_one PySem.W.kitx_list I.kIn ⟨_, h1, rfl⟩ e (fun z => nomatch z) h
 | @tup a xs ea =>
  cases (show u = Value.ref a from rx)
  obtain ⟨_, _, _, p⟩ := (show eG X.prog X.w H s.heap a (.tup xs) from I.hok a _ ea)
  obtain ⟨o, h1, h2, _⟩ := p
  exact PySem.W.kia_one PySem.W.kitx_tuple I.kIn ⟨o, h1, h2⟩ e (fun z => nomatch z) h
 | @dK a kvs ea =>
  cases (show u = Value.ref a from rx)
  obtain ⟨_, _, vs, _, p⟩ := (show eG X.prog X.w H s.heap a (.dK kvs) from I.hok a _ ea)
  obtain ⟨o, es, ep, h1, h2, _⟩ := p
  exact PySem.W.kia_one PySem.W.kitx_dict I.kIn ⟨o, h1, h2.1⟩ e (fun z => nomatch z) h
 | @dT a kvs ea =>
  cases (show u = Value.ref a from rx)
  obtain ⟨_, _, xs, _, o, es, ep, h1, h2, _⟩ := (show eG X.prog X.w H s.heap a (.dT kvs) from I.hok a _ ea)
  exact PySem.W.kia_one PySem.W.kitx_dict I.kIn ⟨o, h1, h2.1⟩ e (fun z => nomatch z) h
 | @ins a C dx fs ea cl ha hn htk hm =>
  cases (show u = Value.ref a from rx)
  obtain ⟨mA, O, _⟩ := gF I.hok ea
  obtain ⟨od, J, _⟩ := O.look
  exact PySem.W.kia_one (PySem.W.kitx_own (cl.get _) cl.hd ha hn htk hm) I.kIn J e (fun z => nomatch z) h
end
end L2
namespace L2
open PySem PySem.Spec PyProof.Rows
structure Room (k : Nat) (A : Around) : Prop where
 hd : A.handled = none
 dp : A.depth + 3 * k + 5 < recursionLimit
 un : A.units + 16 * k + 200 < cLine
theorem Room.mono {j k : Nat} {A : Around} (r : Room k A) (h : j ≤ k) : Room j A := ⟨r.hd, by have := r.dp; omega, by have := r.un; omega⟩
theorem Room.deeper {k : Nat} {A : Around} (r : Room (k + 1) A) (env : Env) : Room k (A.deeper env) :=
 ⟨r.hd, by have := r.dp; show A.depth + 1 + 3 * k + 5 < _; omega, by have := r.un; show A.units + 3 + 16 * k + 200 < _; omega⟩
theorem Room.depth {k : Nat} {A : Around} (r : Room k A) : A.depth < recursionLimit := by have := r.dp; omega
def aCh : TA := fun _ H Q => Q [] H
def tU (ta : TE) (tr : TA) : TA := fun σ H Q => ta σ H fun x H1 => tr σ H1 fun xs H2 => Q (x :: xs) H2
section
variable {X : Cx} {e : Expr} {es : List Expr} {te : TE} {t : TA} {pos : Pos}
theorem rH : PA X [] aCh := fun _ _ _ _ H Q I h => Calls.spliced_nil ⟨[], H, I, .nil, h⟩
theorem jY (ha : PE X e te) (hr : PA X es t) (hs : starEach (e :: es) X.env = (false, eval e X.env) :: starEach es X.env := by rfl) : PA X (e :: es) (tU te t) := by
 intro pos pins s σ H Q I h
 rw [hs]
 show wpAny _ _ (spliced ((false, eval e X.env) :: backTo pos (starEach es X.env))) _ _ s
 refine Calls.spliced_cons (thn (ha pins s σ H _ I h) fun u s1 ⟨x, H1, I1, r1, q1⟩ => ?_)
 exact thn (hr pos pins s1 σ H1 _ I1 q1) fun us s2 ⟨xs, H2, I2, r2, q2⟩ => ⟨x :: xs, H2, I2, .cons r1 r2, q2⟩
def aOi (t : TA) : TE := fun σ H Q => t σ H fun xs H1 => xs.length ≤ sizeLine ∧ ∀ p, H1 p = none → Q (.ref p) (upd H1 p (.tup xs))
def aOm (t : TA) : TE := fun σ H Q => t σ H fun xs H1 => xs.length ≤ sizeLine ∧ ∀ p, H1 p = none → Q (.ref p) (upd H1 p (.lst xs))
theorem aLz {x1} (h : PA X es t) : PE X (.Tuple es x1 pos) (aOi t) := by
 intro pins s σ H Q I hq
 refine wpAny_Tuple_spliced (thn (h pos pins s σ H _ I hq) fun us s1 ⟨xs, H1, I1, r, z, q⟩ => ⟨by rw [← r.length]; exact z, ?_⟩)
 have hf : H1 s1.heap.objs.size = none := I1.hok.fresh (Nat.le_refl _)
 refine ⟨.ref s1.heap.objs.size, upd H1 s1.heap.objs.size (.tup xs), I1.laid (t' := s1.toks) (fun b u e => Heap.get?_push_of_some _ e) (Nat.le_refl _) ?_, rfl, q _ hf⟩
 exact ⟨z, us, r, ⟨_, Heap.get?_push_size _ rfl, rfl, _, rfl⟩⟩
theorem aJr (h : PA X es t) : PE X (.List es pos) (aOm t) := by
 intro pins s σ H Q I hq
 refine wpAny_List_spliced (thn (h pos pins s σ H _ I hq) fun us s1 ⟨xs, H1, I1, r, z, q⟩ => ⟨by rw [← r.length]; exact z, ?_⟩)
 have hf : H1 s1.heap.objs.size = none := I1.hok.fresh (Nat.le_refl _)
 refine ⟨.ref s1.heap.objs.size, upd H1 s1.heap.objs.size (.lst xs), I1.laid (t' := s1.toks) (fun b u e => Heap.get?_push_of_some _ e) (Nat.le_refl _) ?_, rfl, q _ hf⟩
 exact ⟨z, us, 0, r, Heap.get?_push_size _ rfl⟩
end
abbrev Sp := List V → Hp → VK → XK → Prop
abbrev CXT := List Env → Hp → Shared → XK → Value → Shared → Prop
structure Env0 (P : Program) (w : World) (K : FG) (mg : Y6) (base : Heap) (A : Around) (outer : List Env) (s : Shared) (H : Hp) : Prop where
 frames : A.frames = some outer
 mod : Mod K mg base
 bs : ∀ b o, base.get? b = some o → s.heap.get? b = some o ∧ H b = none
 bsz : base.objs.size ≤ s.heap.objs.size
 funs : s.heap.FunFrames base outer
 frf : ∀ b ∈ frs outer, H b = none
 hok : HOk P w H s.heap
 bare : AllBare s.gens
def CE (outer : List Env) (P : Program) (w : World) (H : Hp) (s : Shared) (Q : VK) (u : Value) (s' : Shared) : Prop :=
 ∃ v H', s'.os = s.os ∧ AllBare s'.gens ∧ Un (frs outer) [] H H' s.heap s'.heap ∧ HOk P w H' s'.heap ∧ RelV v u ∧ Q v H'
def CR (CX : CXT) (outer : List Env) (P : Program) (w : World) (H : Hp) (s : Shared) (Q : VK) (E : XK) (r : Result) (s' : Shared) : Prop :=
 match r with
 | .ok (.ret u) => CE outer P w H s Q u s'
 | .ok _ => False
 | .error e => CX outer H s E e s'
structure FnOk (P : Program) (w : World) (K : FG) (mg : Y6) (base : Heap) (CX : CXT) (k : Nat) (f : Addr) (fd : FuncData) (ps : List Str) (sp : Sp) : Prop where
 len : ∀ vs H Q E, sp vs H Q E → vs.length = ps.length
 run : ∀ (A : Around) (outer : List Env) (s : Shared) (H : Hp) (args : Args) (us : Y1) (vs : List V) (Q : VK) (E : XK), Room k A → Env0 P w K mg base A outer s H → BindsTo s fd args (ps.zip us) → Vals vs us → sp vs H Q E →
  codeAny (model P w) A (.call (.ref f) args) (CR CX outer P w H s Q E) s
section
variable {X : Cx} {pins : Y8} {σ : St} {H : Hp} {s s' : Shared}
theorem Inv.aO1 (I : Inv X pins σ H s) : Env0 X.prog X.w X.K X.mg X.base X.A X.stack s H :=
 ⟨I.ok.frames, I.ok.mod, I.bs, Nat.le_trans I.ok.bsz I.sz, I.stack, I.vO, I.hok, I.bare⟩
theorem Inv.after {Q : VK} {u : Value} (I : Inv X pins σ H s) (h : CE X.stack X.prog X.w H s Q u s') : EP X pins σ Q u s' := by
 obtain ⟨v, H', os, bare, un, hok, r, q⟩ := h
 obtain ⟨hh, g, d, t, os'⟩ := s'
 obtain rfl : os' = s.os := os
 exact ⟨v, H', I.call (h' := hh) (g' := g) (d' := d) (t' := t) (ch := []) un hok bare (fun b z => absurd z (by simp)), r, q⟩
end
def aEd (sp : Sp) (dvs : List V) (E : XK) (t : TA) : TE := fun σ H Q => t σ H fun vs H1 => sp (vs ++ dvs) H1 Q E
def Binds (K : FG) (fd : FuncData) (ps : List Str) (ds : Y1) : Prop :=
 ∀ (s : Shared) (us : Y1), K.In s.heap → (us ++ ds).length = ps.length → BindsTo s fd ⟨us, []⟩ (ps.zip (us ++ ds))
theorem Binds.all {K : FG} {fd : FuncData} {ps : List Str} (h : ∀ us : Y1, us.length = ps.length → bindArgs fd ⟨us, []⟩ = pure (ps.zip us)) : Binds K fd ps [] := fun s us _ hl => by
 rw [List.append_nil] at hl ⊢
 exact .of_eq (h us hl)
def Passes (CX : CXT) (X : Cx) (E : XK) : Prop := ∀ (pins : Y8) (σ : St) (H : Hp) (s : Shared) (e : Value) (s' : Shared), Inv X pins σ H s → CX X.stack H s E e s' → X.xe e s'
section
variable {X : Cx} {CX : CXT} {k : Nat} {f C : Addr} {fd : FuncData} {ps : List Str} {sp : Sp} {dvs : List V} {ds : Y1} {E : XK} {x m : Str} {p pos apos : Pos} {e o : Expr} {es : List Expr} {ta : TE} {t : TA}
theorem aKm {pins : Y8} {σ : St} {H : Hp} {s : Shared} {Q : VK} {us : Y1} {vs : List V} (F : FnOk X.prog X.w X.K X.mg X.base CX k f fd ps sp) (hr : Room k X.A) (hb : Binds X.K fd ps ds) (hd : Vals dvs ds) (hx : Passes CX X E)
  (I : Inv X pins σ H s) (r : Vals vs us) (h : sp (vs ++ dvs) H Q E) : wpAny (model X.prog X.w) X.A (call (.ref f) us) (EP X pins σ Q) X.xe s := by
 have r2 : Vals (vs ++ dvs) (us ++ ds) := r.append hd
 have hl : (us ++ ds).length = ps.length := by rw [← r2.length]; exact F.len _ _ _ _ h
 refine wpAny_call (codeAny_mono (F.run X.A X.stack s H ⟨us, []⟩ (us ++ ds) (vs ++ dvs) Q E hr I.aO1 (hb s us I.kIn hl) r2 h) fun r s' hq => ?_)
 cases r with
 | error e => exact hx pins σ H s e s' I hq
 | ok fl =>
  cases fl with
  | ret u => exact I.after hq
  | next => exact False.elim hq
  | brk => exact False.elim hq
  | cont => exact False.elim hq
theorem aAe (F : FnOk X.prog X.w X.K X.mg X.base CX k f fd ps sp) (hr : Room k X.A) (hg : Gl X x) (hm : X.mg x = some (.ref f)) (hk : PySem.W.keepIn X.K (.ref f) = true) (hb : Binds X.K fd ps ds) (hd : Vals dvs ds) (hx : Passes CX X E)
  (ha : PA X (e :: es) t) (hdb : (x == ("__debug__" : Str)) = false := by decide) (he : starEach (e :: es) X.env = (false, eval e X.env) :: starEach es X.env := by rfl) (hpl : (backTo pos (starEach es X.env)).any (·.1) = false := by rfl) :
  PE X (.Call (.Name x p) (e :: es) [] pos) (aEd sp dvs E t) := by
 intro pins s σ H Q I h
 refine wpAny_Call_Name_kw (pJ I hg hm ?_ hdb)
 refine PySem.W.callWith_K (h₀ := X.base) I.ok.mod.kin hk (thn (ha pos pins s σ H _ I h) fun us s1 ⟨vs, H1, I1, r, q⟩ => ⟨I1.kIn, ?_⟩) he hpl
 exact aKm F hr hb hd hx I1 r q
structure Mk (K : FG) (C f : Addr) : Prop where
 makes : PySem.W.makesIn K C = true
 init : PySem.W.findIn K (.ref C) "__init__" = some (some (.ref f))
 fn : PySem.W.isFn K (.ref f) = true
 kp : PySem.W.keepIn K (.ref C) = true
end
section
variable {X : Cx} {CX : CXT} {k : Nat} {f C : Addr} {fd : FuncData} {ps ks : List Str} {sp : Sp} {E : XK} {x m : Str} {p pos apos kpos : Pos} {e o : Expr} {es : List Expr} {kws : List Keyword} {te ta : TE} {t tk : TA} {nm : Option Str}
structure KBinds (K : FG) (fd : FuncData) (ps ks : List Str) (g : Y1 → Y1 → Y1) (gV : List V → List V → List V) : Prop where
 to : ∀ (s : Shared) (us ws : Y1), K.In s.heap → (g us ws).length = ps.length → BindsTo s fd ⟨us, ks.zip ws⟩ (ps.zip (g us ws))
 rel : ∀ {vs : List V} {us : Y1} {zs : List V} {ws : Y1}, Vals vs us → Vals zs ws → Vals (gV vs zs) (g us ws)
variable {g : Y1 → Y1 → Y1} {gV : List V → List V → List V}
end
structure FnScope (N P : List Str) (sc : Scope) : Prop where
 kind : sc.kind = .function
 co : sc.isCoroutine = false
 gen : sc.isGenerator = false
 nd : N.Nodup
 pre : N.take P.length = P
 par : ∀ x ∈ P, sc.names.lookup x = some .local ∨ sc.names.lookup x = some .cell
 nofree : ∀ y ∈ sc.names, y.2 ≠ .free
theorem tL {kindOf : Str → Option NameKind} {x : Str} : ∀ {binds : List (Str × Value)} {m : Y6}, (∀ v, (x, v) ∉ binds) → bindL kindOf binds m x = m x
 | [], _, _ => rfl
 | (n, v) :: r, m, h => by
  unfold bindL
  rw [tL fun w hw => h w (List.mem_cons_of_mem _ hw)]
  split
  ·have : x ≠ n := by rintro rfl; exact h v List.mem_cons_self
   simp [this]
  ·rfl
theorem uD {kindOf : Str → Option NameKind} {x : Str} : ∀ {binds : List (Str × Value)} {m : Y6}, (∀ v, (x, v) ∉ binds) → bindC kindOf binds m x = m x
 | [], _, _ => rfl
 | (n, v) :: r, m, h => by
  unfold bindC
  rw [uD fun w hw => h w (List.mem_cons_of_mem _ hw)]
  split
  ·rfl
  ·have : x ≠ n := by rintro rfl; exact h v List.mem_cons_self
   simp [this]
theorem tI {kindOf : Str → Option NameKind} {x : Str} {v : Value} : ∀ {P : List Str} {vs : Y1} {i : Nat} {m : Y6}, P.Nodup → P[i]? = some x → vs[i]? = some v → kindOf x = some .local →
  bindL kindOf (P.zip vs) m x = some v
 | [], _, _, _, _, h, _, _ => by simp at h
 | _ :: _, [], _, _, _, _, h, _ => by simp at h
 | p :: P, w :: vs, 0, m, nd, h1, h2, hk => by
  simp at h1 h2; subst h1; subst h2
  show bindL kindOf ((p, w) :: P.zip vs) m p = _
  unfold bindL
  rw [tL fun v hv => (List.nodup_cons.mp nd).1 (List.of_mem_zip hv).1, if_pos hk]
  simp
 | p :: P, w :: vs, i + 1, m, nd, h1, h2, hk => by
  show bindL kindOf ((p, w) :: P.zip vs) m x = _
  unfold bindL
  exact tI (i := i) (List.nodup_cons.mp nd).2 (by simpa using h1) (by simpa using h2) hk
theorem tW {kindOf : Str → Option NameKind} {x : Str} {v : Value} : ∀ {P : List Str} {vs : Y1} {i : Nat} {m : Y6}, P.Nodup → P[i]? = some x → vs[i]? = some v → kindOf x ≠ some .local →
  bindC kindOf (P.zip vs) m x = some v
 | [], _, _, _, _, h, _, _ => by simp at h
 | _ :: _, [], _, _, _, _, h, _ => by simp at h
 | p :: P, w :: vs, 0, m, nd, h1, h2, hk => by
  simp at h1 h2; subst h1; subst h2
  show bindC kindOf ((p, w) :: P.zip vs) m p = _
  unfold bindC
  rw [uD fun v hv => (List.nodup_cons.mp nd).1 (List.of_mem_zip hv).1, if_neg hk]
  simp
 | p :: P, w :: vs, i + 1, m, nd, h1, h2, hk => by
  show bindC kindOf ((p, w) :: P.zip vs) m x = _
  unfold bindC
  exact tW (i := i) (List.nodup_cons.mp nd).2 (by simpa using h1) (by simpa using h2) hk
def start (N : List Str) (vs : List V) : St := vs.map some ++ List.replicate (N.length - vs.length) none
def lK (CX : CXT) (P : Program) (w : World) (K : FG) (mg : Y6) (base : Heap) (N : List Str) (qual : Str) (scope : Scope) (f : Addr) (cd : Value) (A : Around) (outer : List Env) (s : Shared) (H : Hp) (E : XK) : Cx where
 prog := P
 w := w
 K := K
 mg := mg
 base := base
 A := A.deeper (envOfC qual scope s.heap.objs.size f cd)
 N := N
 s₀ := s
 H₀ := H
 env := envOfC qual scope s.heap.objs.size f cd
 outer := outer
 stack := envOfC qual scope s.heap.objs.size f cd :: outer
 ex := []
 calm := true
 fn := fun _ => true
 pn := []
 xe := fun e s' => wpAny (model P w) (A.deeper (envOfC qual scope s.heap.objs.size f cd)) (leaving (envOfC qual scope s.heap.objs.size f cd) e) (fun _ s'' => CX outer H s E e s'') (fun e' s'' => CX outer H s E e' s'') s'
theorem yE {sc : Scope} {n : Nat} {x : Str} (h : sc.names.lookup x = some .cell) : ∃ c, (cellsFrom n sc.names []).lookup x = some c := by
 have q := PySem.W.cellsFrom_some sc.names n [] (.inl h)
 exact Option.isSome_iff_exists.mp q
theorem aB1 {CX : CXT} {P : Program} {w : World} {K : FG} {mg : Y6} {base : Heap} {N ps : List Str} {qual : Str} {scope : Scope} {f : Addr} {cd : Value} {A : Around} {outer : List Env} {s s1 : Shared} {H : Hp} {E : XK} {us : Y1} {vs : List V}
  (S : FnScope N ps scope) (hd : A.handled = none) (e0 : Env0 P w K mg base A outer s H) (hl : vs.length = ps.length) (r : Vals vs us)
  (x : InCallC s s.heap.objs.size (bindL (envOfC qual scope s.heap.objs.size f cd).kindOf (ps.zip us) fun _ => none) (cellsFrom (s.heap.objs.size + 1) scope.names []) (bindC (envOfC qual scope s.heap.objs.size f cd).kindOf (ps.zip us) fun _ => none) s1) :
  Inv (lK CX P w K mg base N qual scope f cd A outer s H E) [] (start N vs) H s1 := by
 have hpl : ps.length ≤ N.length := by have := congrArg List.length S.pre; rw [List.length_take] at this; omega
 obtain ⟨h1, tk, rfl, hk⟩ := x.done
 have noA : ∀ b : Addr, b ∉ (lK CX P w K mg base N qual scope f cd A outer s H E).ex := fun b z => absurd (show b ∈ ([] : Y2) from z) (by simp)
 refine ⟨⟨e0.mod, S.kind, rfl, rfl, Nat.le_refl _, fun y z c h1 h2 => ?_, fun y hy => ?_, fun y c _ h => ?_, fun _ => hd, Around.frames_deeper e0.frames, .inr ⟨rfl, rfl⟩, fun b z => absurd z (noA b), e0.bs, e0.bsz, fun b _ _ => noA b, fun b z => absurd z (noA b), e0.funs, e0.frf⟩,
  rfl, e0.bare, Un.kept hk, ⟨_, x.toInCall.ns, fun i y v h1 h2 h3 => ?_⟩, fun y c h => ⟨_, x.cell y c h⟩, e0.hok.fresh (Nat.le_refl _), fun y c h => ?_, fun p hp => absurd (show p ∈ ([] : Y8) from hp) (by simp), e0.hok.kept hk, ?_⟩
 ·exact name_of_addr x.apart (PySem.mem_of_lookup h1) (PySem.mem_of_lookup h2)
 ·have hy : scope.names.lookup y = some .cell ∨ scope.names.lookup y = some .free := hy
  rcases hy with hy | hy
  ·exact yE hy
  ·exact absurd rfl (S.nofree _ (PySem.mem_of_lookup hy))
 ·exact Nat.le_of_lt (x.above y c (PySem.mem_of_lookup h))
 ·have hi : i < vs.length := by
   unfold start at h2
   by_cases hi : i < vs.length
   ·exact hi
   ·rw [List.getElem?_append_right (by simpa using hi)] at h2
    rw [List.getElem?_replicate] at h2
    split at h2 <;> cases h2
  have ha : vs[i]? = some v := by
   unfold start at h2
   rw [List.getElem?_append_left (by simpa using hi), List.getElem?_map] at h2
   cases e : vs[i]? with
   | none => rw [e] at h2; cases h2
   | some a => rw [e] at h2; cases h2; rfl
  obtain ⟨u, hu, rv⟩ := r.get ha
  have hp : ps[i]? = some y := by
   rw [← S.pre, List.getElem?_take_of_lt (by omega)]; exact h1
  have ndP : ps.Nodup := by rw [← S.pre]; exact S.nd.sublist (List.take_sublist _ _)
  refine ⟨u, rv, ?_⟩
  rcases S.par y (List.mem_of_getElem? hp) with k | k
  ·exact .inl ⟨k, tI ndP hp hu k⟩
  ·obtain ⟨c, e⟩ := yE (n := s.heap.objs.size + 1) k
   refine .inr ⟨.inl k, c, e, ?_⟩
   have q := x.cell y c e
   rw [tW ndP hp hu (by show scope.names.lookup y ≠ _; rw [k]; decide)] at q
   exact q
 ·exact e0.hok.fresh (Nat.le_of_lt (x.above y c (PySem.mem_of_lookup h)))
 ·unfold start
  show _ = N.length
  rw [List.length_append, List.length_map, List.length_replicate]
  omega
theorem aIx {CX : CXT} {P : Program} {w : World} {K : FG} {mg : Y6} {base : Heap} {k : Nat} {f : Addr} {name qual : Str} {params : Arguments} {body : List Stmt} {scope : Scope} {dV kV doc pm cdv ct oc : Value} {an od : Option Addr}
  {osl : Array (Option Value)} {N ps : List Str} {sp : Sp} (lk : K.lookup f = some ⟨oc, od, .func (PySem.W.fnOf name qual params body scope dV kV doc pm an cdv ct), osl⟩) (hcd : PySem.W.codeIn K cdv qual = true) (S : FnScope N ps scope)
  (len : ∀ vs H Q E, sp vs H Q E → vs.length = ps.length)
  (hbody : ∀ (A : Around) (outer : List Env) (s : Shared) (H : Hp) (vs : List V) (Q : VK) (E : XK), Room k (A.deeper (envOfC qual scope s.heap.objs.size f cdv)) → sp vs H Q E →
   ∃ t, PSs (lK CX P w K mg base N qual scope f cdv A outer s H E) body t ∧ t { nx := fun _ H' => Q .non H', rt := Q } (start N vs) H) :
  FnOk P w K mg base CX (k + 1) f (PySem.W.fnOf name qual params body scope dV kV doc pm an cdv ct) ps sp := by
 refine ⟨len, fun A outer s H args us vs Q E hr e0 hb r hsp => ?_⟩
 have hl := len _ _ _ _ hsp
 have KX : K.In s.heap := e0.mod.kin.keeps fun b o e => (e0.bs b o e).1
 have lim : s.heap.NoLimit := e0.mod.nolimit.keeps fun b o e => (e0.bs b o e).1
 have hkind : ∀ y ∈ ps.zip us, scope.names.lookup y.1 = some .local ∨ (scope.names.lookup y.1 = some .cell ∧ ((cellsFrom (s.heap.objs.size + 1) scope.names []).lookup y.1).isSome = true) := fun ⟨n, v⟩ hy => by
  rcases S.par n (List.of_mem_zip hy).1 with q | q
  ·exact .inl q
  ·exact .inr ⟨q, PySem.W.cellsFrom_some _ _ _ (.inl q)⟩
 refine codeAny_call_function hr.depth (KX _ _ lk) rfl S.co S.gen rfl (PySem.W.codeRec_of KX hcd) (hb _ _ _ _ ?_)
 refine wpAny_newFunctionEnv_cells S.kind hkind fun env he s1 x => ?_
 subst he
 refine ⟨lim.keeps x.toInCall.keep, codeAny_func ?_⟩
 obtain ⟨t, ht, hq⟩ := hbody A outer s H vs Q E (hr.deeper _) hsp
 have I : Inv (lK CX P w K mg base N qual scope f cdv A outer s H E) [] (start N vs) H s1 := aB1 S hr.hd e0 hl r x
 refine wpAny_mono (ht [] s1 (start N vs) H _ I hq) (fun fl s' hs => ?_) fun e s' hs => hs
 have fin : ∀ {σ' : St} {H' : Hp} {v : V} {u : Value}, Inv (lK CX P w K mg base N qual scope f cdv A outer s H E) [] σ' H' s' → RelV v u → Q v H' → CE outer P w H s Q u s' :=
  fun {σ' H' v u} J rv q => ⟨v, H', J.os, J.bare, J.base, J.hok, rv, q⟩
 cases fl with
 | ret u =>
  obtain ⟨v, σ', H', J, rv, q⟩ := hs
  exact fin J rv q
 | next =>
  obtain ⟨σ', H', J, q⟩ := hs
  exact fin (v := V.non) (u := Value.none) J rfl q
 | brk =>
  obtain ⟨_, _, _, q⟩ := hs
  exact False.elim q
 | cont =>
  obtain ⟨_, _, _, q⟩ := hs
  exact False.elim q
end L2
namespace L2
open PySem PySem.Spec PyProof.Rows
section
variable {X : Cx} {x : Str} {p pos : Pos} {e : Expr} {es : List Expr} {t : TA} {id T : String} {r : List V → Hp → VK → Prop}
def tCB (r : List V → Hp → VK → Prop) (t : TA) : TE := fun σ H Q => t σ H fun vs H1 => r vs H1 Q
theorem vP (hc : lT X (.builtin id) r) (hg : Gl X x) (hm : X.mg x = none) (hv : bootBuiltins x = some (.builtin id)) (ha : PA X (e :: es) t) (hn : x ≠ "__name__" := by decide) (hdb : (x == ("__debug__" : Str)) = false := by decide)
  (he : starEach (e :: es) X.env = (false, eval e X.env) :: starEach es X.env := by rfl) (hpl : (backTo pos (starEach es X.env)).any (·.1) = false := by rfl) : PE X (.Call (.Name x p) (e :: es) [] pos) (tCB r t) := by
 intro pins s σ H Q I h
 refine wpAny_Call_Name_kw (iV I hg hm hv ?_ hn hdb)
 exact PyProof.Rows.callWith_builtin1 (thn (ha pos pins s σ H _ I h) fun us s1 ⟨vs, H1, I1, r1, q1⟩ => hc pins s1 σ H1 vs us Q I1 r1 q1) he hpl
theorem aCm (hc : lT X (.type T) r) (hg : Gl X x) (hm : X.mg x = none) (hv : bootBuiltins x = some (.type T)) (ha : PA X (e :: es) t) (hn : x ≠ "__name__" := by decide) (hdb : (x == ("__debug__" : Str)) = false := by decide)
  (he : starEach (e :: es) X.env = (false, eval e X.env) :: starEach es X.env := by rfl) (hpl : (backTo pos (starEach es X.env)).any (·.1) = false := by rfl) : PE X (.Call (.Name x p) (e :: es) [] pos) (tCB r t) := by
 intro pins s σ H Q I h
 refine wpAny_Call_Name_kw (iV I hg hm hv ?_ hn hdb)
 exact PyProof.Rows.callWith_type1 (thn (ha pos pins s σ H _ I h) fun us s1 ⟨vs, H1, I1, r1, q1⟩ => hc pins s1 σ H1 vs us Q I1 r1 q1) he hpl
end
end L2
namespace HT
open PySem PyProof.Rows
theorem aFb (A : Around) (s : Shared) (a : Int) (t : Tok) (c : Int) (u : Tok) : ∃ e, SeqAt.EqAt A s (.int a t) (.int c u) e ∧ (e = true ↔ a = c) :=
 ⟨(a == c), SeqAt.EqAt.int_int a t c u, by simp⟩
section
open PySem.SeqAt
open PySem.AutoSeq1 (wpAny_loadPart')
open PySem.MeetsSeq PySem.MeetsSeq2 PySem.MeetsSeq3
end
section
variable {prog : Program} {w : World} {A : Around} {E : Y9} {s : Shared}
theorem cat_tup {t b : Addr} {vs ws : Y1} {Q : Y9} (ht : IsTup s.heap t vs.toArray) (hb : IsTup s.heap b ws.toArray) (hv : vs ≠ [])
  (h1 : ws = [] → Q (.ref t) s) (h2 : ws ≠ [] → Q (.ref s.heap.objs.size) { s with heap := s.heap.push { cls := .type "tuple", data := .seq (vs ++ ws).toArray } })
  (hsz : vs.length + ws.length ≤ sizeLine) : wpAny (model prog w) A (binaryOp .Add (.ref t) (.ref b)) Q E s := by
 obtain ⟨⟨cls, dd, data, sl⟩, ho, hc, n, hd⟩ := id ht
 obtain ⟨⟨cls2, dd2, data2, sl2⟩, ho2, hc2, n2, hd2⟩ := id hb
 simp only at hc hd hc2 hd2
 subst hc hd hc2 hd2
 have e : vs.toArray ++ ws.toArray = (vs ++ ws).toArray := by simp
 by_cases hw : ws = []
 ·exact concat_meets ⟨_, ho, rfl⟩ ⟨_, ho2, rfl⟩ noFill_tuple_add seq_tuple_add PySem.F.slot_tuple_add PySem.F.entry_tuple_add (PySem.F.args_tuple_add_2 _ _)
   (tuple_addW1 t b vs.toArray ws.toArray n n2 dd dd2 sl sl2 (by simpa using hv) (by simp [hw])) ⟨ho, ho2, h1 hw⟩
 ·refine concat_meets ⟨_, ho, rfl⟩ ⟨_, ho2, rfl⟩ noFill_tuple_add seq_tuple_add PySem.F.slot_tuple_add PySem.F.entry_tuple_add (PySem.F.args_tuple_add_2 _ _)
   (tuple_addW2 t b vs.toArray ws.toArray n n2 dd dd2 sl sl2 (by simpa using hv) (by simpa using hw) (by rw [List.size_toArray, List.size_toArray]; exact hsz)) ⟨ho, ho2, ?_⟩
  rw [e]
  exact h2 hw
end
end HT
namespace L2
open PySem PySem.Spec PyProof.Rows
theorem intsAre_of {ns : Y0} : ∀ {us : Y1}, Vals (ns.map V.int) us → IntsAre us ns := by
 induction ns with
 | nil => intro us r; rw [List.map_nil] at r; cases r; exact .nil
 | cons n ns ih =>
  intro us r
  rw [List.map_cons] at r
  cases r with
  | cons r1 r2 =>
   obtain ⟨t, e⟩ := r1
   subst e
   exact .cons n t (ih r2)
section
variable {X : Cx} {e : Expr} {te : TE} {lo hi : Option Expr} {tl th : TO} {pos p2 : Pos}
def aI7 (K : FG) : R2 := fun x y H Q => ∃ a b xs ys, x = .ref a ∧ y = .ref b ∧ SqT K H a xs ∧ SqT K H b ys ∧ xs ≠ [] ∧ xs.length + ys.length ≤ sizeLine ∧
 (ys = [] → Q (.ref a) H) ∧ (ys ≠ [] → ∀ p, H p = none → Q (.ref p) (upd H p (.tup (xs ++ ys))))
theorem Vals.vN {xs : List V} {us : Y1} (r : Vals xs us) : us = [] ↔ xs = [] := by
 cases r with
 | nil => simp
 | cons _ _ => simp
theorem aGx : OpR X (binaryOp .Add) (aI7 X.K) := by
 intro pins s σ H x y v u Q I rx ry h
 obtain ⟨a, b, xs, ys, rfl, rfl, ha, hb, hx, hz, q1, q2⟩ := h
 cases rx
 cases ry
 obtain ⟨its, r1, p1, _⟩ := I.tuple ha
 obtain ⟨its2, r2, p2, _⟩ := I.tuple hb
 refine HT.cat_tup p1 p2 (fun z => hx (r1.vN.mp z)) (fun z => ⟨.ref a, H, I, rfl, q1 (r2.vN.mp z)⟩) (fun z => ?_) (by rw [← r1.length, ← r2.length]; exact hz)
 refine ⟨.ref s.heap.objs.size, _, I.laid (t' := s.toks) (o := .tup (xs ++ ys)) (fun b ob q => Heap.get?_push_of_some _ q) (Nat.le_refl _) ?_, rfl, q2 (fun w => z (r2.vN.mpr w)) _ (I.hok.fresh (Nat.le_refl _))⟩
 exact ⟨by rw [List.length_append]; exact hz, _, r1.append r2, IsTup.new _ _⟩
end
end L2
namespace L2
open PySem PySem.Spec PyProof.Rows
def ixN (n : Nat) (i : Int) : Option Nat := if 0 ≤ i then (if i < n then some i.toNat else none) else if -(n : Int) ≤ i then some (i + n).toNat else none
def atI {α : Type} (xs : List α) (i : Int) : Option α := (ixN xs.length i).bind fun j => xs[j]?
theorem aAv {n : Nat} {i : Int} {j : Nat} (h : ixN n i = some j) : seqIndex? i n = some j ∧ j < n ∧ -(n : Int) ≤ i ∧ i < n := by
 unfold ixN at h
 by_cases h0 : 0 ≤ i
 ·rw [if_pos h0] at h
  by_cases h1 : i < n
  ·rw [if_pos h1] at h
   have e : i.toNat = j := Option.some.inj h
   exact ⟨by rw [seqIndex_of h0 h1, e], by omega, by omega, h1⟩
  ·rw [if_neg h1] at h; cases h
 ·rw [if_neg h0] at h
  by_cases h1 : -(n : Int) ≤ i
  ·rw [if_pos h1] at h
   have e : (i + n).toNat = j := Option.some.inj h
   exact ⟨by rw [seqIndex_neg (by omega) h1, e], by omega, h1, by omega⟩
  ·rw [if_neg h1] at h; cases h
theorem aAk {α : Type} {xs : List α} {i : Int} {v : α} (h : atI xs i = some v) : ∃ j, seqIndex? i xs.length = some j ∧ xs[j]? = some v ∧ j < xs.length ∧ -(xs.length : Int) ≤ i ∧ i < xs.length := by
 unfold atI at h
 cases e : ixN xs.length i with
 | none => rw [e] at h; cases h
 | some j =>
  rw [e] at h
  obtain ⟨h1, h2, h3, h4⟩ := aAv e
  exact ⟨j, h1, h, h2, h3, h4⟩
def uO (b : Expr) : Prop := ∀ o i, subscripted b false o i = operate [o, i] (getItem o i)
def IxR (X : Cx) (r : R2) : Prop :=
 ∀ (value slice : Expr) (pins : Y8) (s : Shared) (σ : St) (H : Hp) (x y : V) (v u : Value) (Q : VK), Inv X pins σ H s → RelV x v → RelV y u → r x y H Q →
  subscripted slice false v u = operate [v, u] (getItem v u) → wpAny (model X.prog X.w) X.A (subscriptTail value slice v u) (EP X pins σ Q) X.xe s
def MtR (X : Cx) (id : String) (r : V → List V → Hp → VK → Prop) : Prop :=
 ∀ (pins : Y8) (s : Shared) (σ : St) (H : Hp) (x : V) (xs : List V) (v : Value) (us : Y1) (Q : VK), Inv X pins σ H s → RelV x v → Vals xs us → r x xs H Q →
  wpAny (model X.prog X.w) X.A (call (.builtin id) (v :: us)) (EP X pins σ Q) X.xe s
section
variable {X : Cx} {a b : Expr} {ta tb : TE} {pos : Pos}
theorem IxR.or {r r' : R2} (h : IxR X r) (h' : IxR X r') : IxR X (fun x y H Q => r x y H Q ∨ r' x y H Q) := by
 intro value slice pins s σ H x y v u Q I rx ry q hs
 rcases q with q | q
 ·exact h value slice pins s σ H x y v u Q I rx ry q hs
 ·exact h' value slice pins s σ H x y v u Q I rx ry q hs
theorem aIb {r : R2} (hr : IxR X r) (ha : PE X a ta) (hb : PE X b tb) (hs : uO b) : PE X (.Subscript a b pos) (tOp r ta tb) := by
 intro pins s σ H Q I h
 exact Subscript_ (aKk ha hb I h fun v u s2 x y H2 I2 rx ry q => hr a b pins s2 σ H2 x y v u Q I2 rx ry q (hs _ _))
def aJl (K : FG) : R2 := fun x y H Q => ∃ p xs i v, x = .ref p ∧ y = .int i ∧ SqL K H p xs ∧ atI xs i = some v ∧ Q v H
def aMr (K : FG) : R2 := fun x y H Q => ∃ p xs i v, x = .ref p ∧ y = .int i ∧ SqT K H p xs ∧ atI xs i = some v ∧ Q v H
theorem aBg : IxR X (aJl X.K) := by
 intro value slice pins s σ H x y v u Q I rx ry h hs
 obtain ⟨p, xs, i, z, rfl, rfl, hq, he, q⟩ := h
 cases rx
 obtain ⟨t, rfl⟩ := ry
 obtain ⟨its, r, pl, hz⟩ := I.list hq
 obtain ⟨j, h1, h2, h3, h4, h5⟩ := aAk he
 obtain ⟨w, ew, rw'⟩ := r.get h2
 have hl := r.length
 have hn := qV
 have fin : EP X pins σ Q w s := ⟨z, H, I, rw', q⟩
 by_cases h0 : 0 ≤ i
 ·have hj : i.toNat = j := by
   rw [seqIndex_of h0 h5] at h1
   exact Option.some.inj h1
  exact item_listR pl.isList h0 (by omega) (by rw [hj]; simpa using ew) fin hs
 ·have hj : (i + (its.toArray.size : Int)).toNat = j := by
   rw [seqIndex_neg (by omega) h4] at h1
   rw [List.size_toArray, ← hl]
   exact Option.some.inj h1
  exact subscriptTail_builtinR (x := w) pl.isList.typeIs slot_list_getitem.lookup
   (wpAny_getItem_list_neg (Q := fun r s' => r = w ∧ EP X pins σ Q r s') pl.isList (by omega) (by rw [List.size_toArray] <;> omega) (by omega) (by rw [hj]; simpa using ew) ⟨rfl, fin⟩) hs
theorem aJ1 : IxR X (aMr X.K) := by
 intro value slice pins s σ H x y v u Q I rx ry h hs
 obtain ⟨p, xs, i, z, rfl, rfl, hq, he, q⟩ := h
 cases rx
 obtain ⟨t, rfl⟩ := ry
 obtain ⟨its, r, pl, hz⟩ := I.tuple hq
 obtain ⟨j, h1, h2, h3, h4, h5⟩ := aAk he
 obtain ⟨w, ew, rw'⟩ := r.get h2
 have hl := r.length
 have hn := qV
 have fin : EP X pins σ Q w s := ⟨z, H, I, rw', q⟩
 exact subscriptTail_builtinR (x := w) pl.typeIs slot_tuple_getitem.lookup
  (getItem_tuple (j := j) (Q := fun r s' => r = w ∧ EP X pins σ Q r s') pl (by omega) (by omega) (by rw [List.size_toArray, ← hl]; exact h1) (by simpa using ew) ⟨rfl, fin⟩) hs
theorem yV (its : Y1) (n j : Nat) (u : Value) : Obj.mapSeq (·.setIfInBounds j u) { cls := .type "list", data := .seq its.toArray n } = { cls := .type "list", data := .seq (its.set j u).toArray n } := by
 simp [Obj.mapSeq]
theorem Inv.lst {pins : Y8} {σ : St} {H : Hp} {s : Shared} {p : Addr} {xs : List V} (I : Inv X pins σ H s) (h : H p = some (.lst xs)) :
  ∃ (its : Y1) (n : Nat), Vals xs its ∧ s.heap.get? p = some { cls := .type "list", data := .seq its.toArray n } ∧ xs.length ≤ sizeLine := by
 obtain ⟨z, its, n, r, e⟩ := I.hok p _ h
 exact ⟨its, n, r, e, z⟩
theorem Inv.aMi {pins : Y8} {σ : St} {H : Hp} {s : Shared} {p : Addr} {xs ys : List V} {its its' : Y1} {n n' : Nat} {f : Obj → Obj} (I : Inv X pins σ H s) (h : H p = some (.lst xs))
  (ho : s.heap.get? p = some { cls := .type "list", data := .seq its.toArray n }) (hf : f { cls := .type "list", data := .seq its.toArray n } = { cls := .type "list", data := .seq its'.toArray n' }) (r : Vals ys its') (hz : ys.length ≤ sizeLine) (t : Nat) :
  Inv X pins σ (upd H p (.lst ys)) { s with heap := s.heap.update p f, toks := t } := by
 have e : (s.heap.update p f).get? p = some { cls := .type "list", data := .seq its'.toArray n' } := by
  rw [Heap.get?_update_self f ho (by rw [hf] <;> rfl), hf]
 refine I.write (x := p) (e := p) (by rw [h]; trivial) (.inl rfl) (fun b u hb q => (Heap.get?_update_other _ _ (Ne.symm hb)).trans q) ⟨_, e⟩ ?_
 exact ⟨hz, its', n', r, e⟩
def aJb : V → V → V → Hp → (Hp → Prop) → Prop := fun o i v H Q => ∃ p xs k j, o = .ref p ∧ i = .int k ∧ H p = some (.lst xs) ∧ ixN xs.length k = some j ∧ Q (upd H p (.lst (xs.set j v)))
theorem set_list : aNs X aJb := by
 intro pins s σ H o i v ov iv u Q I ro ri rv h
 obtain ⟨p, xs, k, j, rfl, rfl, hp, hj, q⟩ := h
 cases ro
 obtain ⟨t, rfl⟩ := ri
 obtain ⟨its, n, r, ho, hz⟩ := I.lst hp
 obtain ⟨h1, h2, h3, h4⟩ := aAv hj
 have hl := r.length
 have hn := qV
 have I' : Inv X pins σ (upd H p (.lst (xs.set j v))) { s with heap := s.heap.update p (Obj.mapSeq (·.setIfInBounds j u)) } :=
  I.aMi hp ho (yV its n j u) (r.set rv j) (by rw [List.length_set]; exact hz) s.toks
 by_cases h0 : 0 ≤ k
 ·have hk : k.toNat = j := by
   rw [seqIndex_of h0 h4] at h1
   exact Option.some.inj h1
  exact PySem.W.ki_setAt ho h0 (by omega) (by rw [List.size_toArray, ← hl]; exact h4) (by rw [hk]; exact ⟨_, I', q⟩)
 ·have hk : (k + (its.toArray.size : Int)).toNat = j := by
   rw [seqIndex_neg (by omega) h3] at h1
   rw [List.size_toArray, ← hl]
   exact Option.some.inj h1
  exact PySem.W.ki_setBack ho (by omega) (by rw [List.size_toArray, ← hl]; exact h3) (by omega) (by rw [hk]; exact ⟨_, I', q⟩)
theorem uU : lT X (.builtin "len") (fun xs H Q => ∃ p ys, xs = [.ref p] ∧ (SqL X.K H p ys ∨ SqT X.K H p ys) ∧ Q (.int ys.length) H) := by
 intro pins s σ H xs us Q I r h
 obtain ⟨p, ys, rfl, hq, q⟩ := h
 obtain ⟨u, rfl, rx⟩ := vals1 r
 cases rx
 have hn := qV
 rcases hq with hq | hq
 ·obtain ⟨its, r', pl, hz⟩ := I.list hq
  have hlen := r'.length
  exact Calls.call_len_list pl.isList (by simp only [List.size_toArray] <;> omega) ⟨.int ys.length, H, I.tok _, ⟨s.toks + 1, by rw [List.size_toArray, hlen]⟩, q⟩
 ·obtain ⟨its, r', pl, hz⟩ := I.tuple hq
  have hlen := r'.length
  exact len_tuple pl (by simp only [List.size_toArray] <;> omega) ⟨.int ys.length, H, I.tok _, ⟨s.toks + 1, by rw [List.size_toArray, hlen]⟩, q⟩
theorem uZ : lT X (.type "list") (fun xs H Q => ∃ p ys, xs = [.ref p] ∧ (SqL X.K H p ys ∨ SqT X.K H p ys) ∧ ∀ l, H l = none → Q (.ref l) (upd H l (.lst ys))) := by
 intro pins s σ H xs us Q I r h
 obtain ⟨p, ys, rfl, hq, q⟩ := h
 obtain ⟨u, rfl, rx⟩ := vals1 r
 cases rx
 have fin : ∀ (its : Y1), Vals ys its → ys.length ≤ sizeLine → ∀ (h' : Heap) (c' : Nat), (∀ b o', s.heap.get? b = some o' → h'.get? b = some o') →
   h'.get? s.heap.objs.size = some { cls := .type "list", dict := none, data := .seq its.toArray c', slots := #[] } → EP X pins σ Q (.ref s.heap.objs.size) { s with heap := h' } := fun its r' hz h' c' kp e =>
  ⟨.ref s.heap.objs.size, _, I.laid (t' := s.toks) kp (Nat.le_refl _) (show eG X.prog X.w _ h' _ (.lst ys) from ⟨hz, its, c', r', e⟩), rfl, q _ (I.hok.fresh (Nat.le_refl _))⟩
 rcases hq with hq | hq
 ·obtain ⟨its, r', pl, hz⟩ := I.list hq
  have hlen := r'.length
  obtain ⟨o, ho, hc, n, hd⟩ := pl.isList
  exact call_list_seq p (.inl rfl) ho hc hd (fun h' c' kp e => fin its r' hz h' c' kp e) (by simp only [List.size_toArray] <;> omega)
 ·obtain ⟨its, r', pl, hz⟩ := I.tuple hq
  have hlen := r'.length
  obtain ⟨o, ho, hc, n, hd⟩ := pl
  exact call_list_seq p (.inr rfl) ho hc hd (fun h' c' kp e => fin its r' hz h' c' kp e) (by simp only [List.size_toArray] <;> omega)
def tyV (K : FG) (T : String) (x : V) (H : Hp) : Prop := match x with
 | .str _ => T = "str"
 | .int _ => T = "int"
 | .ref p => (T = "list" ∧ ∃ xs, SqL K H p xs) ∨ (T = "tuple" ∧ ∃ o, K.lookup p = some o ∧ o.cls = .type "tuple" ∧ o.dict = none) ∨
   (T = "dict" ∧ ((∃ kvs, H p = some (.dK kvs)) ∨ ∃ kvs, H p = some (.dT kvs))) ∨ (T = "set" ∧ ∃ S n, H p = some (.set S n))
 | _ => False
theorem aEe {pins : Y8} {σ : St} {H : Hp} {s : Shared} {T : String} {x : V} {v : Value} (I : Inv X pins σ H s) (r : RelV x v) (ty : tyV X.K T x H) :
  s.TypeIs v T ∧ ∀ a, v = .ref a → ∃ ob, s.heap.get? a = some ob ∧ ob.dict = none := by
 cases x with
 | str z =>
  obtain ⟨t, rfl⟩ := r
  cases (show T = "str" from ty)
  exact ⟨typeIs_str s z t, fun _ e => nomatch e⟩
 | int i =>
  obtain ⟨t, rfl⟩ := r
  cases (show T = "int" from ty)
  exact ⟨typeIs_int s i t, fun _ e => nomatch e⟩
 | ref p =>
  cases r
  rcases ty with ⟨rfl, xs, hq⟩ | ⟨rfl, o, hk, hc, hd⟩ | ⟨rfl, hk⟩ | ⟨rfl, S, n, hk⟩
  ·obtain ⟨its, _, pl, _⟩ := I.list hq
   refine ⟨pl.isList.typeIs, fun a e => ?_⟩
   cases e
   obtain ⟨o, n, e, c, hd, _⟩ := pl
   exact ⟨o, e, hd⟩
  ·refine ⟨⟨o, I.kIn p o hk, hc⟩, fun a e => ?_⟩
   cases e
   exact ⟨o, I.kIn _ o hk, hd⟩
  ·have z : ∃ o, s.heap.get? p = some o ∧ o.ExactDict := by
    rcases hk with ⟨kvs, hk⟩ | ⟨kvs, hk⟩
    ·obtain ⟨_, _, _, _, o, _, _, e, ex, _⟩ := I.hok p _ hk
     exact ⟨o, e, ex⟩
    ·obtain ⟨_, _, _, _, o, _, _, e, ex, _⟩ := I.hok p _ hk
     exact ⟨o, e, ex⟩
   obtain ⟨o, e, ex⟩ := z
   refine ⟨⟨o, e, ex.1⟩, fun a e2 => ?_⟩
   cases e2
   exact ⟨o, e, ex.2.1⟩
  ·obtain ⟨o, _, _, _, e, ex, _⟩ := I.hok p _ hk
   refine ⟨⟨o, e, ex.1⟩, fun a e2 => ?_⟩
   cases e2
   exact ⟨o, e, ex.2.1⟩
 | _ => exact False.elim ty
def aM5 (K : FG) (T : String) (r : V → List V → Hp → VK → Prop) (to : TE) : TE := fun σ H Q => to σ H fun x H1 => tyV K T x H1 ∧ r x [] H1 Q
def tBM (K : FG) (T : String) (r : V → List V → Hp → VK → Prop) (to : TE) (t : TA) : TE := fun σ H Q => to σ H fun x H1 => tyV K T x H1 ∧ t σ H1 fun xs H2 => r x xs H2 Q
variable {o e : Expr} {es : List Expr} {to : TE} {t : TA} {name : Str} {apos cpos : Pos} {T id : String} {r : V → List V → Hp → VK → Prop}
theorem aLg (pa : PlainAttrs T) (slot : Slot T name id) (hty : typeOf (.builtin id) = pure (.type "method_descriptor")) (hm : MtR X id r) (ho : PE X o to)
  (hbase : attributeBase o name X.env (eval o X.env) = eval o X.env := by rfl) (hline : (apos.endLine == cpos.line) = true := by rfl) : PE X (.Call (.Attribute o name apos) [] [] cpos) (aM5 X.K T r to) := by
 intro pins s σ H Q I h
 refine wpAny_Call_method0_late hbase hline (thn (ho pins s σ H _ I h) fun v s1 ⟨x, H1, I1, r1, ty, q1⟩ => ?_)
 obtain ⟨h1, h2⟩ := aEe I1 r1 ty
 exact ⟨T, id, pa, slot, hty, h1, h2, Calls.callWith_builtin rfl (PySem.evalArgs_none (hm pins s1 σ H1 x [] v [] Q I1 r1 .nil q1))⟩
theorem aIc (pa : PlainAttrs T) (slot : Slot T name id) (hty : typeOf (.builtin id) = pure (.type "method_descriptor")) (hm : MtR X id r) (ho : PE X o to) (ha : PA X (e :: es) t)
  (hbase : attributeBase o name X.env (eval o X.env) = eval o X.env := by rfl)
  (hfew : ((backTo cpos (starEach (e :: es) X.env)).all (fun x => !x.1) && (backToKw cpos (keywordEach [] X.env)).all (fun x => x.1.isSome)
   && decide ((e :: es).length + ([] : List Keyword).length + (if ([] : List Keyword).isEmpty then 0 else 1) < 30)) = true := by rfl)
  (hline : (apos.endLine == cpos.line) = true := by rfl) (hs : starEach (e :: es) X.env = (false, eval e X.env) :: starEach es X.env := by rfl) (hplain : (backTo cpos (starEach es X.env)).any (·.1) = false := by rfl) :
  PE X (.Call (.Attribute o name apos) (e :: es) [] cpos) (tBM X.K T r to t) := by
 intro pins s σ H Q I h
 refine wpAny_Call_method_late hbase hfew hline rfl (thn (ho pins s σ H _ I h) fun v s1 ⟨x, H1, I1, r1, ty, q1⟩ => ?_)
 obtain ⟨h1, h2⟩ := aEe I1 r1 ty
 refine ⟨T, id, pa, slot, hty, h1, h2, ?_⟩
 have hA := ha cpos pins s1 σ H1 _ I1 q1
 rw [hs] at hA ⊢
 refine Calls.callWith_builtin (by show (false || (backTo cpos (starEach es X.env)).any (·.1)) = false; rw [hplain] <;> rfl) (Calls.evalArgs_plain ?_)
 exact thn hA fun us s2 ⟨vs, H2, I2, r2, q2⟩ => hm pins s2 σ H2 x vs v us Q I2 r1 r2 q2
end
end L2
namespace L2
open PySem PySem.Spec PyProof.Rows
def MtM (X : Cx) (id : String) (r : V → List V → Hp → VK → Prop) : Prop :=
 ∀ (pins : Y8) (s : Shared) (σ : St) (H : Hp) (x : V) (xs : List V) (v : Value) (us : Y1) (Q : VK), Inv X pins σ H s → RelV x v → Vals xs us → r x xs H Q →
  wpAny (model X.prog X.w) X.A (call (.builtin id) (v :: us)) (EP X pins σ Q) X.xe s
theorem Vals.one : ∀ {x : V} {us : Y1}, Vals [x] us → ∃ u, us = [u] ∧ RelV x u
 | _, _, .cons r .nil => ⟨_, rfl, r⟩
theorem Vals.two : ∀ {x y : V} {us : Y1}, Vals [x, y] us → ∃ u v, us = [u, v] ∧ RelV x u ∧ RelV y v
 | _, _, _, .cons r (.cons q .nil) => ⟨_, _, rfl, r, q⟩
theorem Vals.zero : ∀ {us : Y1}, Vals [] us → us = []
 | _, .nil => rfl
theorem Vals.reverse {xs : List V} {us : Y1} (h : Vals xs us) : Vals xs.reverse us.reverse := by
 induction h with
 | nil => exact .nil
 | cons r t ih => rw [List.reverse_cons, List.reverse_cons]; exact Vals.append ih (.cons r .nil)
theorem Vals.rep {xs : List V} {us : Y1} (h : Vals xs us) : ∀ k : Nat, Vals (List.replicate k xs).flatten (List.replicate k us).flatten
 | 0 => .nil
 | k + 1 => by
  rw [List.replicate_succ, List.replicate_succ, List.flatten_cons, List.flatten_cons]
  exact Vals.append h (Vals.rep h k)
theorem foldl_rep (its : Y1) : ∀ (k : Nat) (acc : Y1),
  List.foldl (fun x1 x2 => x1 ++ x2) acc.toArray (List.replicate k its.toArray) = (acc ++ (List.replicate k its).flatten).toArray
 | 0, acc => by simp
 | k + 1, acc => by
  have e : acc.toArray ++ its.toArray = (acc ++ its).toArray := by simp
  have e2 : (acc ++ its) ++ (List.replicate k its).flatten = acc ++ (List.replicate (k + 1) its).flatten := by
   rw [List.replicate_succ, List.flatten_cons, List.append_assoc]
  rw [← e2, ← foldl_rep its k (acc ++ its), ← e, List.replicate_succ, List.foldl_cons]
section
variable {X : Cx} {pins : Y8} {σ : St} {H : Hp} {s : Shared} {l b : Addr} {xs ys zs : List V}
theorem Inv.aO4 {its its' : Y1} {n : Nat} {f : Array Value → Array Value} {t' : Nat} (I : Inv X pins σ H s) (hH : H l = some (.lst xs))
  (e : s.heap.get? l = some { cls := .type "list", data := .seq its.toArray n }) (hf : f its.toArray = its'.toArray) (hv : Vals ys its') (hz : ys.length ≤ sizeLine) :
  Inv X pins σ (upd H l (.lst ys)) { s with heap := s.heap.update l (Obj.mapSeq f), toks := t' } := by
 have q := PySem.IsL.update e f
 rw [hf] at q
 refine I.write (x := l) (e := l) (by rw [hH]; exact trivial) (.inl rfl) (fun b' u hb hu => (Heap.get?_update_other s.heap (Obj.mapSeq f) (Ne.symm hb)).trans hu) ⟨_, q⟩ ?_
 exact ⟨hz, its', _, hv, q⟩
theorem Inv.aMh {its : Y1} {t' : Nat} (I : Inv X pins σ H s) (hv : Vals ys its) (hz : ys.length ≤ sizeLine) :
  Inv X pins σ (upd H s.heap.objs.size (.lst ys)) { s with heap := s.heap.push { cls := .type "list", data := .seq its.toArray }, toks := t' } :=
 I.laid (fun _ _ q => Heap.get?_push_of_some _ q) (Nat.le_refl _) ⟨hz, its, 0, hv, Heap.get?_push_size _ rfl⟩
theorem Inv.fresh (I : Inv X pins σ H s) : H s.heap.objs.size = none := I.hok.fresh (Nat.le_refl _)
theorem Inv.aMg (I : Inv X pins σ H s) (hH : H l = some (.lst xs)) : xs.length ≤ sizeLine ∧ ∃ (its : Y1) (n : Nat), Vals xs its ∧ xs.length = its.length ∧ s.heap.get? l = some { cls := .type "list", data := .seq its.toArray n } := by
 obtain ⟨z, its, n, r, e⟩ := I.hok l _ hH
 exact ⟨z, its, n, r, r.length, e⟩
theorem aFj {n : Nat} (h : n ≤ sizeLine) : Builtin.List.listTooLong n = false := by
 unfold Builtin.List.listTooLong
 exact decide_eq_false (by omega)
end
section
variable {X : Cx}
def vB : V → List V → Hp → VK → Prop := fun x vs H Q => ∃ l xs y, x = .ref l ∧ vs = [y] ∧ H l = some (.lst xs) ∧ xs.length < sizeLine ∧ Q .non (upd H l (.lst (xs ++ [y])))
theorem oR : MtM X "list.append" vB := by
 intro pins s σ H x vs v us Q I rx rv h
 obtain ⟨l, xs, y, rfl, rfl, hH, hz, q⟩ := h
 cases rx
 obtain ⟨u, rfl, ru⟩ := rv.one
 obtain ⟨z, its, n, r, hl, e⟩ := I.aMg hH
 refine call_meets F.slot_list_append ⟨_, e, rfl⟩ F.entry_list_append (F.args_list_append_2 _ _) (PySem.list_append l its.toArray n u (by rw [List.size_toArray]; omega)) ⟨e, ?_⟩
 refine ⟨.non, _, I.aO4 (its' := its ++ [u]) hH e (by simp) (r.append (.cons ru .nil)) ?_, rfl, q⟩
 rw [List.length_append, List.length_singleton]
 omega
def wY : V → List V → Hp → VK → Prop := fun x vs H Q => ∃ l xs, x = .ref l ∧ vs = [] ∧ H l = some (.lst xs) ∧ Q .non (upd H l (.lst xs.reverse))
theorem zJ : MtM X "list.reverse" wY := by
 intro pins s σ H x vs v us Q I rx rv h
 obtain ⟨l, xs, rfl, rfl, hH, q⟩ := h
 cases rx
 have hus := rv.zero
 subst hus
 obtain ⟨z, its, n, r, hl, e⟩ := I.aMg hH
 refine call_meets F.slot_list_reverse ⟨_, e, rfl⟩ F.entry_list_reverse (F.args_list_reverse_1 _) (AutoSeq1.list_reverse_list_0 l its.toArray n (by rw [List.size_toArray]; omega)) ⟨e, ?_⟩
 refine ⟨.non, _, I.aO4 (its' := its.reverse) hH e (by simp) r.reverse ?_, rfl, q⟩
 rw [List.length_reverse]
 omega
def aOc : R2 := fun x y H Q => ∃ l k xs, x = .ref l ∧ y = .int k ∧ H l = some (.lst xs) ∧ -(2 ^ 63) ≤ k ∧ k < 2 ^ 63 ∧ xs.length * k.toNat ≤ sizeLine ∧
 ∀ p, H p = none → Q (.ref p) (upd H p (.lst (List.replicate k.toNat xs).flatten))
theorem len_rep {α : Type} (xs : List α) (k : Nat) : (List.replicate k xs).flatten.length = k * xs.length := by
 induction k with
 | zero => simp
 | succ k ih => rw [List.replicate_succ, List.flatten_cons, List.length_append, ih, Nat.succ_mul, Nat.add_comm]
theorem aLm : OpR X (binaryOp .Mult) aOc := by
 intro pins s σ H x y v u Q I rx ry h
 obtain ⟨l, k, xs, rfl, rfl, hH, h1, h2, hz, q⟩ := h
 cases rx
 obtain ⟨t, rfl⟩ := ry
 obtain ⟨z, its, n, r, hl, e⟩ := I.aMg hH
 have hlen : its.toArray.size * k.toNat ≤ sizeLine := by rw [List.size_toArray, ← hl]; exact hz
 have hcap : ¬ its.toArray.size * k.toNat > (2 ^ 63 - 1) / 8 := by
  have : (sizeLine : Nat) ≤ (2 ^ 63 - 1) / 8 := by decide
  omega
 have hfit : ¬ (!Builtin.List.listFitsIndex k) = true := by
  rw [fitsIndex_both h1 h2]
  exact Bool.false_ne_true
 have hlong : ¬ Builtin.List.listTooLong (its.toArray.size * k.toNat) = true := by
  rw [aFj hlen]
  exact Bool.false_ne_true
 have hnew : List.foldl (fun x1 x2 => x1 ++ x2) #[] (List.replicate (if its.toArray.isEmpty = true then 0 else k.toNat) its.toArray) = (List.replicate k.toNat its).flatten.toArray := by
  have f0 : ∀ m : Nat, List.foldl (fun x1 x2 => x1 ++ x2) #[] (List.replicate m its.toArray) = (List.replicate m its).flatten.toArray := fun m => by
   have := foldl_rep its m []
   rw [List.nil_append] at this
   exact this
  rw [f0]
  cases its with
  | nil => simp
  | cons a r' => rw [if_neg (by simp)]
 refine wpAny_binaryOp_repeat_ref (T := "list") (U := "int") (by decide) ⟨_, e, rfl⟩ (fun s' => typeIs_int s' k t) noFill_list_mul F.fills_int_mul F.slot_int_rmul repeat_list F.slot_int_index.lookup
  (call_meets F.slot_int_rmul (typeIs_int s k t) F.entry_int_rmul (F.args_int_rmul_2 _ _) (int___rmul___int_list k t l its.toArray n)
   ⟨e, rfl, ⟨_, e, rfl⟩, call_meets F.slot_list_mul ⟨_, e, rfl⟩ F.entry_list_mul (F.args_list_mul_2 _ _) (AutoListH.list___mul___list_int_3 l its.toArray n k t hfit hcap hlong) ⟨e, ?_⟩⟩)
 rw [hnew]
 exact ⟨.ref _, _, I.aMh (t' := s.toks) (r.rep k.toNat) (by rw [len_rep, Nat.mul_comm]; exact hz), rfl, q _ I.fresh⟩
end
section
variable {prog : Program} {w : World} {A : Around} {E : Y9} {s : Shared}
set_option maxRecDepth 100000 in
end
section
variable {X : Cx}
end
end L2
namespace Att
open PySem PySem.W PySem.Calls PyProof.Rows
theorem pC {P : Params} {h : Heap} : ∀ (ns : Y0) (vs : Y1), WellAll P h vs (ns.map WData.int) → IntsAre vs ns := by
 intro ns
 induction ns with
 | nil =>
  intro vs w
  rw [List.map_nil] at w
  cases w
  exact .nil
 | cons n ns ih =>
  intro vs w
  rw [List.map_cons] at w
  cases w with
  | cons a b =>
   cases a
   exact .cons _ _ (ih _ b)
theorem aBz {l : OpenLaw} {n : Nat} (hn : l.most = some n) {P : Params} {h : Heap} {args : List WData} {vals : Y1}
  (hpre : l.row.toRowW.claim.pre args = true) (hwl : WellAll P h vals args) :
  ∃ a vs ns, vals = [Value.ref a] ∧ args = [WData.list (ns.map WData.int)] ∧ h.get? a = some { cls := .type "list", data := .seq vs.toArray } ∧ IntsAre vs ns ∧ ns.length ≤ n := by
 have hsh : WShape.hasAll [] args [.list .int] = true := (pre_splitW hpre).1
 have hc : l.pre.holds [] { args := args } = true := (pre_splitW hpre).2
 obtain ⟨d, r, rfl, h1, h2⟩ := hasAllW_cons hsh
 obtain rfl := hasAllW_nil h2
 obtain ⟨xs, rfl, h3⟩ := hasW_list h1
 obtain ⟨ns, rfl⟩ := items_int h3
 have hlen : ns.length ≤ n := by
  unfold OpenLaw.pre at hc
  have h4 : (WTm.not (.lt (.lit (.int (n : Int))) (.len (.arg 0)))).holds [] { args := [.list (ns.map .int)] } = true := by
   have h4 := (holds_andW hc).1
   rw [hn] at h4
   exact h4
  have h5 := condW_of h4 (w_not (w_lt w_lit (w_len_list (w_arg rfl))))
  rw [List.length_map] at h5
  refine Nat.le_of_not_lt fun q => ?_
  have q' : (n : Int) < ((ns.length : Nat) : Int) := by omega
  first
   | (rw [decide_eq_true q'] at h5; exact absurd h5 (by decide))
   | (simp at h5; omega)
 cases hwl with
 | cons w1 w2 =>
  cases w2
  cases w1 with
  | list ho hall => exact ⟨_, _, ns, rfl, rfl, ho, pC ns _ hall, hlen⟩
theorem aBy (l : OpenLaw) (args : List WData) : l.row.toRowW.claim.post args (.bool true) args = true :=
 postW_of (r := l.row.toRowW) (X := (true == true))
  (show WShape.has [] (.bool true) .bool = true by first | rfl | decide | simp [WShape.has, WShape.arms, WShape.armsAll])
  (show (WTm.eq .res (.lit (.bool true))).value [] { args := args, res := some (.bool true), after := args } = some (.bool (true == true)) from w_eq_bool (w_res rfl) w_lit) rfl
theorem attach_call {l : OpenLaw} {n : Nat} {q : Program} {loose : List Str} {XP : (Str → Option Value) → Heap → Prop} {YP : World → Heap → Prop} {d : DefRec}
  (hn : l.most = some n) (hdf : d.params.defaults = [])
  (call : ∀ (w : World) (s₀ s₁ : Shared) (mg mb : Y6) (fa : Addr) (o : Obj) (pm cd doc : Value) (a : Addr) (vs : Y1) (ns : Y0),
   Ground q loose [] XP w s₀ mg mb s₁.heap → YP w s₁.heap →
   s₁.heap.get? fa = some o → o.data = .func (docDef d.name d.params d.body d.scope pm cd doc) → s₁.heap.CodeRec cd d.name → mg d.name = some (.ref fa) →
   s₁.heap.get? a = some { cls := .type "list", data := .seq vs.toArray } → IntsAre vs ns → ns.length ≤ n → s₁.gens = #[] →
   codeAny (model l.prog w) callerA (.call (.ref fa) ⟨[.ref a], []⟩) (fun r s' => r = .ok (.ret (.bool true)) ∧ OldK s₁.heap s'.heap ∧ s'.os = s₁.os ∧ AllBare s'.gens) s₁) :
  WalkO q loose XP YP l.row.toRowW d [] (fun f vs => PySem.call f vs) := by
 intro w s₀ s₁ mg mb G Y fa o pm cd doc dV kV ho hd hcd hD hmg hg args vals as hpre hlay hrd hwl hlo
 obtain rfl : dV = .none := Dflts.none hD hdf
 obtain rfl : kV = .none := Dflts.noKw hD
 obtain ⟨a, vs, ns, rfl, rfl, hobj, hints, hlen⟩ := aBz hn hpre hwl
 refine enter_call (codeAny_mono (call w s₀ s₁ mg mb fa o pm cd doc a vs ns G Y ho (fd_plain hd) hcd hmg hobj hints hlen hg) fun r s' hq => ?_)
 obtain ⟨rfl, h2, h3, h4⟩ := hq
 exact ⟨.inl ⟨.bool true, .bool true, [], rfl, fun _ => rfl, .bool true, aBy l _, fun _ => ⟨List.Pairwise.nil, fun _ hm => (nomatch hm)⟩⟩, h2, h3, h4⟩
section
variable {prog : Program} {w : World} {A : Around} {E : Y9} {s : Shared} {K : Frag}
end
end Att
namespace L2
open PySem PySem.Spec PyProof.Rows
theorem jI : ∀ {vs : Y1} {ns : Y0}, IntsAre vs ns → Vals (ns.map V.int) vs
 | _, _, .nil => .nil
 | _, _, .cons n t h => .cons ⟨t, rfl⟩ (jI h)
def aLy (H : Hp) : Prop := ∀ b, H b = none ∨ ∃ o xs, H b = some (.frz o (.lst xs))
theorem aEy {P : Program} {w : World} {K : FG} {mg mb : Y6} {CX : CXT} {k : Nat} {fa a : Addr} {fd : FuncData} {x : Str} {sp : Sp} {s₁ : Shared} {vs : Y1} {ns : Y0}
  (KX : K.In s₁.heap) (hns : s₁.heap.Ns mainGlobals mg) (hb : s₁.heap.Ns builtinsNs mb) (hbb : ∀ x : Str, x ≠ "__name__" → mb x = bootBuiltins x) (hlim : s₁.heap.NoLimit) (hg : s₁.gens = #[])
  (ha : s₁.heap.get? a = some { cls := .type "list", data := .seq vs.toArray }) (hi : IntsAre vs ns) (hl : ns.length ≤ sizeLine) (hr : Room k callerA)
  (F : ∀ base : Heap, K.In base → base.Ns mainGlobals mg → FnOk P w K mg base CX k fa fd [x] sp) (hbind : ∀ (s : Shared) (u : Value), BindsTo s fd ⟨[u], []⟩ [(x, u)])
  (hsp : ∀ H : Hp, aLy H → SqL K H a (ns.map V.int) → sp [.ref a] H (fun v _ => v = .bl true) fun _ _ _ => False)
  (hCX : ∀ H e s', CX [] H s₁ (fun _ _ _ => False) e s' → False) :
  codeAny (model P w) callerA (.call (.ref fa) ⟨[.ref a], []⟩) (fun r s' => r = .ok (.ret (.bool true)) ∧ OldK s₁.heap s'.heap ∧ s'.os = s₁.os ∧ AllBare s'.gens) s₁ := by
 have rv := jI hi
 have lenV := hi.length
 have core : ∀ H : Hp, aLy H → SqL K H a (ns.map V.int) → HOk P w H s₁.heap → (∀ b, H b ≠ none → b = a) → (H a ≠ none → K.lookup a = none) →
   codeAny (model P w) callerA (.call (.ref fa) ⟨[.ref a], []⟩) (fun r s' => r = .ok (.ret (.bool true)) ∧ OldK s₁.heap s'.heap ∧ s'.os = s₁.os ∧ AllBare s'.gens) s₁ := by
  intro H hO hS hok hA hK
  have base_of : ∀ {b : Addr} {o : Obj}, s₁.heap.get? b = some o → H b = none → (uR s₁.heap H).get? b = some o := fun e n => aD5 e n
  have noA : ∀ {b : Addr} {o : Obj} {es : Array DictEntry} {ep : Nat}, s₁.heap.get? b = some o → o.data = .dict es ep → H b = none := fun {b o es ep} e d => by
   cases q : H b with
   | none => rfl
   | some u =>
    have e' : b = a := hA b (by rw [q]; simp)
    subst e'
    rw [ha] at e; cases e
    have d' : Data.seq vs.toArray _ = Data.dict es ep := d
    cases d'
  have nsK : ∀ {b : Addr} {m : Y6}, s₁.heap.Ns b m → (uR s₁.heap H).Ns b m := fun {b m} ⟨o, es, ep, e, d, r⟩ => ⟨o, es, ep, base_of e (noA e d), d, r⟩
  have hKb : K.In (uR s₁.heap H) := fun b o e => base_of (KX b o e) (by
   cases q : H b with
   | none => rfl
   | some u =>
    have e' : b = a := hA b (by rw [q]; simp)
    subst e'
    rw [hK (by rw [q]; simp)] at e; cases e)
  have hM : Mod K mg (uR s₁.heap H) := ⟨hKb, nsK hns, ⟨mb, nsK hb, hbb⟩, let ⟨mc, h1, h2⟩ := hlim; ⟨mc, nsK h1, h2⟩⟩
  have e0 : Env0 P w K mg (uR s₁.heap H) callerA [] s₁ H := ⟨rfl, hM, fun b o e => aF9 e, Nat.le_of_eq (aCe _ _), trivial, fun b hb => absurd (show b ∈ ([] : Y2) from hb) (by simp), hok, .of_eq hg⟩
  refine codeAny_mono ((F _ hKb (nsK hns)).run callerA [] s₁ H ⟨[.ref a], []⟩ [.ref a] [.ref a] _ _ hr e0 (hbind s₁ (.ref a)) (.cons rfl .nil) (hsp H hO hS)) fun r s' h => ?_
  cases r with
  | error e => exact (hCX H e s' h).elim
  | ok fl =>
   cases fl with
   | next => exact False.elim h
   | brk => exact False.elim h
   | cont => exact False.elim h
   | ret u =>
    obtain ⟨v, H', os, bare, un, hok', r', q⟩ := h
    have q' : v = .bl true := q
    subst q'
    obtain rfl : u = Value.bool true := r'
    refine ⟨rfl, OldK.of_keep fun b o e => ?_, os, bare⟩
    cases q : H b with
    | none => exact un.keep b o e q (by intro z; exact absurd (show b ∈ ([] : Y2) from z) (by simp)) (by simp)
    | some u =>
     rcases hO b with z | ⟨ob, xs, z⟩
     ·rw [q] at z; cases z
     ·have z2 := un.frzs b ob _ z
      obtain ⟨e1, _⟩ := hok b _ z
      obtain ⟨e2, _⟩ := hok' b _ z2
      rw [e] at e1; cases e1
      exact e2
 cases hk : K.lookup a with
 | some o =>
  have e := KX a o hk
  rw [ha] at e
  cases e
  refine core (fun _ => none) (fun _ => .inl rfl) (.inr ⟨_, vs.toArray, _, hk, rfl, rfl, rfl, by rw [List.size_toArray, lenV]; exact hl, by simpa using rv⟩) (fun b u z => by have z' : (none : Option HO) = some u := z; cases z') (fun b z => absurd rfl z) fun z => absurd rfl z
 | none =>
  refine core (fun b => if b = a then some (.frz { cls := .type "list", data := .seq vs.toArray } (.lst (ns.map V.int))) else none) (fun b => ?_) (.inl (.inr ⟨{ cls := .type "list", data := .seq vs.toArray }, if_pos rfl⟩)) (fun b u z => ?_) (fun b z => ?_) fun _ => hk
  ·by_cases hb : b = a
   ·exact .inr ⟨_, _, if_pos hb⟩
   ·exact .inl (if_neg hb)
  ·by_cases hb : b = a
   ·have z' := (if_pos hb).symm.trans z
    cases z'
    subst hb
    exact ⟨ha, by rw [List.length_map]; exact hl, vs, _, rv, ha⟩
   ·have z' := (if_neg hb).symm.trans z
    cases z'
  ·by_cases hb : b = a
   ·exact hb
   ·exact absurd (if_neg hb) z
end L2
namespace L2
open PySem PySem.Spec PyProof.Rows
theorem walk_of {l : PySem.W.OpenLaw} {n k : Nat} {q : Program} {loose : List Str} {XP : (Str → Option Value) → Heap → Prop} {YP : World → Heap → Prop} {d : DefRec} {K : Params → FG} {CX : World → CXT} {sp : World → Sp} {x : Str}
  (hn : l.most = some n) (hn2 : n ≤ sizeLine) (hdf : d.params.defaults = []) (hr : Room k callerA)
  (hY : ∀ (w : World) (h : Heap), YP w h → (K w.params).In h)
  (F : ∀ (w : World) (mg : Y6) (fa : Addr) (h : Heap), (K w.params).In h → h.Ns mainGlobals mg → mg d.name = some (.ref fa) →
   ∃ fd : FuncData, (∀ (s : Shared) (u : Value), BindsTo s fd ⟨[u], []⟩ [(x, u)]) ∧
    ∀ base : Heap, (K w.params).In base → base.Ns mainGlobals mg → FnOk l.prog w (K w.params) mg base (CX w) k fa fd [x] (sp w))
  (hsp : ∀ (w : World) (H : Hp) (a : Addr) (ns : Y0), ns.length ≤ n → aLy H → SqL (K w.params) H a (ns.map V.int) → sp w [.ref a] H (fun v _ => v = .bl true) fun _ _ _ => False)
  (hCX : ∀ (w : World) (H : Hp) (s : Shared) (e : Value) (s' : Shared), CX w [] H s (fun _ _ _ => False) e s' → False) :
  PySem.W.WalkO q loose XP YP l.row.toRowW d [] (fun f vs => PySem.call f vs) := by
 refine Att.attach_call hn hdf fun w s₀ s₁ mg mb fa o pm cd doc a vs ns G Y ho hd hcd hmg hobj hints hlen hg => ?_
 have KX := hY w _ Y
 obtain ⟨fd, hb, hF⟩ := F w mg fa _ KX G.T.g hmg
 exact aEy KX G.T.g G.T.b G.T.builtins G.T.nolimit hg hobj hints (Nat.le_trans hlen hn2) hr hF hb (fun H hO hS => hsp w H a ns hlen hO hS) fun H e s' => hCX w H s₁ e s'
end L2
namespace L2
open PySem PySem.Spec PyProof.Rows
def iI (s : Stmt) : Arguments := match s with
 | .FunctionDef _ a _ _ _ _ _ _ _ _ => a
 | _ => { posonlyargs := [], args := [], vararg := none, kwonlyargs := [], kw_defaults := [], kwarg := none, defaults := [] }
def fF (s : Stmt) : List Stmt := match s with
 | .FunctionDef _ _ b _ _ _ _ _ _ _ => b
 | _ => []
def aK (s : Stmt) : Scope := match s with
 | .FunctionDef _ _ _ _ _ _ sc _ _ _ => sc
 | _ => { kind := .function, names := [], isGenerator := false, isCoroutine := false }
abbrev E0 : XK := fun _ _ _ => False
structure Fun (K : FG) (x qual : Str) (st : Stmt) (f : Addr) (fd : FuncData) : Prop where
 ex : ∃ (oc : Value) (od : Option Addr) (kV doc pm : Value) (an : Option Addr) (cdv ct : Value) (osl : Array (Option Value)),
  fd = PySem.W.fnOf x qual (iI st) (fF st) (aK st) .none kV doc pm an cdv ct ∧ K.lookup f = some ⟨oc, od, .func fd, osl⟩ ∧ PySem.W.codeIn K cdv qual = true
 kp : PySem.W.keepIn K (.ref f) = true
section
variable {P : Program} {w : World} {K : FG} {mg : Y6} {base : Heap}
theorem Fun.binds {x qual : Str} {st : Stmt} {f : Addr} {fd : FuncData} {ps : List Str} (F : Fun K x qual st f fd)
  (h : ∀ (kV doc pm : Value) (an : Option Addr) (cdv ct : Value) (us : Y1), us.length = ps.length → bindArgs (PySem.W.fnOf x qual (iI st) (fF st) (aK st) .none kV doc pm an cdv ct) ⟨us, []⟩ = pure (ps.zip us)) : Binds K fd ps [] := by
 obtain ⟨oc, od, kV, doc, pm, an, cdv, ct, osl, rfl, lk, hcd⟩ := F.ex
 exact .all (h kV doc pm an cdv ct)
theorem aKo {x qual : Str} {st : Stmt} {f : Addr} {oc : Value} {od an : Option Addr} {osl : Array (Option Value)} {kV doc pm cdv ct : Value} (l : K.lookup f = some ⟨oc, od, .func (PySem.W.fnOf x qual (iI st) (fF st) (aK st) .none kV doc pm an cdv ct), osl⟩)
  (c : PySem.W.codeIn K cdv qual = true) (k : PySem.W.keepIn K (.ref f) = true) : Fun K x qual st f (PySem.W.fnOf x qual (iI st) (fF st) (aK st) .none kV doc pm an cdv ct) := ⟨⟨oc, od, kV, doc, pm, an, cdv, ct, osl, rfl, l, c⟩, k⟩
end
section
variable {X : Cx}
end
def aW (H H' : Hp) : Prop := ∀ b o, H b = some o → H' b = some o
theorem aW.refl (H : Hp) : aW H H := fun _ _ h => h
theorem aW.trans {H H1 H2 : Hp} (a : aW H H1) (b : aW H1 H2) : aW H H2 := fun c o h => b c o (a c o h)
theorem aW.free {H H' : Hp} (e : aW H H') {l : Addr} (h : H' l = Option.none) : H l = Option.none := by
 cases q : H l with
 | none => rfl
 | some o =>
  rw [e l o q] at h
  cases h
theorem aW.seq {K : FG} {H H' : Hp} {a : Addr} {xs : List V} (e : aW H H') (h : SqL K H a xs) : SqL K H' a xs := by
 rcases h with (h | ⟨o, h⟩) | h
 ·exact .inl (.inl (e _ _ h))
 ·exact .inl (.inr ⟨o, e _ _ h⟩)
 ·exact .inr h
end L2
end
section
namespace VL
open PySem PySem.Spec PyProof.Rows L2
theorem mB (env : Env) : ∀ (l : List (Str × NameKind)) (acc : List (Str × Addr)), (∀ y ∈ l, y.2 = .free → ∃ c, env.cells.lookup y.1 = some c) → (∀ x c, acc.lookup x = some c → env.cells.lookup x = some c) →
  ∃ cl, (forIn l acc (fun (x : Str × NameKind) (cs : List (Str × Addr)) => (if x.2 == NameKind.free then (do let a ← cellOf env x.1; pure (ForInStep.yield ((x.1, a) :: cs))) else pure (ForInStep.yield cs) : Sem (ForInStep (List (Str × Addr))))) : Sem (List (Str × Addr))) = pure cl ∧
   (∀ x c, cl.lookup x = some c → env.cells.lookup x = some c) ∧ (∀ x c, acc.lookup x = some c → cl.lookup x = some c) ∧ ∀ y ∈ l, y.2 = .free → cl.lookup y.1 = env.cells.lookup y.1
 | [], acc, _, ha => ⟨acc, by simp, ha, fun _ _ h => h, fun y hy => by cases hy⟩
 | (n, k) :: l, acc, hl, ha => by
  by_cases hk : k = .free
  ·subst hk
   obtain ⟨c, hc⟩ := hl (n, .free) List.mem_cons_self rfl
   have ha' : ∀ x d, ((n, c) :: acc).lookup x = some d → env.cells.lookup x = some d := fun x d e => by
    rw [List.lookup_cons] at e
    cases q : x == n with
    | true =>
     rw [q] at e
     have : x = n := by simpa using q
     subst this; cases e; exact hc
    | false => rw [q] at e; exact ha x d e
   obtain ⟨cl, e1, e2, e3, e4⟩ := mB env l ((n, c) :: acc) (fun y hy => hl y (List.mem_cons_of_mem _ hy)) ha'
   have up : ∀ x d, acc.lookup x = some d → ((n, c) :: acc).lookup x = some d := fun x d e => by
    rw [List.lookup_cons]
    cases q : x == n with
    | true =>
     have : x = n := by simpa using q
     subst this
     have := ha _ _ e
     rw [hc] at this; exact this
    | false => exact e
   refine ⟨cl, ?_, e2, fun x d e => e3 x d (up x d e), fun y hy hf => ?_⟩
   ·rw [List.forIn_cons]
    have : cellOf env n = pure c := by unfold cellOf; rw [hc]
    simp only [this, beq_self_eq_true, if_true, pure_bind]
    exact e1
   ·rcases List.mem_cons.mp hy with rfl | hy
    ·rw [hc]
     exact e3 n c (by rw [List.lookup_cons, beq_self_eq_true])
    ·exact e4 y hy hf
  ·obtain ⟨cl, e1, e2, e3, e4⟩ := mB env l acc (fun y hy => hl y (List.mem_cons_of_mem _ hy)) ha
   refine ⟨cl, ?_, e2, e3, fun y hy hf => ?_⟩
   ·rw [List.forIn_cons]
    have : (k == NameKind.free) = false := by simpa using hk
    simp only [this, Bool.false_eq_true, if_false, pure_bind]
    exact e1
   ·rcases List.mem_cons.mp hy with rfl | hy
    ·exact absurd hf hk
    ·exact e4 y hy hf
theorem zU (scope : Scope) (env : Env) (h : ∀ y ∈ scope.names, y.2 = .free → ∃ c, env.cells.lookup y.1 = some c) :
  ∃ cl, closureFor scope env = pure cl ∧ (∀ x c, cl.lookup x = some c → env.cells.lookup x = some c) ∧ ∀ y ∈ scope.names, y.2 = .free → cl.lookup y.1 = env.cells.lookup y.1 := by
 obtain ⟨cl, e1, e2, _, e4⟩ := mB env scope.names [] h (fun x c e => by simp at e)
 refine ⟨cl, ?_, e2, e4⟩
 unfold closureFor
 have : (forIn scope.names ([] : List (Str × Addr)) fun (x : Str × NameKind) (r : List (Str × Addr)) => (match x with
   | (name, kind) => if (kind == NameKind.free) = true then (do let a ← cellOf env name; pure (ForInStep.yield ((name, a) :: r))) else pure (ForInStep.yield r) : Sem (ForInStep (List (Str × Addr))))) = pure cl := e1
 first
  | (simp only [this, pure_bind])
  | (rw [this]; rfl)
  | (show (forIn _ _ _ >>= _) = _; rw [this]; rfl)
theorem gD {env : Env} : ∀ {names : List (Str × NameKind)} {x : Str}, names.lookup x = some .free →
  (names.map fun (n, k) => if (k == NameKind.free && env.scope.kind == .function && env.kindOf n == some .cell) then (n, NameKind.cell) else (n, k)).lookup x = some .cell ∨
  (names.map fun (n, k) => if (k == NameKind.free && env.scope.kind == .function && env.kindOf n == some .cell) then (n, NameKind.cell) else (n, k)).lookup x = some .free
 | [], _, h => by simp at h
 | (n, k) :: r, x, h => by
  have ih := @gD env r x
  rw [List.map_cons]
  cases hx : x == n with
  | true =>
   simp only [List.lookup_cons, hx] at h
   cases h
   by_cases hc : (NameKind.free == NameKind.free && env.scope.kind == .function && env.kindOf n == some .cell) = true
   ·left; simp only [hc, if_true, List.lookup_cons, hx]
   ·right; simp only [hc, Bool.false_eq_true, if_false, List.lookup_cons, hx]
  | false =>
   simp only [List.lookup_cons, hx] at h
   by_cases hc : (k == NameKind.free && env.scope.kind == .function && env.kindOf n == some .cell) = true
   ·simp only [hc, if_true, List.lookup_cons, hx]; exact ih h
   ·simp only [hc, Bool.false_eq_true, if_false, List.lookup_cons, hx]; exact ih h
theorem kT {env : Env} : ∀ {names : List (Str × NameKind)} {x : Str} {k : NameKind}, (names.map fun (n, k) => if (k == NameKind.free && env.scope.kind == .function && env.kindOf n == some .cell) then (n, NameKind.cell) else (n, k)).lookup x = some k → k = .cell ∨ k = .free →
  ∃ y ∈ names, y.1 = x ∧ (y.2 = .free ∨ y.2 = .cell)
 | [], _, _, h, _ => by simp at h
 | (n, k) :: r, x, k', h, hk => by
  rw [List.map_cons] at h
  cases hx : x == n with
  | true =>
   have e : x = n := by simpa using hx
   subst e
   by_cases hc : (k == NameKind.free && env.scope.kind == .function && env.kindOf x == some .cell) = true
   ·refine ⟨(x, k), List.mem_cons_self, rfl, .inl ?_⟩
    simp only [Bool.and_eq_true] at hc
    simpa using hc.1.1
   ·simp only [hc, Bool.false_eq_true, if_false, List.lookup_cons, hx] at h
    cases h
    exact ⟨(x, k), List.mem_cons_self, rfl, hk.symm⟩
  | false =>
   have h' : (r.map fun (n, k) => if (k == NameKind.free && env.scope.kind == .function && env.kindOf n == some .cell) then (n, NameKind.cell) else (n, k)).lookup x = some k' := by
    by_cases hc : (k == NameKind.free && env.scope.kind == .function && env.kindOf n == some .cell) = true
    ·simp only [hc, if_true, List.lookup_cons, hx] at h; exact h
    ·simp only [hc, Bool.false_eq_true, if_false, List.lookup_cons, hx] at h; exact h
   obtain ⟨y, hy, e⟩ := kT h' hk
   exact ⟨y, List.mem_cons_of_mem _ hy, e⟩
def blk (X : Cx) (scope : Scope) (cl : List (Str × Addr)) (N : List Str) (s3 : Shared) (H3 : Hp) (fp : Y2) : Cx :=
 { X with N := N, s₀ := s3, H₀ := H3, env := compEnvC scope cl s3.heap.objs.size X.env, outer := X.stack, ex := fp, fn := fun _ => false, pn := [], xe := fun _ _ => False }
def PTs (Y : Cx) (ifs : List Expr) (t : TT) : Prop :=
 ∀ (pins : Y8) (s : Shared) (σ : L2.St) (H : Hp) (Q : Bool → Hp → Prop), L2.Inv Y pins σ H s → t σ H Q →
  wpAny (model Y.prog Y.w) Y.A (forIn ifs true fun c r => if r = true then do let ok ← isTrue c Y.env (eval c Y.env); pure (ForInStep.yield ok) else pure (ForInStep.yield r)) (TP Y pins σ Q) Y.xe s
theorem aGb {Y : Cx} : PTs Y [] (fun _ H Q => Q true H) := fun _ _ _ H _ I h => wpAny_tests_nil ⟨H, I, h⟩
theorem aHl {Y : Cx} {c : Expr} {t : TT} (h : PT Y c t) : PTs Y [c] t := fun pins s σ H Q I q => wpAny_tests_one (h pins s σ H Q I q)
def aAg (wi : TI) (nt : Nat) (js : T0) (g : TG) (tc : TT) (te : TE) : TE := fun σ H Q => wi σ H fun J H1 => ∀ acc, H1 acc = none → ∃ W : Nat → Nat → L2.St → Hp → Prop,
 (∃ m, W 0 m (List.replicate nt none ++ js.map fun j => (σ[j]?).join) (upd H1 acc (.lst []))) ∧ ∀ i m σ' H', W i m σ' H' →
  (J.stop i H' ∧ Q (.ref acc) H') ∨ (J.go i H' ∧ ∀ x H2, J.yld i H' x H2 → g x σ' H2 fun σ2 H3 => tc σ2 H3 fun b H4 =>
   if b = true then te σ2 H4 fun y H5 => ∃ xs, H5 acc = some (.lst xs) ∧ xs.length < sizeLine ∧ ∃ m', m' < m ∧ W (i + 1) m' σ2 (upd H5 acc (.lst (xs ++ [y])))
   else ∃ m', m' < m ∧ W (i + 1) m' σ2 H4)
section
variable {prog : Program} {w : World} {A : Around} {R : Result → Shared → Prop} {s : Shared}
theorem wI {elt target iter : Expr} {ifs : List Expr} {scope : Scope} {pos : Pos} {it acc : Value} {env : Env} (I : Nat → Shared → Prop)
  (turn : ∀ n s, I n s → wpAny (model prog w) A (pyNext it) (fun r s₁ => match r with
   | none => R (.ok .next) s₁
   | some v => wpAny (model prog w) A (letOwnedTupleGo target it v) (fun _ s₁ => wpAny (model prog w) A (assign target env v) (fun _ s₂ =>
     wpAny (model prog w) A (forIn ifs true fun c r => if r = true then do let ok ← isTrue c env (eval c env); pure (ForInStep.yield ok) else pure (ForInStep.yield r)) (fun ok s₃ =>
      if ok = true then wpAny (model prog w) A (eval elt env) (fun x s₄ =>
       wpAny (model prog w) A (call (.builtin "list.append") [acc, x]) (fun _ s₅ => ∃ m, m < n ∧ I m s₅) (fun _ _ => False) s₄) (fun _ _ => False) s₃
      else ∃ m, m < n ∧ I m s₃) (fun _ _ => False) s₂) (fun _ _ => False) s₁) (fun _ _ => False) s₁) (fun _ _ => False) s)
  (n : Nat) (h : I n s) : codeAny (model prog w) A (.compLoop (.ListComp elt [⟨target, iter, ifs, 0⟩] scope pos) 0 it acc env) R s := by
 refine codeAny_loop rfl I (fun n s hI => ?_) n h
 show wpAny _ A ((compTurn (.ListComp elt [⟨target, iter, ifs, 0⟩] scope pos) 0 it acc env).onRaise (fun x => do noteFrame x env; theTreesLotGoes x)) _ _ s
 refine wpAny_noted ?_
 rw [compTurn_list]
 refine wpAny_bind (wpAny_standAt (wpAny_bind (wpAny_mono (turn n s hI) (fun r s₁ h₁ => ?_) fun _ _ h' => h'.elim)))
 cases r with
 | none => exact wpAny_pure h₁
 | some v =>
  refine wpAny_bind (wpAny_mono h₁ (fun _ s₁' h₁' => ?_) fun _ _ h' => h'.elim)
  refine wpAny_bind (wpAny_mono h₁' (fun _ s₂ h₂ => wpAny_bind (wpAny_mono h₂ (fun ok s₃ h₃ => ?_) fun _ _ h' => h'.elim)) fun _ _ h' => h'.elim)
  cases ok with
  | false => exact wpAny_pure ⟨rfl, h₃⟩
  | true =>
   exact wpAny_bind (wpAny_bind (wpAny_mono h₃ (fun x s₄ h₄ => wpAny_bind (wpAny_mono h₄ (fun _ s₅ h₅ => wpAny_pure (wpAny_pure ⟨rfl, h₅⟩)) fun _ _ h' => h'.elim)) fun _ _ h' => h'.elim))
end
section
variable {X : Cx} {pos : Pos}
theorem tY {elt iter tg : Expr} {ifs : List Expr} {scope : Scope} {wi : TI} {N : List Str} {nt : Nat} {js : T0} {g : TG} {tc : TT} {te : TE}
  (hc : X.calm = true) (hi : PI X tg iter wi) (hkind : scope.kind = .function) (hcell : ∀ y ∈ scope.names, y.2 ≠ .cell) (hnames : ∀ y ∈ scope.names, y.2 = .local → scope.names.lookup y.1 = some .local)
  (hfr : ∀ y ∈ scope.names, y.2 = .free → X.env.kindOf y.1 = some .cell ∨ X.env.kindOf y.1 = some .free)
  (hlen : nt + js.length = N.length)
  (hjs : ∀ (k : Nat) (j : Nat), js[k]? = some j → ∃ x, N[nt + k]? = some x ∧ X.N[j]? = some x ∧ scope.names.lookup x = some .free)
  (hb : ∀ cl s3 H3 fp, PG (blk X scope cl N s3 H3 fp) tg g ∧ PTs (blk X scope cl N s3 H3 fp) ifs tc ∧ PE (blk X scope cl N s3 H3 fp) elt te)
  (hs : ∀ x, foldedSetIterable iter X.env x = pure x) {pins : Y8} {s : Shared} {σ : L2.St} {H : Hp} {Q : VK} {use : Option (Value → Sem Unit)} {QQ : Y9} (p0 : Pos) (I : L2.Inv X pins σ H s) (h : aAg wi nt js g tc te σ H Q)
  (fin : ∀ (a C : Addr) (s6 : Shared) (H5 : Hp) (m : Y6), L2.Inv X pins σ H5 s6 → s6.heap.Ns C m → qH X pins H5 C → Q (.ref a) H5 → compPost (model X.prog X.w) X.A X.xe use QQ (.ref a) C (.ok .next) s6) :
  wpAny (model X.prog X.w) X.A (comprehension (.ListComp elt [⟨tg, iter, ifs, 0⟩] scope pos) scope X.env p0 (newList []) false (eval iter X.env) use) QQ X.xe s := by
 obtain ⟨cl, hcl, cl1, cl2⟩ := zU scope X.env fun y hy hf => I.ok.has y.1 (hfr y hy hf)
 refine wpAny_comprehension_free (use := use) rfl hs hcl hkind hnames (wpAny_mono (hi pins s σ H _ I h) (fun xv s1 h1 => wpAny_mono h1 (fun itv s2 h2 => ?_) fun _ _ z => z) fun _ _ z => z)
 obtain ⟨it, fp, tn, J, H2, rfl, I2, T, st2, hfp, h2⟩ := h2
 obtain ⟨W, ⟨m0, w0⟩, turn⟩ := h2 s2.heap.objs.size I2.fresh
 refine wpAny_newObj_type (wpAny_newFunctionEnv hcell (by intro y hy; simp at hy) (fun h₁ hns₁ hsb₁ => ?_) hkind)
 dsimp only at hns₁ hsb₁ ⊢
 have I3 : L2.Inv X pins σ (upd H2 s2.heap.objs.size (.lst [])) { s2 with heap := s2.heap.push { cls := .type "list", data := .seq ([] : Y1).toArray } } := I2.aMh (its := []) (t' := s2.toks) .nil (Nat.zero_le _)
 generalize hs3 : ({ s2 with heap := s2.heap.push { cls := .type "list", data := .seq ([] : Y1).toArray } } : Shared) = s3 at I3
 have e3 : s3.heap = s2.heap.push { cls := .type "list", dict := none, data := .seq ([] : Y1).toArray } := by rw [← hs3]
 rw [← e3] at hns₁ hsb₁
 have hH3 : ∃ H3, H3 = upd H2 s2.heap.objs.size (.lst []) := ⟨_, rfl⟩
 obtain ⟨H3, eH3⟩ := hH3
 rw [← eH3] at I3 w0
 have hC : s3.heap.objs.size = s2.heap.objs.size + 1 := by rw [e3, Heap.size_push]
 have k1 : ∀ b u, s3.heap.get? b = some u → h₁.get? b = some u := fun b u e => hsb₁.extBut b u (Nat.ne_of_lt (Heap.lt_size e)) (Heap.get?_push_of_some _ e)
 have k2 : ∀ b u, s2.heap.get? b = some u → s3.heap.get? b = some u := fun b u e => by rw [e3]; exact Heap.get?_push_of_some _ e
 have hfpo : ∀ b ∈ fp, ∃ o, s2.heap.get? b = some o := fun b hb => let ⟨o, e, _⟩ := T.obj 0 _ st2 b hb; ⟨o, e⟩
 have hfplt : ∀ b ∈ fp, b < s2.heap.objs.size := fun b hb => let ⟨o, e⟩ := hfpo b hb; Heap.lt_size e
 have hfn : ∀ b ∈ fp, b ∉ frs X.stack := fun b hb z => (List.mem_cons.mp (I2.vM b z)).elim (hfp b hb).2.1 (hfp b hb).2.2.1
 have hH3fp : ∀ b ∈ fp, H3 b = none := fun b hb => by rw [eH3, bB (Nat.ne_of_lt (hfplt b hb))]; exact (hfp b hb).1
 let Y := blk X scope cl N s3 H3 fp
 obtain ⟨pg, pt, pe⟩ := hb cl s3 H3 fp
 have okY : Y.Ok := by
  refine ⟨I3.ok.mod, by show (relabel scope X.env).kind = _; exact hkind, I3.ok.glob, I3.ok.blt, Nat.le_refl _, fun x y c a b => I3.ok.inj x y c (cl1 x c a) (cl1 y c b), fun x hx => ?_, (fun x c z => by cases z), I3.ok.hd, I3.ok.frames, .inl rfl, fun b hb => ⟨?_, fun x c e => (hfp b hb).2.2.2.2.1 x c (cl1 x c e)⟩, I3.bs, Nat.le_trans I3.ok.bsz I3.sz, fun b o e hb => ?_, hfn, I3.stack, I3.vO⟩
  ·have hx' : (relabel scope X.env).names.lookup x = some .cell ∨ (relabel scope X.env).names.lookup x = some .free := hx
   obtain ⟨y, hy, e1, e2⟩ : ∃ y ∈ scope.names, y.1 = x ∧ (y.2 = .free ∨ y.2 = .cell) := by
    rcases hx' with z | z
    ·exact kT z (.inl rfl)
    ·exact kT z (.inr rfl)
   have e2 : y.2 = .free := e2.elim id fun z => absurd z (hcell y hy)
   obtain ⟨c, ec⟩ := I3.ok.has y.1 (hfr y hy e2)
   exact ⟨c, by subst e1; exact (cl2 y hy e2).trans ec⟩
  ·exact Nat.ne_of_lt (by show b < s3.heap.objs.size; rw [hC]; exact Nat.lt_succ_of_lt (hfplt b hb))
  ·rcases (hfp b hb).2.2.2.1 with z | z
   ·exact I3.ok.noex b o e z
   ·exact absurd (Nat.lt_of_lt_of_le (Heap.lt_size e) (Nat.le_trans I3.ok.bsz z)) (Nat.lt_irrefl _)
 have vals : ∀ (i : Nat) (x : Str) (v : V), N[i]? = some x → (List.replicate nt none ++ js.map fun j => (σ[j]?).join)[i]? = some (some v) → ∃ u c, RelV v u ∧ X.env.cells.lookup x = some c ∧ s3.heap.IsCell c (some u) ∧ scope.names.lookup x = some .free := by
  intro i x v a1 a2
  have hi : nt ≤ i := by
   rcases Nat.lt_or_ge i nt with z | z
   ·rw [List.getElem?_append_left (by simpa using z), List.getElem?_replicate, if_pos z] at a2; cases a2
   ·exact z
  obtain ⟨k, rfl⟩ := Nat.exists_eq_add_of_le hi
  rw [List.getElem?_append_right (by simp)] at a2
  rw [List.length_replicate, Nat.add_sub_cancel_left, List.getElem?_map] at a2
  cases ej : js[k]? with
  | none => rw [ej] at a2; cases a2
  | some j =>
   rw [ej] at a2
   have hv : σ[j]? = some (some v) := by
    have a2 : (σ[j]?).join = some v := Option.some.inj a2
    cases q : σ[j]? with
    | none => rw [q] at a2; cases a2
    | some o => rw [q] at a2; exact congrArg some a2
   obtain ⟨y, n1, n2, n3⟩ := hjs k j ej
   have ey : y = x := by rw [n1] at a1; exact Option.some.inj a1
   subst ey
   have mem : (y, NameKind.free) ∈ scope.names := PySem.mem_of_lookup n3
   have kd := hfr _ mem rfl
   have vis : Vis X.env.scope y := by
    rcases kd with z | z
    ·exact .inr (.inl z)
    ·exact .inr (.inr z)
   obtain ⟨m, hn, hl⟩ := I3.loc
   obtain ⟨u, ru, look⟩ := hl j y v n2 hv vis
   rcases look with ⟨kk, _⟩ | ⟨kk, c, ec, hce⟩
   ·rcases kd with z | z
    ·rw [z] at kk; cases kk
    ·rw [z] at kk; cases kk
   ·exact ⟨u, c, ru, ec, hce, n3⟩
 have IY : L2.Inv Y [] (List.replicate nt none ++ js.map fun j => (σ[j]?).join) H3 { s3 with heap := h₁, toks := s3.toks + ([] : List (Str × Value)).length } := by
  refine ⟨okY, rfl, I3.bare, Un.kept k1, ⟨_, hns₁, fun i x v a1 a2 a3 => ?_⟩, fun x c e => ?_, I3.hok.fresh (Nat.le_refl _), fun x c e => I3.freeC x c (cl1 x c e), (fun p hp => by cases hp), I3.hok.kept k1, ?_⟩
  ·obtain ⟨u, c, ru, ec, ⟨o, ho, hd⟩, n3⟩ := vals i x v a1 a2
   exact ⟨u, ru, .inr ⟨gD n3, c, (cl2 (x, .free) (PySem.mem_of_lookup n3) rfl).trans ec, o, k1 c o ho, hd⟩⟩
  ·obtain ⟨v, o, ho, hd⟩ := I3.cell x c (cl1 x c e)
   exact ⟨v, o, k1 c o ho, hd⟩
  ·show _ = N.length
   simp; omega
 have hfY : ∀ {H' : Hp}, (∀ b ∈ fp, H' b = none) → ∀ b ∈ fp, qH Y [] H' b := fun hn b hb =>
  ⟨hn b hb, Nat.ne_of_lt (by show b < s3.heap.objs.size; rw [hC]; exact Nat.lt_succ_of_lt (hfplt b hb)), hfn b hb, .inl hb, fun x c e => (hfp b hb).2.2.2.2.1 x c (cl1 x c e), fun p hp => by cases hp⟩
 have st1 : tn 0 h₁ := T.keep 0 _ _ st2 fun b hb o e => k1 b o (k2 b o e)
 have loop : ∀ s4 : Shared, s4 = { s3 with heap := h₁, toks := s3.toks + ([] : List (Str × Value)).length } → codeAny (model X.prog X.w) X.A (.compLoop (.ListComp elt [⟨tg, iter, ifs, 0⟩] scope pos) 0 (.ref it) (.ref s2.heap.objs.size) (compEnvC scope cl s3.heap.objs.size X.env))
   (compPost (model X.prog X.w) X.A X.xe use QQ (.ref s2.heap.objs.size) s3.heap.objs.size) s4 := by
  rintro s4 rfl
  refine wI (fun n s' => ∃ i σ' H', L2.Inv Y [] σ' H' s' ∧ tn i s'.heap ∧ (∀ b ∈ fp, H' b = none) ∧ W i n σ' H') ?_ m0 ⟨0, _, H3, IY, st1, hH3fp, w0⟩
  rintro n s5 ⟨i, σ5, H5, I5, st5, fr5, w5⟩
  rcases turn i n σ5 H5 w5 with ⟨stop, qn⟩ | ⟨go, step⟩
  ·refine wpAny_mono (T.done Y rfl rfl rfl hc i [] s5 σ5 H5 (fun _ _ => False) I5 (hfY fr5) st5 stop) (fun r s6 ⟨hr, I6⟩ => ?_) fun _ _ z => z
   subst hr
   obtain ⟨m, hn, _⟩ := I6.loc
   have U6 : Un (frs X.stack) fp H3 H5 s3.heap s6.heap := I6.base
   have U2 : Un (frs X.stack) fp H2 H3 s2.heap s3.heap := by rw [eH3]; exact Un.laid k2 (Nat.le_refl _) I2.fresh
   have IX : L2.Inv X pins σ H5 s6 := by
    refine I2.aBk (s' := s6) ?_ (U2.trans U6) I6.hok I6.bare fun b hb => ⟨(hfp b hb).2.2.2.1, (hfp b hb).2.1, (hfp b hb).2.2.2.2.1, (hfp b hb).2.2.2.2.2⟩
    rw [I6.os]
    show s3.os = s2.os
    rw [← hs3]
   exact fin _ _ s6 H5 m IX hn (I2.aFv (by rw [hC]; exact Nat.le_succ _) I6.free) qn
  ·refine wpAny_mono (T.item Y rfl rfl rfl hc i [] s5 σ5 H5 (fun _ _ => False) I5 (hfY fr5) st5 go) (fun r s6 ⟨u, hr, h6⟩ => ?_) fun _ _ z => z
   subst hr
   refine wpAny_mono h6 (fun _ s7 ⟨x, H7, I7, r7, y7, st7, fr7⟩ => ?_) fun _ _ z => z
   have I7' := I7.pinned (hfY fr7) (T.obj _ _ st7)
   refine wpAny_mono (pg _ s7 σ5 H7 x u _ I7' r7 (step x H7 y7)) (fun _ s8 ⟨σ8, H8, I8, q8⟩ => ?_) fun _ _ z => z
   refine wpAny_mono (pt _ s8 σ8 H8 _ I8 q8) (fun ok s9 ⟨H9, I9, q9⟩ => ?_) fun _ _ z => z
   have again : ∀ {s' : Shared} {H' : Hp} {m' : Nat}, L2.Inv Y ([] ++ qL fp s7.heap) σ8 H' s' → m' < n → W (i + 1) m' σ8 H' → ∃ m, m < n ∧ ∃ i σ' H', L2.Inv Y [] σ' H' s' ∧ tn i s'.heap ∧ (∀ b ∈ fp, H' b = none) ∧ W i m σ' H' := fun {s' H' m'} I' hm w' => by
    refine ⟨m', hm, i + 1, σ8, H', I'.oF, T.keep _ _ _ st7 fun b hb o e => (I'.pin (b, o) (List.mem_append_right _ (List.mem_append_right _ (jV hb e)))).1, fun b hb => ?_, w'⟩
    obtain ⟨o, e, d⟩ := T.obj _ _ st7 b hb
    exact (I'.pin (b, o) (List.mem_append_right _ (List.mem_append_right _ (jV hb e)))).2.1
   cases ok with
   | false =>
    rw [if_neg Bool.false_ne_true] at q9 ⊢
    obtain ⟨m', hm, w'⟩ := q9
    exact again I9 hm w'
   | true =>
    rw [if_pos rfl] at q9 ⊢
    refine wpAny_mono (pe _ s9 σ8 H9 _ I9 q9) (fun yv s10 ⟨y, H10, I10, r10, xs, hacc, hz, m', hm, w'⟩ => ?_) fun _ _ z => z
    refine wpAny_mono (oR (X := blk X scope cl N s3 H3 fp) _ s10 σ8 H10 (.ref s2.heap.objs.size) [y] (.ref s2.heap.objs.size) [yv] (fun _ H' => H' = upd H10 s2.heap.objs.size (.lst (xs ++ [y]))) I10 rfl (.cons r10 .nil) ⟨s2.heap.objs.size, xs, y, rfl, rfl, hacc, hz, rfl⟩) (fun _ s11 ⟨_, H11, I11, _, e11⟩ => ?_) fun _ _ z => z
    subst e11
    exact again I11 hm w'
 subst hs3
 exact codeAny_compStart_list (loop _ rfl) (T.self _ 0 _ _ _ st1 (loop _ rfl))
theorem Inv.aJe {pins : Y8} {s : Shared} {σ : L2.St} {H : Hp} {C : Addr} {m : Y6} {h' : Heap} (I : L2.Inv X pins σ H s) (n : s.heap.Ns C m) (f : qH X pins H C) (hs : Heap.SameBut C s.heap h') : L2.Inv X pins σ H { s with heap := h' } := by
 have hne : ∀ b, b ∉ [C] → b ≠ C := fun b hb z => hb (by rw [z]; exact List.mem_cons_self)
 refine I.aBk (s' := { s with heap := h' }) (ch := [C]) rfl ?_ ?_ I.bare fun b hb => ?_
 ·exact ⟨fun b o e _ _ hx => (hs.2 b (hne b hx)).trans e, fun b o e _ _ hx => ⟨o.slots, (hs.2 b (hne b hx)).trans e⟩, fun b o _ q _ => q, fun b o e hx => ⟨o, (hs.2 b (hne b hx)).trans e⟩, fun _ _ q => q, fun _ _ _ q => q, fun _ ps q => ⟨#[], by simpa using q⟩⟩
 ·intro b u e
  have hbC : ∀ c, (c = b ∨ H c = some (.own b)) → c ≠ C := fun c hcb z => by
   rcases hcb with q | q
   ·rw [← q, z, f.1] at e; cases e
   ·rw [z, f.1] at q; cases q
  exact (I.hok b u e).stay (fun c w' hcb q => (hs.2 c (hbC c hcb)).trans q) (fun _ q => q) fun _ _ q => q
 ·have : b = C := by simpa using hb
  subst this
  exact ⟨f.2.2.2.1, f.2.1, f.2.2.2.2.1, f.2.2.2.2.2⟩
theorem aHv {elt iter tg : Expr} {ifs : List Expr} {scope : Scope} {wi : TI} {N : List Str} {nt : Nat} {js : T0} {g : TG} {tc : TT} {te : TE}
  (hc : X.calm = true) (hi : PI X tg iter wi) (hkind : scope.kind = .function) (hcell : ∀ y ∈ scope.names, y.2 ≠ .cell) (hnames : ∀ y ∈ scope.names, y.2 = .local → scope.names.lookup y.1 = some .local)
  (hfr : ∀ y ∈ scope.names, y.2 = .free → X.env.kindOf y.1 = some .cell ∨ X.env.kindOf y.1 = some .free)
  (hlen : nt + js.length = N.length)
  (hjs : ∀ (k : Nat) (j : Nat), js[k]? = some j → ∃ x, N[nt + k]? = some x ∧ X.N[j]? = some x ∧ scope.names.lookup x = some .free)
  (hb : ∀ cl s3 H3 fp, PG (blk X scope cl N s3 H3 fp) tg g ∧ PTs (blk X scope cl N s3 H3 fp) ifs tc ∧ PE (blk X scope cl N s3 H3 fp) elt te)
  (hs : ∀ x, foldedSetIterable iter X.env x = pure x := by intro _; rfl) :
  PE X (.ListComp elt [⟨tg, iter, ifs, 0⟩] scope pos) (aAg wi nt js g tc te) := by
 intro pins s σ H Q I h
 rw [eval_ListComp]
 exact tY hc hi hkind hcell hnames hfr hlen hjs hb hs _ I h fun a C s6 H5 m IX hn hf q => ⟨m, hn, fun h' hs' => ⟨.ref a, H5, Inv.aJe IX hn hf hs', rfl, q⟩⟩
theorem zG {i : Nat} {y : Str} {py spos : Pos} {elt iter tg : Expr} {ifs : List Expr} {scope : Scope} {wi : TI} {N : List Str} {nt : Nat} {js : T0} {g : TG} {tc : TT} {te : TE}
  (hN : X.N.Nodup) (hi0 : X.N[i]? = some y) (hx : X.env.scope.names.lookup y = some .local) (hsw : swapsWith (.ListComp elt [⟨tg, iter, ifs, 0⟩] scope pos) (some (.Name y py)) spos.line X.env = pure true) (hc : X.calm = true) (hi : PI X tg iter wi) (hkind : scope.kind = .function) (hcell : ∀ y ∈ scope.names, y.2 ≠ .cell) (hnames : ∀ y ∈ scope.names, y.2 = .local → scope.names.lookup y.1 = some .local)
  (hfr : ∀ y ∈ scope.names, y.2 = .free → X.env.kindOf y.1 = some .cell ∨ X.env.kindOf y.1 = some .free)
  (hlen : nt + js.length = N.length)
  (hjs : ∀ (k : Nat) (j : Nat), js[k]? = some j → ∃ x, N[nt + k]? = some x ∧ X.N[j]? = some x ∧ scope.names.lookup x = some .free)
  (hb : ∀ cl s3 H3 fp, PG (blk X scope cl N s3 H3 fp) tg g ∧ PTs (blk X scope cl N s3 H3 fp) ifs tc ∧ PE (blk X scope cl N s3 H3 fp) elt te)
  (hs : ∀ x, foldedSetIterable iter X.env x = pure x := by intro _; rfl) : PS X (.Assign [.Name y py] (.ListComp elt [⟨tg, iter, ifs, 0⟩] scope pos) spos) (aCb (aAg wi nt js g tc te) (oY i)) := by
 intro pins s σ H D I h
 rw [exec_Assign_Name_used _ _ _ _ hsw]
 refine wpAny_bind (wpAny_standAt (wpAny_bind ?_))
 show wpAny _ X.A (do let _ ← comprehension (.ListComp elt [⟨tg, iter, ifs, 0⟩] scope pos) scope X.env _ (newList []) false (eval iter X.env) (some (assign (.Name y py) X.env))) _ _ s
 refine wpAny_bind (wpAny_mono (tY (QQ := fun _ s' => (SP X pins D) .next s') hc hi hkind hcell hnames hfr hlen hjs hb hs _ I h fun a C s6 H5 m IX hn hf q => ?_) (fun _ s' hq => wpAny_pure (wpAny_pure hq)) fun _ _ e => e)
 show wpAny _ X.A (assign (.Name y py) X.env (.ref a)) _ _ _
 refine wpAny_assign_Name (sS (v := .ref a) IX hN hi0 (.inl hx) rfl (fun s7 I7 ⟨a0, sb, ha⟩ => ?_) (.inr hx))
 have hne : C ≠ a0 := fun z => by
  rcases ha with q | q
  ·exact hf.2.1 (z.trans q)
  ·exact hf.2.2.2.2.1 y a0 q z.symm
 exact ⟨m, hn.sameBut sb hne, fun h' hs' => ⟨_, H5, Inv.aJe I7 (hn.sameBut sb hne) hf hs', q⟩⟩
end
end VL
end
section
namespace VL
open PySem L2
inductive Tg where
 | exc (c : Str) | dK (kvs : List (Key × Int)) | dT (kvs : List (List Key × Int))
 deriving Inhabited
inductive D where
 | non | bl (b : Bool) | int (i : Int) | str (x : Str) | tup (ds : List D) | lst (own : Bool) (ds : List D) | ext (own : Bool) (t : Tg)
 deriving Inhabited
def ExcAt (a C : Addr) : HO := .ext fun h => ∃ o vs, h.get? a = some o ∧ o.cls = .ref C ∧ o.data = .fields vs
def TgO (K : FG) (a : Addr) : Tg → HO → Prop
 | .exc c, u => ∃ C, PySem.W.nsIn K mainGlobals c = some (some (.ref C)) ∧ u = ExcAt a C
 | .dK kvs, u => u = .dK (kvs.map fun p => (p.1, V.int p.2))
 | .dT kvs, u => u = .dT (kvs.map fun p => (p.1, V.int p.2))
mutual
def D.calm : D → Bool
 | .non => true | .bl _ => true | .int _ => true | .str _ => true
 | .tup ds => D.bK ds
 | .lst o ds => !o && D.bK ds
 | .ext o _ => !o
def D.bK : List D → Bool
 | [] => true
 | d :: ds => d.calm && D.bK ds
end
mutual
def D.frz : D → D
 | .non => .non | .bl b => .bl b | .int i => .int i | .str x => .str x
 | .tup ds => .tup (D.frzs ds)
 | .lst _ ds => .lst false (D.frzs ds)
 | .ext _ t => .ext false t
def D.frzs : List D → List D
 | [] => []
 | d :: ds => d.frz :: D.frzs ds
end
theorem D.aBm : ∀ ds : List D, D.frzs ds = ds.map D.frz
 | [] => rfl
 | d :: ds => by rw [D.frzs, D.aBm ds]; rfl
theorem D.yG : ∀ ds : List D, D.bK ds = ds.all D.calm
 | [] => rfl
 | d :: ds => by rw [D.bK, D.yG ds]; rfl
inductive R (α : Type) where
 | ok (a : α) | exc (c : Str) | bad
def R.bind {α β : Type} (x : R α) (f : α → R β) : R β := match x with
 | .ok a => f a | .exc c => .exc c | .bad => .bad
def R.of {α : Type} : Option α → R α
 | some a => .ok a | none => .bad
mutual
def Own (K : FG) (F H : Hp) : D → V → Y2 → Prop
 | .non, v, fp => v = .non ∧ fp = []
 | .bl b, v, fp => v = .bl b ∧ fp = []
 | .int i, v, fp => v = .int i ∧ fp = []
 | .str x, v, fp => v = .str x ∧ fp = []
 | .tup ds, v, fp => fp = [] ∧ ∃ a xs, v = .ref a ∧ SqT K F a xs ∧ aG K F H ds xs []
 | .lst o ds, v, fp => ∃ a xs fq, v = .ref a ∧ aG K F H ds xs fq ∧ ((o = true ∧ F a = none ∧ H a = some (.lst xs) ∧ fp = a :: fq) ∨ (o = false ∧ Rd F a (.lst xs) ∧ fq = [] ∧ fp = []))
 | .ext o t, v, fp => ∃ a u, v = .ref a ∧ TgO K a t u ∧ ((o = true ∧ F a = none ∧ H a = some u ∧ fp = [a]) ∨ (o = false ∧ F a = some u ∧ fp = []))
def aG (K : FG) (F H : Hp) : List D → List V → Y2 → Prop
 | [], vs, fp => vs = [] ∧ fp = []
 | d :: ds, vs, fp => ∃ v r f1 f2, vs = v :: r ∧ Own K F H d v f1 ∧ aG K F H ds r f2 ∧ fp = f1 ++ f2
end
section
variable {K : FG} {F H F' H' : Hp}
theorem aW.sO {a : Addr} {xs : List V} (e : aW F F') (h : SqT K F a xs) : SqT K F' a xs := by
 rcases h with (h | ⟨o, h⟩) | h
 ·exact .inl (.inl (e _ _ h))
 ·exact .inl (.inr ⟨o, e _ _ h⟩)
 ·exact .inr h
theorem aW.rd {a : Addr} {u : HO} (e : aW F F') (h : Rd F a u) : Rd F' a u := by
 rcases h with h | ⟨o, h⟩
 ·exact .inl (e _ _ h)
 ·exact .inr ⟨o, e _ _ h⟩
mutual
theorem Own.keep (hf : aW F F') : ∀ (d : D) {v : V} {fp : Y2}, (∀ a ∈ fp, F' a = none ∧ H' a = H a) → Own K F H d v fp → Own K F' H' d v fp
 | .non, _, _, _, h => h
 | .bl _, _, _, _, h => h
 | .int _, _, _, _, h => h
 | .str _, _, _, _, h => h
 | .tup ds, v, fp, _, h => by
  unfold Own at h ⊢
  obtain ⟨e, a, xs, e1, q, r⟩ := h
  exact ⟨e, a, xs, e1, aW.sO hf q, aG.keep hf ds (by simp) r⟩
 | .lst o ds, v, fp, k, h => by
  unfold Own at h ⊢
  obtain ⟨a, xs, fq, e1, r, h⟩ := h
  rcases h with ⟨o1, h1, h2, h3⟩ | ⟨o1, h1, h2, h3⟩
  ·subst h3
   obtain ⟨k1, k2⟩ := k a List.mem_cons_self
   exact ⟨a, xs, fq, e1, aG.keep hf ds (fun b hb => k b (List.mem_cons_of_mem _ hb)) r, .inl ⟨o1, k1, k2.trans h2, rfl⟩⟩
  ·subst h2
   exact ⟨a, xs, [], e1, aG.keep hf ds (by simp) r, .inr ⟨o1, aW.rd hf h1, rfl, h3⟩⟩
 | .ext o t, v, fp, k, h => by
  unfold Own at h ⊢
  obtain ⟨a, u, e1, tg, h⟩ := h
  rcases h with ⟨o1, h1, h2, h3⟩ | ⟨o1, h1, h3⟩
  ·subst h3
   obtain ⟨k1, k2⟩ := k a List.mem_cons_self
   exact ⟨a, u, e1, tg, .inl ⟨o1, k1, k2.trans h2, rfl⟩⟩
  ·exact ⟨a, u, e1, tg, .inr ⟨o1, hf _ _ h1, h3⟩⟩
theorem aG.keep (hf : aW F F') : ∀ (ds : List D) {vs : List V} {fp : Y2}, (∀ a ∈ fp, F' a = none ∧ H' a = H a) → aG K F H ds vs fp → aG K F' H' ds vs fp
 | [], _, _, _, h => h
 | d :: ds, vs, fp, k, h => by
  unfold aG at h ⊢
  obtain ⟨v, r, f1, f2, e, h1, h2, e2⟩ := h
  subst e2
  exact ⟨v, r, f1, f2, e, Own.keep hf d (fun b hb => k b (List.mem_append_left _ hb)) h1, aG.keep hf ds (fun b hb => k b (List.mem_append_right _ hb)) h2, rfl⟩
end
mutual
theorem Own.zone : ∀ (d : D) {v : V} {fp : Y2}, Own K F H d v fp → ∀ a ∈ fp, F a = none ∧ ∃ u, H a = some u
 | .non, _, _, h, a, ha => by unfold Own at h; rw [h.2] at ha; cases ha
 | .bl _, _, _, h, a, ha => by unfold Own at h; rw [h.2] at ha; cases ha
 | .int _, _, _, h, a, ha => by unfold Own at h; rw [h.2] at ha; cases ha
 | .str _, _, _, h, a, ha => by unfold Own at h; rw [h.2] at ha; cases ha
 | .tup _, _, _, h, a, ha => by unfold Own at h; rw [h.1] at ha; cases ha
 | .lst o ds, v, fp, h, a, ha => by
  unfold Own at h
  obtain ⟨b, xs, fq, e1, r, h⟩ := h
  rcases h with ⟨o1, h1, h2, h3⟩ | ⟨o1, h1, h2, h3⟩
  ·subst h3
   rcases List.mem_cons.mp ha with rfl | ha
   ·exact ⟨h1, _, h2⟩
   ·exact aG.zone ds r a ha
  ·rw [h3] at ha; cases ha
 | .ext o t, v, fp, h, a, ha => by
  unfold Own at h
  obtain ⟨b, u, e1, tg, h⟩ := h
  rcases h with ⟨o1, h1, h2, h3⟩ | ⟨o1, h1, h3⟩
  ·subst h3
   have : a = b := by simpa using ha
   subst this
   exact ⟨h1, u, h2⟩
  ·rw [h3] at ha; cases ha
theorem aG.zone : ∀ (ds : List D) {vs : List V} {fp : Y2}, aG K F H ds vs fp → ∀ a ∈ fp, F a = none ∧ ∃ u, H a = some u
 | [], _, _, h, a, ha => by unfold aG at h; rw [h.2] at ha; cases ha
 | d :: ds, vs, fp, h, a, ha => by
  unfold aG at h
  obtain ⟨v, r, f1, f2, e, h1, h2, e2⟩ := h
  subst e2
  rcases List.mem_append.mp ha with ha | ha
  ·exact Own.zone d h1 a ha
  ·exact aG.zone ds h2 a ha
end
mutual
theorem Own.dR : ∀ (d : D) {v : V} {fp : Y2}, d.calm = true → Own K F H d v fp → fp = []
 | .non, _, _, _, h => by unfold Own at h; exact h.2
 | .bl _, _, _, _, h => by unfold Own at h; exact h.2
 | .int _, _, _, _, h => by unfold Own at h; exact h.2
 | .str _, _, _, _, h => by unfold Own at h; exact h.2
 | .tup _, _, _, _, h => by unfold Own at h; exact h.1
 | .lst o ds, _, _, hc, h => by
  unfold Own at h
  obtain ⟨a, xs, fq, e1, r, h⟩ := h
  rcases h with ⟨o1, _⟩ | ⟨_, _, _, h3⟩
  ·subst o1; simp [D.calm] at hc
  ·exact h3
 | .ext o t, _, _, hc, h => by
  unfold Own at h
  obtain ⟨b, u, e1, tg, h⟩ := h
  rcases h with ⟨o1, _⟩ | ⟨_, _, h3⟩
  ·subst o1; simp [D.calm] at hc
  ·exact h3
end
theorem aG.dR : ∀ (ds : List D) {vs : List V} {fp : Y2}, D.bK ds = true → aG K F H ds vs fp → fp = []
 | [], _, _, _, h => by unfold aG at h; exact h.2
 | d :: ds, vs, fp, hc, h => by
  unfold aG at h
  obtain ⟨v, r, f1, f2, e, h1, h2, e2⟩ := h
  simp only [D.bK, Bool.and_eq_true] at hc
  rw [e2, Own.dR d hc.1 h1, aG.dR ds hc.2 h2]; rfl
theorem aG.length : ∀ (ds : List D) {vs : List V} {fp : Y2}, aG K F H ds vs fp → ds.length = vs.length
 | [], _, _, h => by unfold aG at h; rw [h.1]; rfl
 | d :: ds, vs, fp, h => by
  unfold aG at h
  obtain ⟨v, r, f1, f2, e, h1, h2, e2⟩ := h
  rw [e, List.length_cons, List.length_cons, aG.length ds h2]
theorem aG.get : ∀ (ds : List D) {vs : List V} {fp : Y2} {i : Nat} {d : D}, aG K F H ds vs fp → ds[i]? = some d → ∃ v f, vs[i]? = some v ∧ Own K F H d v f ∧ f.Sublist fp
 | [], _, _, _, _, _, e => by simp at e
 | c :: ds, vs, fp, 0, d, h, e => by
  unfold aG at h
  obtain ⟨v, r, f1, f2, e1, h1, h2, e2⟩ := h
  simp at e; subst e; subst e1; subst e2
  exact ⟨v, f1, rfl, h1, List.sublist_append_left _ _⟩
 | c :: ds, vs, fp, i + 1, d, h, e => by
  unfold aG at h
  obtain ⟨v, r, f1, f2, e1, h1, h2, e2⟩ := h
  subst e1; subst e2
  obtain ⟨u, f, q1, q2, q3⟩ := aG.get ds (i := i) h2 (by simpa using e)
  exact ⟨u, f, by simpa using q1, q2, q3.trans (List.sublist_append_right _ _)⟩
theorem aG.append : ∀ (ds : List D) {es : List D} {vs us : List V} {f g : Y2}, aG K F H ds vs f → aG K F H es us g → aG K F H (ds ++ es) (vs ++ us) (f ++ g)
 | [], es, vs, us, f, g, h, k => by unfold aG at h; rw [h.1, h.2]; exact k
 | d :: ds, es, vs, us, f, g, h, k => by
  unfold aG at h
  obtain ⟨v, r, f1, f2, e1, h1, h2, e2⟩ := h
  subst e1; subst e2
  show aG K F H (d :: (ds ++ es)) _ _
  unfold aG
  exact ⟨v, r ++ us, f1, f2 ++ g, rfl, h1, aG.append ds h2 k, by rw [List.append_assoc]⟩
theorem aG.one {d : D} {v : V} {f : Y2} (h : Own K F H d v f) : aG K F H [d] [v] f := by
 unfold aG
 exact ⟨v, [], f, [], rfl, h, by unfold aG; exact ⟨rfl, rfl⟩, by simp⟩
theorem aG.nil : aG K F H [] [] [] := by unfold aG; exact ⟨rfl, rfl⟩
theorem aG.cons {d : D} {v : V} {f : Y2} {ds : List D} {vs : List V} {g : Y2} (h : Own K F H d v f) (k : aG K F H ds vs g) : aG K F H (d :: ds) (v :: vs) (f ++ g) := by
 unfold aG; exact ⟨v, vs, f, g, rfl, h, k, rfl⟩
theorem aG.of_get : ∀ (ds : List D) {vs : List V}, ds.length = vs.length → (∀ (i : Nat) (d : D) (v : V), ds[i]? = some d → vs[i]? = some v → Own K F H d v []) → aG K F H ds vs []
 | [], vs, hl, _ => by
  have : vs = [] := List.length_eq_zero_iff.mp (by simpa using hl.symm)
  subst this; exact aG.nil
 | d :: ds, [], hl, _ => by simp at hl
 | d :: ds, v :: vs, hl, h => by
  have h1 := h 0 d v rfl rfl
  have h2 := aG.of_get ds (vs := vs) (by simpa using hl) fun i d' v' e1 e2 => h (i + 1) d' v' (by simpa using e1) (by simpa using e2)
  exact aG.cons h1 h2
theorem aG.aO2 {ds : List D} {vs : List V} {i : Nat} {d : D} {v : V} (h : aG K F H ds vs []) (e : ds[i]? = some d) (e2 : vs[i]? = some v) : Own K F H d v [] := by
 obtain ⟨u, f, q1, q2, q3⟩ := aG.get ds h e
 rw [e2] at q1; cases q1
 have : f = [] := List.sublist_nil.mp q3
 subst this; exact q2
structure Grow (F H F' H' : Hp) : Prop where
 fr : aW F F'
 all : aW H H'
 inn : aW F' H'
 new : ∀ b o, F' b = some o → F b = some o ∨ H b = none
theorem Grow.refl (h : aW F H) : Grow F H F H := ⟨aW.refl _, aW.refl _, h, fun _ _ e => .inl e⟩
theorem Grow.trans {F1 H1 F2 H2 : Hp} (a : Grow F H F1 H1) (b : Grow F1 H1 F2 H2) : Grow F H F2 H2 :=
 ⟨a.fr.trans b.fr, a.all.trans b.all, b.inn, fun c o e => by
  rcases b.new c o e with h | h
  ·exact a.new c o h
  ·exact .inr (a.all.free h)⟩
theorem Own.grow {d : D} {v : V} {fp : Y2} (g : Grow F H F' H') (h : Own K F H d v fp) : Own K F' H' d v fp := by
 refine Own.keep g.fr d (fun a ha => ?_) h
 obtain ⟨h1, xs, h2⟩ := Own.zone d h a ha
 refine ⟨?_, (g.all a _ h2).trans h2.symm⟩
 cases e : F' a with
 | none => rfl
 | some o =>
  rcases g.new a o e with q | q
  ·rw [h1] at q; cases q
  ·rw [h2] at q; cases q
theorem aG.grow {ds : List D} {vs : List V} {fp : Y2} (g : Grow F H F' H') (h : aG K F H ds vs fp) : aG K F' H' ds vs fp := by
 refine aG.keep g.fr ds (fun a ha => ?_) h
 obtain ⟨h1, xs, h2⟩ := aG.zone ds h a ha
 refine ⟨?_, (g.all a _ h2).trans h2.symm⟩
 cases e : F' a with
 | none => rfl
 | some o =>
  rcases g.new a o e with q | q
  ·rw [h1] at q; cases q
  ·rw [h2] at q; cases q
theorem aW.upd {p : Addr} {o : HO} (h : H p = none) : aW H (upd H p o) := fun b u e => by
 rw [bB (bG e h)]; exact e
theorem Grow.both {p : Addr} {o : HO} (hs : aW F H) (h : H p = none) : Grow F H (upd F p o) (upd H p o) := by
 refine ⟨aW.upd (hs.free h), aW.upd h, fun b u e => ?_, fun b u e => ?_⟩
 ·by_cases hb : b = p
  ·subst hb; rw [cD] at e ⊢; exact e
  ·rw [bB hb] at e ⊢; exact hs b u e
 ·by_cases hb : b = p
  ·subst hb; exact .inr h
  ·rw [bB hb] at e; exact .inl e
theorem Grow.one {p : Addr} {o : HO} (hs : aW F H) (h : H p = none) : Grow F H F (upd H p o) :=
 ⟨aW.refl _, aW.upd h, fun b u e => by rw [bB (bG (hs b u e) h)]; exact hs b u e, fun _ _ e => .inl e⟩
def eX (F H : Hp) (fp : Y2) : Hp := fun b => if b ∈ fp then H b else F b
theorem eS {fp : Y2} (h : ∀ a ∈ fp, F a = none) : aW F (eX F H fp) := fun b o e => by
 unfold eX
 rw [if_neg fun hb => by rw [h b hb] at e; cases e]; exact e
theorem nX {fp : Y2} (hs : aW F H) : aW (eX F H fp) H := fun b o e => by
 unfold eX at e
 split at e
 ·exact e
 ·exact hs b o e
mutual
theorem Own.freeze {fp : Y2} (hz : ∀ a ∈ fp, F a = none) : ∀ (d : D) {v : V} {f : Y2}, (∀ a ∈ f, a ∈ fp) → Own K F H d v f → Own K (eX F H fp) H d.frz v []
 | .non, _, _, _, h => by unfold Own at h; unfold D.frz Own; exact ⟨h.1, rfl⟩
 | .bl _, _, _, _, h => by unfold Own at h; unfold D.frz Own; exact ⟨h.1, rfl⟩
 | .int _, _, _, _, h => by unfold Own at h; unfold D.frz Own; exact ⟨h.1, rfl⟩
 | .str _, _, _, _, h => by unfold Own at h; unfold D.frz Own; exact ⟨h.1, rfl⟩
 | .tup ds, _, _, _, h => by
  unfold Own at h; unfold D.frz Own
  obtain ⟨e, a, xs, e1, q, r⟩ := h
  exact ⟨rfl, a, xs, e1, aW.sO (eS hz) q, aG.freeze hz ds (by simp) r⟩
 | .lst o ds, v, f, hf, h => by
  unfold Own at h; unfold D.frz Own
  obtain ⟨a, xs, fq, e1, r, h⟩ := h
  rcases h with ⟨o1, h1, h2, h3⟩ | ⟨o1, h1, h2, h3⟩
  ·subst h3
   refine ⟨a, xs, [], e1, aG.freeze hz ds (fun b hb => hf b (List.mem_cons_of_mem _ hb)) r, .inr ⟨rfl, .inl ?_, rfl, rfl⟩⟩
   unfold eX; rw [if_pos (hf a List.mem_cons_self)]; exact h2
  ·subst h2
   exact ⟨a, xs, [], e1, aG.freeze hz ds (by simp) r, .inr ⟨rfl, aW.rd (eS hz) h1, rfl, rfl⟩⟩
 | .ext o t, v, f, hf, h => by
  unfold Own at h; unfold D.frz Own
  obtain ⟨a, u, e1, tg, h⟩ := h
  rcases h with ⟨o1, h1, h2, h3⟩ | ⟨o1, h1, h3⟩
  ·subst h3
   refine ⟨a, u, e1, tg, .inr ⟨rfl, ?_, rfl⟩⟩
   unfold eX; rw [if_pos (hf a List.mem_cons_self)]; exact h2
  ·exact ⟨a, u, e1, tg, .inr ⟨rfl, eS hz _ _ h1, rfl⟩⟩
theorem aG.freeze {fp : Y2} (hz : ∀ a ∈ fp, F a = none) : ∀ (ds : List D) {vs : List V} {f : Y2}, (∀ a ∈ f, a ∈ fp) → aG K F H ds vs f → aG K (eX F H fp) H (D.frzs ds) vs []
 | [], _, _, _, h => by unfold aG at h; unfold D.frzs aG; exact ⟨h.1, rfl⟩
 | d :: ds, vs, f, hf, h => by
  unfold aG at h; unfold D.frzs aG
  obtain ⟨v, r, f1, f2, e, h1, h2, e2⟩ := h
  subst e2
  exact ⟨v, r, [], [], e, Own.freeze hz d (fun b hb => hf b (List.mem_append_left _ hb)) h1, aG.freeze hz ds (fun b hb => hf b (List.mem_append_right _ hb)) h2, rfl⟩
end
mutual
theorem D.frz_calm : ∀ d : D, d.calm = true → d.frz = d
 | .non, _ => rfl | .bl _, _ => rfl | .int _, _ => rfl | .str _, _ => rfl
 | .tup ds, h => by unfold D.frz; rw [D.frzs_calm ds (by simpa [D.calm] using h)]
 | .lst o ds, h => by
  simp only [D.calm, Bool.and_eq_true, Bool.not_eq_true'] at h
  unfold D.frz; rw [D.frzs_calm ds h.2, h.1]
 | .ext o t, h => by
  simp only [D.calm, Bool.not_eq_true'] at h
  unfold D.frz; rw [h]
theorem D.frzs_calm : ∀ ds : List D, D.bK ds = true → D.frzs ds = ds
 | [], _ => rfl
 | d :: ds, h => by
  simp only [D.bK, Bool.and_eq_true] at h
  unfold D.frzs; rw [D.frz_calm d h.1, D.frzs_calm ds h.2]
end
end
inductive Slot where
 | un | val (d : D) | pin (d : D)
 deriving Inhabited
def Slot.d? : Slot → Option D
 | .un => none | .val d => some d | .pin d => some d
abbrev Env := List Slot
structure Sim (K : FG) (F H : Hp) (σ : St) (ρ : Env) (fps : Y5) : Prop where
 same : aW F H
 ls : σ.length = ρ.length
 lf : fps.length = ρ.length
 at_ : ∀ (i : Nat) (s : Slot) (d : D), ρ[i]? = some s → s.d? = some d → ∃ v fp, σ[i]? = some (some v) ∧ fps[i]? = some fp ∧ Own K F H d v fp
 nd : fps.flatten.Nodup
 zone : ∀ a ∈ fps.flatten, F a = none ∧ H a ≠ none
section
variable {K : FG} {F H F' H' : Hp} {σ : St} {ρ : Env} {fps : Y5}
theorem Sim.grow (S : Sim K F H σ ρ fps) (g : Grow F H F' H') : Sim K F' H' σ ρ fps := by
 refine ⟨g.inn, S.ls, S.lf, fun i s d e1 e2 => ?_, S.nd, fun a ha => ?_⟩
 ·obtain ⟨v, fp, h1, h2, h3⟩ := S.at_ i s d e1 e2
  exact ⟨v, fp, h1, h2, h3.grow g⟩
 ·obtain ⟨h1, h2⟩ := S.zone a ha
  constructor
  ·cases e : F' a with
   | none => rfl
   | some o =>
    rcases g.new a o e with q | q
    ·rw [h1] at q; cases q
    ·exact absurd q h2
  ·intro e
   exact h2 (g.all.free e)
end
structure Evo (F H : Hp) (Z : Y2) (F' H' : Hp) (Z' : Y2) : Prop where
 fr : aW F F'
 keep : ∀ b o, H b = some o → b ∉ Z → H' b = some o
 dom : ∀ b, H' b = none → H b = none
 new : ∀ b o, F' b = some o → F b = some o ∨ H b = none ∨ b ∈ Z
 zone : ∀ b ∈ Z', b ∈ Z ∨ H b = none
section
variable {F H F' H' F1 H1 : Hp} {Z Z' Z1 : Y2}
theorem Evo.refl : Evo F H Z F H Z := ⟨aW.refl _, fun _ _ e _ => e, fun _ e => e, fun _ _ e => .inl e, fun _ h => .inl h⟩
theorem Evo.trans (a : Evo F H Z F1 H1 Z1) (b : Evo F1 H1 Z1 F' H' Z') : Evo F H Z F' H' Z' := by
 refine ⟨a.fr.trans b.fr, fun c o e hc => ?_, fun c e => a.dom c (b.dom c e), fun c o e => ?_, fun c hc => ?_⟩
 ·refine b.keep c o (a.keep c o e hc) fun hz => ?_
  rcases a.zone c hz with h | h
  ·exact hc h
  ·rw [h] at e; cases e
 ·rcases b.new c o e with h | h | h
  ·exact a.new c o h
  ·exact .inr (.inl (a.dom c h))
  ·rcases a.zone c h with h | h
   ·exact .inr (.inr h)
   ·exact .inr (.inl h)
 ·rcases b.zone c hc with h | h
  ·exact a.zone c h
  ·exact .inr (a.dom c h)
theorem Grow.evo (g : Grow F H F' H') : Evo F H Z F' H' Z :=
 ⟨g.fr, fun b o e _ => g.all b o e, fun _ e => g.all.free e, fun b o e => (g.new b o e).elim .inl fun h => .inr (.inl h), fun _ h => .inl h⟩
end
end VL
end
section
namespace VL
open PySem L2
def R.holds {α : Type} (x : R α) (P : α → Prop) : Prop := match x with
 | .ok a => P a | _ => False
theorem R.aP {α β : Type} {x : R α} {f : α → R β} {P : β → Prop} : (x.bind f).holds P ↔ x.holds fun a => (f a).holds P := by
 cases x <;> exact Iff.rfl
theorem R.aO {α : Type} {x : R α} {P Q : α → Prop} (h : x.holds P) (k : ∀ a, P a → Q a) : x.holds Q := by
 cases x with
 | ok a => exact k a h
 | exc _ => exact h.elim
 | bad => exact h.elim
theorem R.holds_of {α : Type} {x : Option α} {P : α → Prop} (h : (R.of x).holds P) : ∃ a, x = some a ∧ P a := by
 cases x with
 | none => exact h.elim
 | some a => exact ⟨a, rfl, h⟩
def R.hx {α : Type} (x : R α) (P : α → Prop) (W : Str → Prop) : Prop := match x with
 | .ok a => P a | .exc c => W c | .bad => False
theorem R.aJf {α : Type} {x : R α} {P : α → Prop} {W : Str → Prop} (h : x.holds P) : x.hx P W := by
 cases x with
 | ok a => exact h
 | exc _ => exact h.elim
 | bad => exact h.elim
abbrev aQ := Env → R (D × Bool)
abbrev bZ := Env → R Bool
abbrev dC := Env → R (List (D × Bool))
def EPost (K : FG) (F H : Hp) (Q : VK) (x : D × Bool) : Prop :=
 ∀ v F' H' fp, Grow F H F' H' → Own K F' H' x.1 v fp → fp.Nodup → (x.2 = true → ∀ b ∈ fp, H b = none) → Q v H'
def aAr (F H : Hp) (Q : Bool → Hp → Prop) (x : Bool) : Prop := ∀ F' H', Grow F H F' H' → Q x H'
def Args (K : FG) (F H : Hp) : List (D × Bool) → List V → Y2 → Prop
 | [], vs, fa => vs = [] ∧ fa = []
 | x :: xs, vs, fa => ∃ v r fp f2, vs = v :: r ∧ Own K F H x.1 v fp ∧ fp.Nodup ∧ Args K F H xs r f2 ∧ ((x.2 = true ∧ fa = fp ++ f2) ∨ (x.2 = false ∧ fa = f2))
def aH9 (K : FG) (F H : Hp) (Q : List V → Hp → Prop) (xs : List (D × Bool)) : Prop :=
 ∀ vs F' H' fa, Grow F H F' H' → Args K F' H' xs vs fa → fa.Nodup → (∀ b ∈ fa, H b = none) → Q vs H'
def tv (K : FG) (f : aQ) : TE := fun σ H Q => ∃ ρ F fps, Sim K F H σ ρ fps ∧ (f ρ).holds (EPost K F H Q)
def tvT (K : FG) (f : bZ) : TT := fun σ H Q => ∃ ρ F fps, Sim K F H σ ρ fps ∧ (f ρ).holds (aAr F H Q)
def tvA (K : FG) (f : dC) : TA := fun σ H Q => ∃ ρ F fps, Sim K F H σ ρ fps ∧ (f ρ).holds (aH9 K F H Q)
section
variable {K : FG} {F H F' H' : Hp} {σ : St} {Q : VK}
theorem EPost.lift {x : D × Bool} (g : Grow F H F' H') (h : EPost K F H Q x) : EPost K F' H' Q x := fun v F2 H2 fp g2 o n k =>
 h v F2 H2 fp (g.trans g2) o n fun e b hb => g.all.free (k e b hb)
theorem aAr.lift {Q : Bool → Hp → Prop} {x : Bool} (g : Grow F H F' H') (h : aAr F H Q x) : aAr F' H' Q x := fun F2 H2 g2 => h F2 H2 (g.trans g2)
def aB (i : Nat) : aQ := fun ρ => match ρ[i]? with
 | some (.val d) => .ok (d, false) | some (.pin d) => .ok (d, false) | _ => .bad
theorem Sim.sub {ρ : Env} {fps : Y5} (S : Sim K F H σ ρ fps) {i : Nat} {fp : Y2} (e : fps[i]? = some fp) : fp.Nodup := by
 have : fp ∈ fps := List.mem_of_getElem? e
 exact (List.sublist_flatten_of_mem this).nodup S.nd
theorem aKp {i : Nat} (h : tv K (aB i) σ H Q) : xJ i σ H Q := by
 obtain ⟨ρ, F, fps, S, h⟩ := h
 unfold aB at h
 cases e : ρ[i]? with
 | none => rw [e] at h; exact h.elim
 | some s =>
  rw [e] at h
  cases s with
  | un => exact h.elim
  | val d =>
   obtain ⟨v, fp, h1, h2, h3⟩ := S.at_ i _ d e rfl
   exact ⟨v, h1, h v F H fp (Grow.refl S.same) h3 (S.sub h2) (fun z => by cases z)⟩
  | pin d =>
   obtain ⟨v, fp, h1, h2, h3⟩ := S.at_ i _ d e rfl
   exact ⟨v, h1, h v F H fp (Grow.refl S.same) h3 (S.sub h2) (fun z => by cases z)⟩
def vC (d : D) : aQ := fun _ => .ok (d, true)
def iC : D → Option V
 | .non => some .non | .bl b => some (.bl b) | .int i => some (.int i) | .str x => some (.str x) | _ => none
theorem fY {d : D} {v : V} (e : iC d = some v) : Own K F H d v [] := by
 cases d <;> simp [iC] at e <;> subst e <;> unfold Own <;> exact ⟨rfl, rfl⟩
theorem uP {d : D} {v u : V} {fp : Y2} (e : iC d = some v) (o : Own K F H d u fp) : u = v ∧ fp = [] := by
 cases d <;> simp [iC] at e <;> subst e <;> unfold Own at o <;> exact o
theorem EPost.aRk {d : D} {v : V} {b : Bool} (hs : aW F H) (h : EPost K F H Q (d, b)) (e : iC d = some v) : Q v H :=
 h v F H [] (Grow.refl hs) (fY e) List.nodup_nil fun _ _ hb => by cases hb
theorem EPost.eN {F0 H0 : Hp} {d : D} {v : V} {b : Bool} (g : Grow F0 H0 F H) (h : EPost K F0 H0 Q (d, b)) (e : iC d = some v) : Q v H :=
 h v F H [] g (fY e) List.nodup_nil fun _ _ hb => by cases hb
theorem aFl {d : D} {v : V} (e : iC d = some v) (h : tv K (vC d) σ H Q) : tC v σ H Q := by
 obtain ⟨ρ, F, fps, S, h⟩ := h
 exact EPost.aRk S.same h e
def v2 (k : D × Bool → D × Bool → R (D × Bool)) (f h : aQ) : aQ := fun ρ => (f ρ).bind fun x => (h ρ).bind fun y => k x y
def Op2 (K : FG) (k : D × Bool → D × Bool → R (D × Bool)) (r : R2) : Prop :=
 ∀ (F0 H0 F H : Hp) (x y : D × Bool) (v u : V) (fx fy : Y2) (Q : VK), Grow F0 H0 F H → Own K F H x.1 v fx → fx.Nodup → (x.2 = true → ∀ b ∈ fx, H0 b = none) →
  Own K F H y.1 u fy → fy.Nodup → (y.2 = true → ∀ b ∈ fy, H0 b = none) → (k x y).holds (EPost K F0 H0 Q) → r v u H Q
theorem aBc {k : D × Bool → D × Bool → R (D × Bool)} {r : R2} (hr : Op2 K k r) {f g : aQ} (h : tv K (v2 k f g) σ H Q) : tOp r (tv K f) (tv K g) σ H Q := by
 obtain ⟨ρ, F, fps, S, h⟩ := h
 refine ⟨ρ, F, fps, S, R.aO (R.aP.mp h) fun x hx v F1 H1 fx g1 o1 n1 k1 => ?_⟩
 refine ⟨ρ, F1, fps, S.grow g1, R.aO (R.aP.mp hx) fun y hy u F2 H2 fy g2 o2 n2 k2 => ?_⟩
 exact hr F H F2 H2 x y v u fx fy Q (g1.trans g2) (o1.grow g2) n1 k1 o2 n2 (fun e b hb => g1.all.free (k2 e b hb)) hy
def v1 (k : D × Bool → R (D × Bool)) (f : aQ) : aQ := fun ρ => (f ρ).bind k
def Op1 (K : FG) (k : D × Bool → R (D × Bool)) (r : V → Hp → VK → Prop) : Prop :=
 ∀ (F0 H0 F H : Hp) (x : D × Bool) (v : V) (fx : Y2) (Q : VK), Grow F0 H0 F H → Own K F H x.1 v fx → fx.Nodup → (x.2 = true → ∀ b ∈ fx, H0 b = none) →
  (k x).holds (EPost K F0 H0 Q) → r v H Q
theorem aOw {k : D × Bool → R (D × Bool)} {r : V → Hp → VK → Prop} (hr : Op1 K k r) {f : aQ} (h : tv K (v1 k f) σ H Q) : tUn r (tv K f) σ H Q := by
 obtain ⟨ρ, F, fps, S, h⟩ := h
 exact ⟨ρ, F, fps, S, R.aO (R.aP.mp h) fun x hx v F1 H1 fx g1 o1 n1 k1 => hr F H F1 H1 x v fx Q g1 o1 n1 k1 hx⟩
def kI (g : Int → Int → D) : D × Bool → D × Bool → R (D × Bool) := fun x y => match x.1, y.1 with
 | .int i, .int j => .ok (g i j, true) | _, _ => .bad
def kIc (c : Int → Int → Bool) (g : Int → Int → D) : D × Bool → D × Bool → R (D × Bool) := fun x y => match x.1, y.1 with
 | .int i, .int j => if c i j = true then .ok (g i j, true) else .bad | _, _ => .bad
theorem aA8 {g : Int → Int → D} {g' : Int → Int → V} (e : ∀ i j, iC (g i j) = some (g' i j)) : Op2 K (kI g) (rI0 g') := by
 intro F0 H0 F H x y v u fx fy Q gr o1 n1 k1 o2 n2 k2 h
 obtain ⟨x, bx⟩ := x
 obtain ⟨y, by'⟩ := y
 cases x <;> try exact h.elim
 cases y <;> try exact h.elim
 rename_i i j
 unfold Own at o1 o2
 exact ⟨i, j, o1.1, o2.1, EPost.eN gr h (e i j)⟩
theorem aAb {c : Int → Int → Bool} {C : Int → Int → Prop} {g : Int → Int → D} {g' : Int → Int → V} (e : ∀ i j, iC (g i j) = some (g' i j)) (hc : ∀ i j, c i j = true → C i j) : Op2 K (kIc c g) (rI C g') := by
 intro F0 H0 F H x y v u fx fy Q gr o1 n1 k1 o2 n2 k2 h
 obtain ⟨x, bx⟩ := x
 obtain ⟨y, by'⟩ := y
 cases x <;> try exact h.elim
 cases y <;> try exact h.elim
 rename_i i j
 unfold Own at o1 o2
 have h : (if c i j = true then R.ok (g i j, true) else R.bad).holds (EPost K F0 H0 Q) := h
 by_cases hcc : c i j = true
 ·rw [if_pos hcc] at h
  exact ⟨i, j, o1.1, o2.1, hc i j hcc, EPost.eN gr h (e i j)⟩
 ·rw [if_neg hcc] at h; exact h.elim
def kU (g : Int → D) : D × Bool → R (D × Bool) := fun x => match x.1 with
 | .int i => .ok (g i, true) | _ => .bad
theorem aOf {g : Int → D} {g' : Int → V} (e : ∀ i, iC (g i) = some (g' i)) : Op1 K (kU g) (rU g') := by
 intro F0 H0 F H x v fx Q gr o1 n1 k1 h
 obtain ⟨x, bx⟩ := x
 cases x <;> try exact h.elim
 rename_i i
 unfold Own at o1
 exact ⟨i, o1.1, EPost.eN gr h (e i)⟩
theorem Own.aH7 {o : Bool} {ds : List D} {v : V} {fp : Y2} (g : aW F H) (h : Own K F H (.lst o ds) v fp) : ∃ a xs fq, v = .ref a ∧ Rd H a (.lst xs) ∧ aG K F H ds xs fq ∧ fq.Sublist fp := by
 unfold Own at h
 obtain ⟨a, xs, fq, e1, r, h⟩ := h
 rcases h with ⟨o1, h1, h2, h3⟩ | ⟨o1, h1, h2, h3⟩
 ·subst h3
  exact ⟨a, xs, fq, e1, .inl h2, r, List.sublist_cons_self _ _⟩
 ·subst h2; subst h3
  exact ⟨a, xs, [], e1, aW.rd g h1, r, List.Sublist.refl _⟩
theorem Own.lst {o : Bool} {ds : List D} {v : V} {fp : Y2} (g : aW F H) (h : Own K F H (.lst o ds) v fp) : ∃ a xs fq, v = .ref a ∧ SqL K H a xs ∧ aG K F H ds xs fq ∧ fq.Sublist fp := by
 obtain ⟨a, xs, fq, e, q, r⟩ := Own.aH7 g h
 exact ⟨a, xs, fq, e, .inl q, r⟩
theorem Own.tup {ds : List D} {v : V} {fp : Y2} (g : aW F H) (h : Own K F H (.tup ds) v fp) : ∃ a xs, v = .ref a ∧ SqT K H a xs ∧ aG K F H ds xs [] ∧ fp = [] := by
 unfold Own at h
 obtain ⟨e, a, xs, e1, q, r⟩ := h
 exact ⟨a, xs, e1, aW.sO g q, r, e⟩
theorem aG.atI {ds : List D} {vs : List V} {fp : Y2} {i : Int} {d : D} (h : aG K F H ds vs fp) (e : L2.atI ds i = some d) : ∃ v f, L2.atI vs i = some v ∧ Own K F H d v f ∧ f.Sublist fp := by
 unfold L2.atI at e ⊢
 rw [← aG.length ds h]
 cases q : ixN ds.length i with
 | none => rw [q] at e; cases e
 | some j =>
  rw [q] at e
  exact aG.get ds h e
def kIx : D × Bool → D × Bool → R (D × Bool) := fun x y => match x.1, y.1 with
 | .lst _ ds, .int i => R.of ((atI ds i).map (·, x.2)) | .tup ds, .int i => R.of ((atI ds i).map (·, x.2)) | _, _ => .bad
theorem aKn : Op2 K kIx (fun v u H Q => aJl K v u H Q ∨ aMr K v u H Q) := by
 intro F0 H0 F H x y v u fx fy Q gr o1 n1 k1 o2 n2 k2 h
 obtain ⟨x, bx⟩ := x
 obtain ⟨y, by'⟩ := y
 cases x <;> try exact h.elim
 ·rename_i ds
  cases y <;> try exact h.elim
  rename_i i
  obtain ⟨a, xs, e1, q, r, e2⟩ := Own.tup gr.inn o1
  unfold Own at o2
  obtain ⟨z, ez, h⟩ := R.holds_of h
  cases ed : atI ds i with
  | none => rw [ed] at ez; cases ez
  | some d =>
   rw [ed] at ez; cases ez
   obtain ⟨w, f, q1, q2, q3⟩ := aG.atI r ed
   have : f = [] := List.sublist_nil.mp q3
   subst this
   exact .inr ⟨a, xs, i, w, e1, o2.1, q, q1, h w F H [] gr q2 List.nodup_nil fun _ _ hb => by cases hb⟩
 ·rename_i o ds
  cases y <;> try exact h.elim
  rename_i i
  obtain ⟨a, xs, fq, e1, q, r, e2⟩ := Own.lst gr.inn o1
  unfold Own at o2
  obtain ⟨z, ez, h⟩ := R.holds_of h
  cases ed : atI ds i with
  | none => rw [ed] at ez; cases ez
  | some d =>
   rw [ed] at ez; cases ez
   obtain ⟨w, f, q1, q2, q3⟩ := aG.atI r ed
   have hs : f.Sublist fx := q3.trans e2
   exact .inl ⟨a, xs, i, w, e1, o2.1, q, q1, h w F H f gr q2 (hs.nodup n1) fun e b hb => k1 e b (hs.subset hb)⟩
def aM : dC := fun _ => .ok []
def aD (f : aQ) (g : dC) : dC := fun ρ => (f ρ).bind fun x => (g ρ).bind fun xs => .ok (x :: xs)
theorem aF5 {Q : List V → Hp → Prop} (h : tvA K aM σ H Q) : aCh σ H Q := by
 obtain ⟨ρ, F, fps, S, h⟩ := h
 exact h [] F H [] (Grow.refl S.same) (by unfold Args; exact ⟨rfl, rfl⟩) List.nodup_nil fun _ hb => by cases hb
theorem aE1 {f : aQ} {g : dC} {Q : List V → Hp → Prop} (h : tvA K (aD f g) σ H Q) : tU (tv K f) (tvA K g) σ H Q := by
 obtain ⟨ρ, F, fps, S, h⟩ := h
 refine ⟨ρ, F, fps, S, R.aO (R.aP.mp h) fun x hx v F1 H1 fx g1 o1 n1 k1 => ?_⟩
 refine ⟨ρ, F1, fps, S.grow g1, R.aO (R.aP.mp hx) fun xs hy vs F2 H2 fa g2 o2 n2 k2 => ?_⟩
 have hy : aH9 K F H Q (x :: xs) := hy
 have zo := Own.zone x.1 o1
 cases e : x.2 with
 | true =>
  refine hy (v :: vs) F2 H2 (fx ++ fa) (g1.trans g2) ?_ ?_ ?_
  ·unfold Args
   exact ⟨v, vs, fx, fa, rfl, o1.grow g2, n1, o2, .inl ⟨e, rfl⟩⟩
  ·refine List.nodup_append.mpr ⟨n1, n2, fun a ha b hb z => ?_⟩
   subst z
   obtain ⟨_, ys, q⟩ := zo a ha
   rw [k2 a hb] at q; cases q
  ·intro b hb
   rcases List.mem_append.mp hb with hb | hb
   ·exact k1 e b hb
   ·exact g1.all.free (k2 b hb)
 | false =>
  refine hy (v :: vs) F2 H2 fa (g1.trans g2) ?_ n2 fun b hb => g1.all.free (k2 b hb)
  unfold Args
  exact ⟨v, vs, fx, fa, rfl, o1.grow g2, n1, o2, .inr ⟨e, rfl⟩⟩
def aL (x : D × Bool) : Bool := x.2 || x.1.calm
theorem Args.aH8 : ∀ (xs : List (D × Bool)) {vs : List V} {fa : Y2}, xs.all aL = true → Args K F H xs vs fa → aG K F H (xs.map (·.1)) vs fa
 | [], _, _, _, h => by unfold Args at h; rw [h.1, h.2]; exact aG.nil
 | x :: xs, vs, fa, hk, h => by
  unfold Args at h
  obtain ⟨v, r, fp, f2, e, o, n, t, w⟩ := h
  rw [List.all_cons, Bool.and_eq_true] at hk
  subst e
  rw [List.map_cons]
  rcases w with ⟨_, w⟩ | ⟨e, w⟩
  ·subst w; exact aG.cons o (Args.aH8 xs hk.2 t)
  ·subst w
   have hc : x.1.calm = true := by have := hk.1; unfold aL at this; rw [e] at this; exact this
   have : fp = [] := Own.dR x.1 hc o
   subst this
   exact aG.cons o (Args.aH8 xs hk.2 t)
theorem Args.length : ∀ (xs : List (D × Bool)) {vs : List V} {fa : Y2}, Args K F H xs vs fa → xs.length = vs.length
 | [], _, _, h => by unfold Args at h; rw [h.1]; rfl
 | x :: xs, vs, fa, h => by
  unfold Args at h
  obtain ⟨v, r, fp, f2, e, o, n, t, w⟩ := h
  rw [e, List.length_cons, List.length_cons, Args.length xs t]
def iX (g : dC) : aQ := fun ρ => (g ρ).bind fun xs => if xs.all aL && decide (xs.length ≤ 1000000) then .ok (.lst true (xs.map (·.1)), true) else .bad
def rL (g : dC) : aQ := fun ρ => (g ρ).bind fun xs => if xs.all aL && decide (xs.length ≤ 1000000) then .ok (.tup (D.frzs (xs.map (·.1))), true) else .bad
theorem gG {n : Nat} (h : n ≤ 1000000) : n ≤ sizeLine := Nat.le_trans h (by decide)
theorem aAq {ds : List D} {xs : List V} {fa : Y2} {p : Addr} (hs : aW F H) (h : H p = none) (o : aG K F H ds xs fa) : Own K F (upd H p (.lst xs)) (.lst true ds) (.ref p) (p :: fa) := by
 unfold Own
 exact ⟨p, xs, fa, rfl, o.grow (Grow.one hs h), .inl ⟨rfl, hs.free h, cD, rfl⟩⟩
theorem aCq {ds : List D} {xs : List V} {fa : Y2} {p : Addr} (h : H p = none) (o : aG K F H ds xs fa) (n : fa.Nodup) : (p :: fa).Nodup := by
 refine List.nodup_cons.mpr ⟨fun hp => ?_, n⟩
 obtain ⟨_, ys, q⟩ := aG.zone ds o p hp
 rw [h] at q; cases q
theorem aKj {g : dC} (h : tv K (iX g) σ H Q) : aOm (tvA K g) σ H Q := by
 obtain ⟨ρ, F, fps, S, h⟩ := h
 refine ⟨ρ, F, fps, S, R.aO (R.aP.mp h) fun xs hx vs F1 H1 fa g1 o1 n1 k1 => ?_⟩
 by_cases hc : (xs.all aL && decide (xs.length ≤ 1000000)) = true
 ·rw [if_pos hc] at hx
  rw [Bool.and_eq_true, decide_eq_true_iff] at hc
  have o2 := Args.aH8 xs hc.1 o1
  refine ⟨gG (by rw [← Args.length xs o1]; exact hc.2), fun p hp => ?_⟩
  refine hx (.ref p) F1 _ (p :: fa) (g1.trans (Grow.one g1.inn hp)) (aAq g1.inn hp o2) (aCq hp o2 n1) fun _ b hb => ?_
  rcases List.mem_cons.mp hb with rfl | hb
  ·exact g1.all.free hp
  ·exact k1 b hb
 ·rw [if_neg hc] at hx; exact hx.elim
theorem Grow.frz {fa : Y2} (g : Grow F H F' H') (k : ∀ b ∈ fa, H b = none) (z : ∀ b ∈ fa, F' b = none) : Grow F H (eX F' H' fa) H' :=
 ⟨g.fr.trans (eS z), g.all, nX g.inn, fun b o e => by
  unfold eX at e
  split at e
  ·rename_i hb; exact .inr (k b hb)
  ·exact g.new b o e⟩
theorem aLq {g : dC} (h : tv K (rL g) σ H Q) : aOi (tvA K g) σ H Q := by
 obtain ⟨ρ, F, fps, S, h⟩ := h
 refine ⟨ρ, F, fps, S, R.aO (R.aP.mp h) fun xs hx vs F1 H1 fa g1 o1 n1 k1 => ?_⟩
 by_cases hc : (xs.all aL && decide (xs.length ≤ 1000000)) = true
 ·rw [if_pos hc] at hx
  rw [Bool.and_eq_true, decide_eq_true_iff] at hc
  have o2 := Args.aH8 xs hc.1 o1
  have z : ∀ b ∈ fa, F1 b = none := fun b hb => (aG.zone _ o2 b hb).1
  have g2 := g1.frz k1 z
  have o3 : aG K (eX F1 H1 fa) H1 (D.frzs (xs.map (·.1))) vs [] := aG.freeze z _ (fun a ha => ha) o2
  refine ⟨gG (by rw [← Args.length xs o1]; exact hc.2), fun p hp => ?_⟩
  have g3 : Grow (eX F1 H1 fa) H1 (upd (eX F1 H1 fa) p (.tup vs)) (upd H1 p (.tup vs)) := Grow.both g2.inn hp
  refine hx (.ref p) _ _ [] (g2.trans g3) ?_ List.nodup_nil fun _ b hb => by cases hb
  unfold Own
  exact ⟨rfl, p, vs, rfl, SqT.of cD, o3.grow g3⟩
 ·rw [if_neg hc] at hx; exact hx.elim
def aV (f : aQ) : bZ := fun ρ => (f ρ).bind fun x => match x.1 with | .bl b => .ok b | _ => .bad
theorem aEm {f : aQ} {Q : Bool → Hp → Prop} (h : tvT K (aV f) σ H Q) : aAs (tv K f) σ H Q := by
 obtain ⟨ρ, F, fps, S, h⟩ := h
 refine ⟨ρ, F, fps, S, R.aO (R.aP.mp h) fun x hx v F1 H1 fx g1 o1 n1 k1 => ?_⟩
 obtain ⟨x, b⟩ := x
 cases x <;> try exact hx.elim
 rename_i c
 unfold Own at o1
 exact ⟨c, o1.1, hx F1 H1 g1⟩
def jH (f g : bZ) : bZ := fun ρ => (f ρ).bind fun c => if c = true then g ρ else .ok false
def kN (f g : bZ) : bZ := fun ρ => (f ρ).bind fun c => if c = true then .ok true else g ρ
def dJ (f : bZ) : bZ := fun ρ => (f ρ).bind fun c => .ok (!c)
theorem aHt {f g : bZ} {Q : Bool → Hp → Prop} (h : tvT K (jH f g) σ H Q) : aM1 (tvT K f) (tvT K g) σ H Q := by
 obtain ⟨ρ, F, fps, S, h⟩ := h
 refine ⟨ρ, F, fps, S, R.aO (R.aP.mp h) fun c hx F1 H1 g1 => ?_⟩
 cases c with
 | true => rw [if_pos rfl] at hx ⊢; exact ⟨ρ, F1, fps, S.grow g1, R.aO hx fun b hb => hb.lift g1⟩
 | false => rw [if_neg Bool.false_ne_true] at hx ⊢; exact hx F1 H1 g1
theorem aJi {f g : bZ} {Q : Bool → Hp → Prop} (h : tvT K (kN f g) σ H Q) : tOr (tvT K f) (tvT K g) σ H Q := by
 obtain ⟨ρ, F, fps, S, h⟩ := h
 refine ⟨ρ, F, fps, S, R.aO (R.aP.mp h) fun c hx F1 H1 g1 => ?_⟩
 cases c with
 | false => rw [if_neg Bool.false_ne_true] at hx ⊢; exact ⟨ρ, F1, fps, S.grow g1, R.aO hx fun b hb => hb.lift g1⟩
 | true => rw [if_pos rfl] at hx ⊢; exact hx F1 H1 g1
theorem aHf {f : bZ} {Q : Bool → Hp → Prop} (h : tvT K (dJ f) σ H Q) : aMy (tvT K f) σ H Q := by
 obtain ⟨ρ, F, fps, S, h⟩ := h
 exact ⟨ρ, F, fps, S, R.aO (R.aP.mp h) fun c hx F1 H1 g1 => hx F1 H1 g1⟩
def zS (f g : aQ) : aQ := fun ρ => (f ρ).bind fun x => match x.1 with | .bl true => g ρ | .bl false => .ok (.bl false, true) | _ => .bad
def vOr (f g : aQ) : aQ := fun ρ => (f ρ).bind fun x => match x.1 with | .bl false => g ρ | .bl true => .ok (.bl true, true) | _ => .bad
def aC7 : D × Bool → R (D × Bool) := fun x => match x.1 with | .bl b => .ok (.bl (!b), true) | _ => .bad
theorem aKt {f g : aQ} (h : tv K (zS f g) σ H Q) : aIt (tv K f) (tv K g) σ H Q := by
 obtain ⟨ρ, F, fps, S, h⟩ := h
 refine ⟨ρ, F, fps, S, R.aO (R.aP.mp h) fun x hx v F1 H1 fx g1 o1 n1 k1 => ?_⟩
 obtain ⟨x, b⟩ := x
 cases x <;> try exact hx.elim
 rename_i c
 unfold Own at o1
 refine ⟨c, o1.1, ?_⟩
 cases c with
 | true => rw [if_pos rfl]; exact ⟨ρ, F1, fps, S.grow g1, R.aO hx fun b hb => hb.lift g1⟩
 | false => rw [if_neg Bool.false_ne_true]; exact EPost.eN g1 hx rfl
theorem aNo {f g : aQ} (h : tv K (vOr f g) σ H Q) : aMw (tv K f) (tv K g) σ H Q := by
 obtain ⟨ρ, F, fps, S, h⟩ := h
 refine ⟨ρ, F, fps, S, R.aO (R.aP.mp h) fun x hx v F1 H1 fx g1 o1 n1 k1 => ?_⟩
 obtain ⟨x, b⟩ := x
 cases x <;> try exact hx.elim
 rename_i c
 unfold Own at o1
 refine ⟨c, o1.1, ?_⟩
 cases c with
 | false => rw [if_neg Bool.false_ne_true]; exact ⟨ρ, F1, fps, S.grow g1, R.aO hx fun b hb => hb.lift g1⟩
 | true => rw [if_pos rfl]; exact EPost.eN g1 hx rfl
theorem aJo {f : aQ} (h : tv K (v1 aC7 f) σ H Q) : aIm (tv K f) σ H Q := by
 obtain ⟨ρ, F, fps, S, h⟩ := h
 refine ⟨ρ, F, fps, S, R.aO (R.aP.mp h) fun x hx v F1 H1 fx g1 o1 n1 k1 => ?_⟩
 obtain ⟨x, b⟩ := x
 cases x <;> try exact hx.elim
 rename_i c
 unfold Own at o1
 exact ⟨c, o1.1, EPost.eN g1 hx rfl⟩
def vCB (k : List (D × Bool) → R (D × Bool)) (g : dC) : aQ := fun ρ => (g ρ).bind k
def OpA (K : FG) (k : List (D × Bool) → R (D × Bool)) (r : List V → Hp → VK → Prop) : Prop :=
 ∀ (F0 H0 F H : Hp) (xs : List (D × Bool)) (vs : List V) (fa : Y2) (Q : VK), Grow F0 H0 F H → Args K F H xs vs fa → fa.Nodup → (∀ b ∈ fa, H0 b = none) → (k xs).holds (EPost K F0 H0 Q) → r vs H Q
theorem aBa {k : List (D × Bool) → R (D × Bool)} {r : List V → Hp → VK → Prop} (hr : OpA K k r) {g : dC} (h : tv K (vCB k g) σ H Q) : tCB r (tvA K g) σ H Q := by
 obtain ⟨ρ, F, fps, S, h⟩ := h
 exact ⟨ρ, F, fps, S, R.aO (R.aP.mp h) fun xs hx vs F1 H1 fa g1 o1 n1 k1 => hr F H F1 H1 xs vs fa Q g1 o1 n1 k1 hx⟩
end
end VL
end
section
namespace VL
open PySem L2
inductive Out where
 | next (ρ : Env) | ret (d : D) (ρ : Env) | brk (ρ : Env) | cont (ρ : Env) | exc (c : Str) (ρ : Env) | bad
abbrev aU := Env → Out
abbrev kG := Env → R (D × Bool × Env)
def kD (ρ ρ' : Env) : Prop := ∀ (i : Nat) (d : D), ρ[i]? = some (.pin d) → ∃ d', ρ'[i]? = some (.pin d')
def fJ (ρ : Env) (σ : St) (ρ' : Env) (σ' : St) : Prop := ∀ (i : Nat) (d : D), ρ[i]? = some (.pin d) → (∃ d', ρ'[i]? = some (.pin d')) ∧ σ'[i]? = σ[i]?
theorem kD.refl (ρ : Env) : kD ρ ρ := fun _ d h => ⟨d, h⟩
theorem kD.trans {ρ ρ1 ρ2 : Env} (a : kD ρ ρ1) (b : kD ρ1 ρ2) : kD ρ ρ2 := fun i d h => by
 obtain ⟨d1, h1⟩ := a i d h
 exact b i d1 h1
theorem kD.pins {ρ ρ' : Env} {σ : St} (a : kD ρ ρ') : fJ ρ σ ρ' σ := fun i d h => ⟨a i d h, rfl⟩
theorem fJ.refl (ρ : Env) (σ : St) : fJ ρ σ ρ σ := (kD.refl ρ).pins
theorem fJ.trans {ρ ρ1 ρ2 : Env} {σ σ1 σ2 : St} (a : fJ ρ σ ρ1 σ1) (b : fJ ρ1 σ1 ρ2 σ2) : fJ ρ σ ρ2 σ2 := fun i d h => by
 obtain ⟨⟨d1, h1⟩, e1⟩ := a i d h
 obtain ⟨h2, e2⟩ := b i d1 h1
 exact ⟨h2, e2.trans e1⟩
def eJ (K : FG) (F H : Hp) (Z : Y2) (ρ : Env) (σ : St) (P : St → Hp → Prop) (ρ' : Env) : Prop :=
 ∀ σ' F' H' fps', Evo F H Z F' H' fps'.flatten → Sim K F' H' σ' ρ' fps' → fJ ρ σ ρ' σ' → P σ' H'
def wV (K : FG) (F H : Hp) (Z : Y2) (ρ : Env) (σ : St) (P : VK) (d : D) (ρ' : Env) : Prop :=
 ∀ r σ' F' H' fps' fr, Evo F H Z F' H' fps'.flatten → Sim K F' H' σ' ρ' fps' → fJ ρ σ ρ' σ' → Own K F' H' d r fr → fr.Nodup → (∀ b ∈ fr, b ∉ fps'.flatten ∧ (b ∈ Z ∨ H b = none)) → P r H'
abbrev XW := Str → St → Hp → Prop
def cP (K : FG) (W : XW) (F H : Hp) (Z : Y2) (ρ : Env) (σ : St) (D : Ends) : Out → Prop
 | .next ρ' => eJ K F H Z ρ σ D.nx ρ'
 | .ret d ρ' => wV K F H Z ρ σ D.rt d ρ'
 | .brk ρ' => eJ K F H Z ρ σ D.bk ρ'
 | .cont ρ' => eJ K F H Z ρ σ D.ct ρ'
 | .exc c ρ' => eJ K F H Z ρ σ (W c) ρ'
 | .bad => False
def sv (K : FG) (W : XW) (g : aU) : TS := fun D σ H => ∃ ρ F fps, Sim K F H σ ρ fps ∧ cP K W F H fps.flatten ρ σ D (g ρ)
def qI (K : FG) (F H : Hp) (Z : Y2) (ρ : Env) (σ : St) (Q : VK) (x : D × Bool × Env) : Prop :=
 ∀ v F' H' fps' fp, Evo F H Z F' H' fps'.flatten → Sim K F' H' σ x.2.2 fps' → kD ρ x.2.2 → Own K F' H' x.1 v fp → fp.Nodup → (x.2.1 = true → ∀ b ∈ fp, b ∉ fps'.flatten ∧ (b ∈ Z ∨ H b = none)) → Q v H'
def tx (K : FG) (W : XW) (g : kG) : TE := fun σ H Q => ∃ ρ F fps, Sim K F H σ ρ fps ∧ (g ρ).hx (qI K F H fps.flatten ρ σ Q) fun c => eJ K F H fps.flatten ρ σ (W c) ρ
section
variable {K : FG} {W : XW} {F H F' H' F1 H1 : Hp} {Z Z' Z1 : Y2} {σ σ1 : St} {ρ ρ1 : Env} {D' : Ends}
theorem eJ.lift {P : St → Hp → Prop} {ρ' : Env} (e : Evo F H Z F1 H1 Z1) (p : fJ ρ σ ρ1 σ1) (h : eJ K F H Z ρ σ P ρ') : eJ K F1 H1 Z1 ρ1 σ1 P ρ' :=
 fun σ' F' H' fps' e' S' p' => h σ' F' H' fps' (e.trans e') S' (p.trans p')
theorem wV.lift {P : VK} {d : D} {ρ' : Env} (e : Evo F H Z F1 H1 Z1) (p : fJ ρ σ ρ1 σ1) (h : wV K F H Z ρ σ P d ρ') : wV K F1 H1 Z1 ρ1 σ1 P d ρ' :=
 fun r σ' F' H' fps' fr e' S' p' o n k => h r σ' F' H' fps' fr (e.trans e') S' (p.trans p') o n fun b hb => ⟨(k b hb).1, by
  rcases (k b hb).2 with q | q
  ·exact e.zone b q
  ·exact .inr (e.dom b q)⟩
theorem cP.lift {o : Out} (e : Evo F H Z F1 H1 Z1) (p : fJ ρ σ ρ1 σ1) (h : cP K W F H Z ρ σ D' o) : cP K W F1 H1 Z1 ρ1 σ1 D' o := by
 cases o with
 | next ρ' => exact eJ.lift e p h
 | ret d ρ' => exact wV.lift e p h
 | brk ρ' => exact eJ.lift e p h
 | cont ρ' => exact eJ.lift e p h
 | exc c ρ' => exact eJ.lift e p h
 | bad => exact h
def bI : aU := fun ρ => .next ρ
def Out.andThen (o : Out) (g : aU) : Out := match o with | .next ρ => g ρ | o => o
def aN (f g : aU) : aU := fun ρ => (f ρ).andThen g
theorem aHk (h : sv K W bI D' σ H) : aIw D' σ H := by
 obtain ⟨ρ, F, fps, S, h⟩ := h
 exact h σ F H fps .refl S (fJ.refl _ _)
theorem aK5 {f g : aU} (h : sv K W (aN f g) D' σ H) : aNc (sv K W f) (sv K W g) D' σ H := by
 obtain ⟨ρ, F, fps, S, h⟩ := h
 refine ⟨ρ, F, fps, S, ?_⟩
 unfold aN at h
 cases e : f ρ with
 | next ρ1 =>
  rw [e] at h
  have h : cP K W F H fps.flatten ρ σ D' (g ρ1) := h
  exact fun σ1 F1 H1 fps1 e1 S1 p1 => ⟨ρ1, F1, fps1, S1, cP.lift e1 p1 h⟩
 | ret d ρ' => rw [e] at h; exact h
 | brk ρ' => rw [e] at h; exact h
 | cont ρ' => rw [e] at h; exact h
 | exc _ _ => rw [e] at h; exact h
 | bad => rw [e] at h; exact h
def sIf (c : bZ) (f g : aU) : aU := fun ρ => match c ρ with
 | .ok true => f ρ | .ok false => g ρ | .exc _ => .bad | .bad => .bad
theorem aNz {c : bZ} {f g : aU} (h : sv K W (sIf c f g) D' σ H) : aOv (tvT K c) (sv K W f) (sv K W g) D' σ H := by
 obtain ⟨ρ, F, fps, S, h⟩ := h
 refine ⟨ρ, F, fps, S, ?_⟩
 unfold sIf at h
 cases e : c ρ with
 | ok b =>
  rw [e] at h
  intro F1 H1 g1
  cases b with
  | true => rw [if_pos rfl]; exact ⟨ρ, F1, fps, S.grow g1, cP.lift g1.evo (fJ.refl _ _) h⟩
  | false => rw [if_neg Bool.false_ne_true]; exact ⟨ρ, F1, fps, S.grow g1, cP.lift g1.evo (fJ.refl _ _) h⟩
 | exc _ => rw [e] at h; exact h.elim
 | bad => rw [e] at h; exact h.elim
def xOf (f : aQ) : kG := fun ρ => match f ρ with | .ok x => .ok (x.1, x.2, ρ) | _ => .bad
theorem aIg {f : aQ} {Q : VK} (h : tx K W (xOf f) σ H Q) : tv K f σ H Q := by
 obtain ⟨ρ, F, fps, S, h⟩ := h
 refine ⟨ρ, F, fps, S, ?_⟩
 unfold xOf at h
 cases ef : f ρ with
 | exc _ => rw [ef] at h; exact h.elim
 | bad => rw [ef] at h; exact h.elim
 | ok x =>
  rw [ef] at h
  have hx : qI K F H fps.flatten ρ σ Q (x.1, x.2, ρ) := h
  intro v F1 H1 fx g1 o1 n1 k1
  refine hx v F1 H1 fps fx g1.evo (S.grow g1) (kD.refl _) o1 n1 fun e b hb => ⟨fun hz => ?_, .inr (k1 e b hb)⟩
  exact (S.zone b hz).2 (k1 e b hb)
def iH (g : kG) : aU := fun ρ => match g ρ with | .ok (_, _, ρ') => .next ρ' | .exc c => .exc c ρ | .bad => .bad
theorem aGp {g : kG} (h : sv K W (iH g) D' σ H) : xB (tx K W g) D' σ H := by
 obtain ⟨ρ, F, fps, S, h⟩ := h
 refine ⟨ρ, F, fps, S, ?_⟩
 unfold iH at h
 cases e : g ρ with
 | ok x =>
  rw [e] at h
  exact fun v F1 H1 fps1 fp e1 S1 p1 o1 n1 k1 => h σ F1 H1 fps1 e1 S1 p1.pins
 | exc c => rw [e] at h; exact h
 | bad => rw [e] at h; exact h.elim
def cO (g : kG) : aU := fun ρ => match g ρ with
 | .ok (d, fr, ρ') => if fr || d.calm then .ret d ρ' else .bad
 | .exc c => .exc c ρ | .bad => .bad
theorem aJ9 {g : kG} (h : sv K W (cO g) D' σ H) : aK2 (tx K W g) D' σ H := by
 obtain ⟨ρ, F, fps, S, h⟩ := h
 refine ⟨ρ, F, fps, S, ?_⟩
 unfold cO at h
 cases e : g ρ with
 | ok x =>
  obtain ⟨d, fr, ρ'⟩ := x
  rw [e] at h
  intro v F1 H1 fps1 fp e1 S1 p1 o1 n1 k1
  have h : cP K W F H fps.flatten ρ σ D' (if (fr || d.calm) = true then .ret d ρ' else .bad) := h
  by_cases hc : (fr || d.calm) = true
  ·rw [if_pos hc] at h
   refine h v σ F1 H1 fps1 fp e1 S1 p1.pins o1 n1 fun b hb => ?_
   cases ef : fr with
   | true => exact k1 ef b hb
   | false =>
    rw [ef, Bool.false_or] at hc
    rw [Own.dR d hc o1] at hb; cases hb
  ·rw [if_neg hc] at h; exact h.elim
 | exc c => rw [e] at h; exact h
 | bad => rw [e] at h; exact h.elim
theorem nN {fps : Y5} {i : Nat} {fp : Y2} (n : fps.flatten.Nodup) (nf : fp.Nodup) (dj : ∀ b ∈ fp, b ∉ fps.flatten) : (fps.set i fp).flatten.Nodup := by
 induction fps generalizing i with
 | nil => simp
 | cons f r ih =>
  rw [List.flatten_cons] at n dj
  obtain ⟨n1, n2, n3⟩ := List.nodup_append.mp n
  cases i with
  | zero =>
   rw [List.set_cons_zero, List.flatten_cons]
   exact List.nodup_append.mpr ⟨nf, n2, fun a ha b hb z => dj a ha (List.mem_append_right _ (z ▸ hb))⟩
  | succ i =>
   rw [List.set_cons_succ, List.flatten_cons]
   refine List.nodup_append.mpr ⟨n1, ih n2 fun b hb hr => dj b hb (List.mem_append_right _ hr), fun a ha b hb z => ?_⟩
   subst z
   obtain ⟨l, hl, hal⟩ := List.mem_flatten.mp hb
   rcases List.mem_or_eq_of_mem_set hl with hl | rfl
   ·exact n3 a ha a (List.mem_flatten.mpr ⟨l, hl, hal⟩) rfl
   ·exact dj a hal (List.mem_append_left _ ha)
theorem bN {fps : Y5} {i : Nat} {fp : Y2} {b : Addr} (h : b ∈ (fps.set i fp).flatten) : b ∈ fps.flatten ∨ b ∈ fp := by
 obtain ⟨l, hl, hb⟩ := List.mem_flatten.mp h
 rcases List.mem_or_eq_of_mem_set hl with hl | rfl
 ·exact .inl (List.mem_flatten.mpr ⟨l, hl, hb⟩)
 ·exact .inr hb
theorem Sim.store {fps : Y5} {i : Nat} {d : D} {v : V} {fp : Y2} (S : Sim K F H σ ρ fps) (o : Own K F H d v fp) (n : fp.Nodup) (dj : ∀ b ∈ fp, b ∉ fps.flatten) : Sim K F H (σ.set i (some v)) (ρ.set i (.val d)) (fps.set i fp) := by
 refine ⟨S.same, by simp [S.ls], by simp [S.lf], fun j s c e1 e2 => ?_, nN S.nd n dj, fun a ha => ?_⟩
 ·by_cases hj : i = j
  ·subst hj
   have hi : i < ρ.length := by
    rcases Nat.lt_or_ge i ρ.length with h | h
    ·exact h
    ·rw [List.getElem?_eq_none_iff.mpr (by simpa using h)] at e1; cases e1
   rw [List.getElem?_set_self (by exact hi)] at e1
   cases e1; cases e2
   refine ⟨v, fp, List.getElem?_set_self (by rw [S.ls]; exact hi), List.getElem?_set_self (by rw [S.lf]; exact hi), o⟩
  ·rw [List.getElem?_set_ne hj] at e1
   obtain ⟨w, f, h1, h2, h3⟩ := S.at_ j s c e1 e2
   exact ⟨w, f, by rw [List.getElem?_set_ne hj]; exact h1, by rw [List.getElem?_set_ne hj]; exact h2, h3⟩
 ·rcases bN ha with h | h
  ·exact S.zone a h
  ·obtain ⟨h1, xs, h2⟩ := Own.zone d o a h
   exact ⟨h1, by rw [h2]; simp⟩
def free (ρ : Env) (i : Nat) : Bool := match ρ[i]? with | some (.pin _) => false | some _ => true | none => false
theorem nJ {i : Nat} {d : D} {x : Option V} (h : free ρ i = true) : fJ ρ σ (ρ.set i (.val d)) (σ.set i x) := fun j c e => by
 have hj : i ≠ j := by
  rintro rfl
  unfold free at h
  rw [e] at h; cases h
 exact ⟨⟨c, by rw [List.getElem?_set_ne hj]; exact e⟩, by rw [List.getElem?_set_ne hj]⟩
def bA (i : Nat) (d : D) (ρ : Env) : Option Env := if free ρ i then some (ρ.set i (.val d)) else none
def aY (i : Nat) (g : kG) : aU := fun ρ => match g ρ with
 | .ok (d, fr, ρ') => if (fr || d.calm) && free ρ' i then .next (ρ'.set i (.val d)) else .bad
 | .exc c => .exc c ρ | .bad => .bad
theorem aAo {fps1 : Y5} {i : Nat} {fp : Y2} (e : Evo F H Z F' H' fps1.flatten) (k : ∀ b ∈ fp, b ∈ Z ∨ H b = none) : Evo F H Z F' H' (fps1.set i fp).flatten :=
 ⟨e.fr, e.keep, e.dom, e.new, fun b hb => (bN hb).elim (e.zone b) (k b)⟩
theorem aEq {i : Nat} {g : kG} (h : sv K W (aY i g) D' σ H) : aCb (tx K W g) (oY i) D' σ H := by
 obtain ⟨ρ, F, fps, S, h⟩ := h
 refine ⟨ρ, F, fps, S, ?_⟩
 unfold aY at h
 cases e : g ρ with
 | ok x =>
  obtain ⟨d, fr, ρ'⟩ := x
  rw [e] at h
  intro v F1 H1 fps1 fp e1 S1 p1 o1 n1 k1
  have h : cP K W F H fps.flatten ρ σ D' (if ((fr || d.calm) && free ρ' i) = true then .next (ρ'.set i (.val d)) else .bad) := h
  by_cases hc : ((fr || d.calm) && free ρ' i) = true
  ·rw [if_pos hc] at h
   rw [Bool.and_eq_true] at hc
   have k2 : ∀ b ∈ fp, b ∉ fps1.flatten ∧ (b ∈ fps.flatten ∨ H b = none) := fun b hb => by
    cases ef : fr with
    | true => exact k1 ef b hb
    | false =>
     have := hc.1
     rw [ef, Bool.false_or] at this
     rw [Own.dR d this o1] at hb; cases hb
   exact h _ F1 H1 _ (aAo e1 fun b hb => (k2 b hb).2) (S1.store o1 n1 fun b hb => (k2 b hb).1) (p1.pins.trans (nJ hc.2))
  ·rw [if_neg hc] at h; exact h.elim
 | exc c => rw [e] at h; exact h
 | bad => rw [e] at h; exact h.elim
def cQ : T0 → List D → Env → Option Env
 | [], [], ρ => some ρ
 | i :: is, d :: ds, ρ => if d.calm then (bA i d ρ).bind (cQ is ds) else none
 | _, _, _ => none
def kW : T0 → TGs
 | [] => aNl
 | i :: is => aI4 (oY i) (kW is)
theorem mS : ∀ (is : T0) {ds : List D} {vs : List V} {ρ ρ' : Env} {σ : St} {fps : Y5} {P : St → Hp → Prop}, cQ is ds ρ = some ρ' → Sim K F H σ ρ fps → aG K F H ds vs [] →
  (∀ σ' fps', Sim K F H σ' ρ' fps' → fJ ρ σ ρ' σ' → (∀ b ∈ fps'.flatten, b ∈ fps.flatten) → P σ' H) → kW is vs σ H P
 | [], [], vs, ρ, ρ', σ, fps, P, e, S, o, h => by
  unfold cQ at e; cases e
  unfold aG at o
  exact ⟨o.1, h σ fps S (fJ.refl _ _) fun _ hb => hb⟩
 | i :: is, d :: ds, vs, ρ, ρ', σ, fps, P, e, S, o, h => by
  unfold cQ at e
  by_cases hc : d.calm = true
  ·rw [if_pos hc] at e
   unfold bA at e
   by_cases hf : free ρ i = true
   ·rw [if_pos hf] at e
    have e : cQ is ds (ρ.set i (.val d)) = some ρ' := e
    unfold aG at o
    obtain ⟨v, r, f1, f2, e1, o1, o2, e2⟩ := o
    have ef := List.append_eq_nil_iff.mp e2.symm
    rw [ef.1] at o1; rw [ef.2] at o2
    refine ⟨v, r, e1, ?_⟩
    refine mS is e (S.store (i := i) o1 List.nodup_nil fun b hb => by cases hb) o2 fun σ' fps' S' p' k' => ?_
    refine h σ' fps' S' ((nJ hf).trans p') fun b hb => ?_
    rcases bN (k' b hb) with q | q
    ·exact q
    ·cases q
   ·rw [if_neg hf] at e; cases e
  ·rw [if_neg hc] at e; cases e
 | [], d :: ds, vs, ρ, ρ', σ, fps, P, e, S, o, h => by unfold cQ at e; cases e
 | i :: is, [], vs, ρ, ρ', σ, fps, P, e, S, o, h => by unfold cQ at e; cases e
def gH (is : T0) (g : kG) : aU := fun ρ => match g ρ with
 | .ok (.tup ds, _, ρ') => (match cQ is ds ρ' with | some ρ2 => .next ρ2 | none => .bad)
 | .ok _ => .bad | .exc c => .exc c ρ | .bad => .bad
theorem mG : ∀ (is : T0) {ds : List D} {ρ ρ' : Env}, cQ is ds ρ = some ρ' → ds.length = is.length
 | [], [], _, _, _ => rfl
 | i :: is, d :: ds, ρ, ρ', e => by
  unfold cQ at e
  by_cases hc : d.calm = true
  ·rw [if_pos hc] at e
   cases q : bA i d ρ with
   | none => rw [q] at e; cases e
   | some ρ1 =>
    rw [q] at e
    rw [List.length_cons, List.length_cons, mG is (show cQ is ds ρ1 = some ρ' from e)]
  ·rw [if_neg hc] at e; cases e
 | [], _ :: _, _, _, e => by unfold cQ at e; cases e
 | _ :: _, [], _, _, e => by unfold cQ at e; cases e
theorem aCk {is : T0} {g : kG} {n : Nat} (hn : is.length = n) (h : sv K W (gH is g) D' σ H) : aCb (tx K W g) (aKg K n (kW is)) D' σ H := by
 obtain ⟨ρ, F, fps, S, h⟩ := h
 refine ⟨ρ, F, fps, S, ?_⟩
 unfold gH at h
 cases e : g ρ with
 | ok x =>
  obtain ⟨d, fr, ρ'⟩ := x
  rw [e] at h
  intro v F1 H1 fps1 fp e1 S1 p1 o1 n1 k1
  cases d <;> try exact h.elim
  rename_i ds
  obtain ⟨a, xs, ev, q, o2, e2⟩ := Own.tup S1.same o1
  have h : cP K W F H fps.flatten ρ σ D' (match cQ is ds ρ' with | some ρ2 => .next ρ2 | none => .bad) := h
  cases eb : cQ is ds ρ' with
  | none => rw [eb] at h; exact h.elim
  | some ρ2 =>
   rw [eb] at h
   refine ⟨a, xs, ev, q, ?_, ?_⟩
   ·rw [← aG.length ds o2, mG is eb, hn]
   ·refine mS is eb S1 o2 fun σ' fps' S' p' k' => ?_
    exact h σ' F1 H1 fps' ⟨e1.fr, e1.keep, e1.dom, e1.new, fun b hb => e1.zone b (k' b hb)⟩ S' (p1.pins.trans p')
 | exc c => rw [e] at h; exact h
 | bad => rw [e] at h; exact h.elim
def fT (o : Out) (again : Env → Out) : Out := match o with
 | .next ρ => again ρ | .cont ρ => again ρ | .brk ρ => .next ρ | o => o
def cF (c : bZ) (b : aU) : Nat → aU
 | 0, _ => .bad
 | n + 1, ρ => match c ρ with
  | .ok true => fT (b ρ) (cF c b n)
  | .ok false => .next ρ
  | .exc _ => .bad | .bad => .bad
theorem aE3 {n : Nat} {c : bZ} {b : aU} (h : sv K W (cF c b n) D' σ H) : aEb (tvT K c) (sv K W b) D' σ H := by
 refine ⟨fun m σ H => sv K W (cF c b m) D' σ H, ⟨n, h⟩, ?_⟩
 rintro m σ H ⟨ρ, F, fps, S, h⟩
 refine ⟨ρ, F, fps, S, ?_⟩
 cases m with
 | zero => exact h.elim
 | succ m =>
  unfold cF at h
  cases e : c ρ with
  | exc _ => rw [e] at h; exact h.elim
  | bad => rw [e] at h; exact h.elim
  | ok k =>
   rw [e] at h
   intro F1 H1 g1
   cases k with
   | false =>
    rw [if_neg Bool.false_ne_true]
    exact h σ F1 H1 fps g1.evo (S.grow g1) (fJ.refl _ _)
   | true =>
    rw [if_pos rfl]
    refine ⟨fun σ' H' => sv K W (cF c b m) D' σ' H', fun σ' H' q => ⟨m, Nat.lt_succ_self m, q⟩, ρ, F1, fps, S.grow g1, ?_⟩
    have h : cP K W F H fps.flatten ρ σ D' (fT (b ρ) (cF c b m)) := h
    have h := cP.lift (g1.evo (Z := fps.flatten)) (fJ.refl ρ σ) h
    cases eb : b ρ with
    | next ρ' =>
     rw [eb] at h
     exact fun σ' F' H' fps' e' S' p' => ⟨ρ', F', fps', S', cP.lift e' p' h⟩
    | cont ρ' =>
     rw [eb] at h
     exact fun σ' F' H' fps' e' S' p' => ⟨ρ', F', fps', S', cP.lift e' p' h⟩
    | brk ρ' => rw [eb] at h; exact h
    | ret d ρ' => rw [eb] at h; exact h
    | exc _ _ => rw [eb] at h; exact h
    | bad => rw [eb] at h; exact h
abbrev iT := Env → R (List D)
def vH (K : FG) (F : Hp) (ds : List D) (J : It) : Prop :=
 (∀ i H', aW F H' → ds.length ≤ i → J.stop i H') ∧
 ∀ i d, ds[i]? = some d → ∀ F' H', aW F F' → aW F' H' → J.go i H' ∧ ∀ x H2, J.yld i H' x H2 → ∃ F2, Grow F' H' F2 H2 ∧ Own K F2 H2 d x []
def aE8 (K : FG) (F H : Hp) (R' : It → Hp → Prop) (ds : List D) : Prop := ∀ J F' H', Grow F H F' H' → vH K F' ds J → R' J H'
def iv (K : FG) (f : iT) : TI := fun σ H R' => ∃ ρ F fps, Sim K F H σ ρ fps ∧ (f ρ).holds (aE8 K F H R')
def forL (set : D → Env → Option Env) (b : aU) : List D → aU
 | [], ρ => .next ρ
 | d :: ds, ρ => match set d ρ with
  | none => .bad
  | some ρ1 => fT (b ρ1) (forL set b ds)
def Tgt (K : FG) (set : D → Env → Option Env) (g : TG) : Prop :=
 ∀ (F H : Hp) (d : D) (v : V) (ρ ρ' : Env) (σ : St) (fps : Y5) (P : St → Hp → Prop), Sim K F H σ ρ fps → Own K F H d v [] → set d ρ = some ρ' →
  (∀ σ' fps', Sim K F H σ' ρ' fps' → fJ ρ σ ρ' σ' → (∀ b ∈ fps'.flatten, b ∈ fps.flatten) → P σ' H) → g v σ H P
theorem bJ {i : Nat} : Tgt K (bA i) (oY i) := by
 intro F H d v ρ ρ' σ fps P S o e h
 unfold bA at e
 by_cases hf : free ρ i = true
 ·rw [if_pos hf] at e; cases e
  refine h _ _ (S.store o List.nodup_nil fun b hb => by cases hb) (nJ hf) fun b hb => ?_
  rcases bN hb with q | q
  ·exact q
  ·cases q
 ·rw [if_neg hf] at e; cases e
def dE (is : T0) : D → Env → Option Env := fun d ρ => match d with | .tup ds => cQ is ds ρ | _ => none
theorem jO {is : T0} {n : Nat} (hn : is.length = n) : Tgt K (dE is) (aKg K n (kW is)) := by
 intro F H d v ρ ρ' σ fps P S o e h
 unfold dE at e
 cases d <;> try cases e
 rename_i ds
 obtain ⟨a, xs, ev, q, o2, e2⟩ := Own.tup S.same o
 refine ⟨a, xs, ev, q, ?_, mS is e S o2 h⟩
 rw [← aG.length ds o2, mG is e, hn]
def fI (f : iT) (set : D → Env → Option Env) (b : aU) : aU := fun ρ => match f ρ with
 | .ok ds => forL set b ds ρ | .exc _ => .bad | .bad => .bad
theorem aJh {f : iT} {set : D → Env → Option Env} {g : TG} {b : aU} (ht : Tgt K set g) (h : sv K W (fI f set b) D' σ H) : aOn (iv K f) g (sv K W b) D' σ H := by
 obtain ⟨ρ, F, fps, S, h⟩ := h
 refine ⟨ρ, F, fps, S, ?_⟩
 unfold fI at h
 cases e : f ρ with
 | exc _ => rw [e] at h; exact h.elim
 | bad => rw [e] at h; exact h.elim
 | ok ds =>
  rw [e] at h
  intro J F0 H0 g0 hJ
  have h := cP.lift (g0.evo (Z := fps.flatten)) (fJ.refl ρ σ) h
  refine ⟨fun i m σ' H' => i ≤ ds.length ∧ m = ds.length - i ∧ ∃ ρ' F' fps', aW F0 F' ∧ Sim K F' H' σ' ρ' fps' ∧ cP K W F' H' fps'.flatten ρ' σ' D' (forL set b (ds.drop i) ρ'),
   ⟨ds.length, Nat.zero_le _, rfl, ρ, F0, fps, aW.refl _, S.grow g0, h⟩, ?_⟩
  rintro i m σ1 H1 ⟨hi, rfl, ρ1, F1, fps1, s1, S1, h1⟩
  by_cases hlt : i < ds.length
  ·refine .inr ?_
   obtain ⟨d, hd⟩ : ∃ d, ds[i]? = some d := ⟨ds[i], by simp [hlt]⟩
   have hdrop : ds.drop i = d :: ds.drop (i + 1) := by
    rw [List.drop_eq_getElem_cons hlt]
    congr 1
    rw [List.getElem?_eq_getElem hlt] at hd; exact Option.some.inj hd
   rw [hdrop] at h1
   obtain ⟨go, yl⟩ := hJ.2 i d hd F1 H1 s1 S1.same
   refine ⟨go, fun σ' H' => ∃ ρ' F' fps', aW F0 F' ∧ Sim K F' H' σ' ρ' fps' ∧ cP K W F' H' fps'.flatten ρ' σ' D' (forL set b (ds.drop (i + 1)) ρ'), fun σ' H' q => ⟨ds.length - (i + 1), by omega, by omega, rfl, q⟩, fun x H2 hy => ?_⟩
   obtain ⟨F2, g2, o2⟩ := yl x H2 hy
   have h1 : cP K W F1 H1 fps1.flatten ρ1 σ1 D' (match set d ρ1 with | none => .bad | some ρ2 => fT (b ρ2) (forL set b (ds.drop (i + 1)))) := h1
   have h1 := cP.lift (g2.evo (Z := fps1.flatten)) (fJ.refl ρ1 σ1) h1
   cases es : set d ρ1 with
   | none => rw [es] at h1; exact h1.elim
   | some ρ2 =>
    rw [es] at h1
    refine ht F2 H2 d x ρ1 ρ2 σ1 fps1 _ (S1.grow g2) o2 es fun σ2 fps2 S2 p2 k2 => ?_
    have ev2 : Evo F2 H2 fps1.flatten F2 H2 fps2.flatten := ⟨aW.refl _, fun _ _ e _ => e, fun _ e => e, fun _ _ e => .inl e, fun b hb => .inl (k2 b hb)⟩
    have h2 : cP K W F2 H2 fps2.flatten ρ2 σ2 D' (fT (b ρ2) (forL set b (ds.drop (i + 1)))) := cP.lift ev2 p2 h1
    refine ⟨ρ2, F2, fps2, S2, ?_⟩
    have s2 : aW F0 F2 := s1.trans g2.fr
    cases eb : b ρ2 with
    | next ρ3 =>
     rw [eb] at h2
     exact fun σ' F' H' fps' e' S' p' => ⟨ρ3, F', fps', s2.trans e'.fr, S', cP.lift e' p' h2⟩
    | cont ρ3 =>
     rw [eb] at h2
     exact fun σ' F' H' fps' e' S' p' => ⟨ρ3, F', fps', s2.trans e'.fr, S', cP.lift e' p' h2⟩
    | brk ρ3 => rw [eb] at h2; exact h2
    | ret d ρ3 => rw [eb] at h2; exact h2
    | exc _ _ => rw [eb] at h2; exact h2
    | bad => rw [eb] at h2; exact h2
  ·refine .inl ⟨hJ.1 i H1 (s1.trans S1.same) (by omega), ?_⟩
   rw [List.drop_eq_nil_of_le (by omega)] at h1
   exact h1 σ1 F1 H1 fps1 .refl S1 (fJ.refl _ _)
def aI3 (f : aQ) : iT := fun ρ => (f ρ).bind fun x => match x.1 with
 | .tup ds => .ok ds | _ => .bad
theorem aJ8 {f : aQ} {R' : It → Hp → Prop} (h : iv K (aI3 f) σ H R') : aLe K (tv K f) σ H R' := by
 obtain ⟨ρ, F, fps, S, h⟩ := h
 refine ⟨ρ, F, fps, S, R.aO (R.aP.mp h) fun x hx v F1 H1 fx g1 o1 n1 k1 => ?_⟩
 obtain ⟨x, b⟩ := x
 cases x <;> try exact hx.elim
 rename_i ds
 unfold Own at o1
 obtain ⟨_, a, xs, ev, q, r⟩ := o1
 refine ⟨a, ev, ⟨xs, aW.sO g1.inn q⟩, hx _ F1 H1 g1 ⟨fun i H' hs hl => ?_, fun i d hd F' H' s1 s2 => ?_⟩⟩
 ·exact ⟨xs, aW.sO hs q, by rw [← aG.length ds r]; exact hl⟩
 ·obtain ⟨u, f, q1, q2, q3⟩ := aG.get ds r hd
  refine ⟨⟨xs, u, aW.sO (s1.trans s2) q, q1⟩, fun y H2 hy => ?_⟩
  obtain ⟨e, hy⟩ := hy
  subst e
  have ey := hy xs (aW.sO (s1.trans s2) q)
  rw [q1] at ey; cases ey
  have : f = [] := List.sublist_nil.mp q3
  subst this
  exact ⟨F', Grow.refl s2, Own.keep s1 d (fun a ha => by cases ha) q2⟩
def fD (lo : Int) (n : Nat) : List D := (List.range n).map fun (i : Nat) => D.int (lo + (i : Int))
def bX (i : Int) : Bool := decide (-(2 ^ 62) ≤ i) && decide (i < 2 ^ 62)
def iR1 (g : dC) : iT := fun ρ => (g ρ).bind fun xs => match xs with
 | [(.int j, _)] => if bX j then .ok (fD 0 j.toNat) else .bad | _ => .bad
def iR2 (g : dC) : iT := fun ρ => (g ρ).bind fun xs => match xs with
 | [(.int i, _), (.int j, _)] => if bX i && bX j then .ok (fD i (j - i).toNat) else .bad | _ => .bad
theorem rA {lo : Int} {n : Nat} : vH K F (fD lo n) (Itr lo n) := by
 refine ⟨fun i H' _ hl => ?_, fun i d hd F' H' s1 s2 => ?_⟩
 ·unfold fD at hl
  show n ≤ i
  simpa using hl
 ·unfold fD at hd
  rw [List.getElem?_map] at hd
  have hi : i < n := by
   rcases Nat.lt_or_ge i n with h | h
   ·exact h
   ·rw [List.getElem?_eq_none_iff.mpr (by simpa using h)] at hd; cases hd
  rw [List.getElem?_range hi] at hd
  cases hd
  refine ⟨hi, fun y H2 hy => ?_⟩
  obtain ⟨e1, e2⟩ := hy
  subst e1; subst e2
  exact ⟨F', Grow.refl s2, fY rfl⟩
theorem aCd {g : dC} {R' : It → Hp → Prop} (h : iv K (iR1 g) σ H R') : aIe (tvA K g) σ H R' := by
 obtain ⟨ρ, F, fps, S, h⟩ := h
 refine ⟨ρ, F, fps, S, R.aO (R.aP.mp h) fun xs hx vs F1 H1 fa g1 o1 n1 k1 => ?_⟩
 match xs, hx, o1 with
 | [(.int j, b)], hx, o1 =>
  have hx : (if bX j = true then R.ok (fD 0 j.toNat) else R.bad).holds (aE8 K F H R') := hx
  by_cases hc : bX j = true
  ·rw [if_pos hc] at hx
   unfold bX at hc
   rw [Bool.and_eq_true, decide_eq_true_iff, decide_eq_true_iff] at hc
   unfold Args at o1
   obtain ⟨v, r, fp, f2, e, o, n, t, w⟩ := o1
   unfold Args at t; unfold Own at o
   rw [e, t.1, o.1]
   exact ⟨j, rfl, hc.1, hc.2, hx _ F1 H1 g1 rA⟩
  ·rw [if_neg hc] at hx; exact hx.elim
theorem aBp {g : dC} {R' : It → Hp → Prop} (h : iv K (iR2 g) σ H R') : aIn (tvA K g) σ H R' := by
 obtain ⟨ρ, F, fps, S, h⟩ := h
 refine ⟨ρ, F, fps, S, R.aO (R.aP.mp h) fun xs hx vs F1 H1 fa g1 o1 n1 k1 => ?_⟩
 match xs, hx, o1 with
 | [(.int i, b), (.int j, b')], hx, o1 =>
  have hx : (if (bX i && bX j) = true then R.ok (fD i (j - i).toNat) else R.bad).holds (aE8 K F H R') := hx
  by_cases hc : (bX i && bX j) = true
  ·rw [if_pos hc] at hx
   unfold bX at hc
   simp only [Bool.and_eq_true, decide_eq_true_iff] at hc
   unfold Args at o1
   obtain ⟨v, r, fp, f2, e, o, n, t, w⟩ := o1
   unfold Args at t
   obtain ⟨v', r', fp', f2', e', o', n', t', w'⟩ := t
   unfold Args at t'; unfold Own at o o'
   rw [e, e', t'.1, o.1, o'.1]
   exact ⟨i, j, rfl, ⟨hc.1.1, hc.1.2, hc.2.1, hc.2.2⟩, hx _ F1 H1 g1 rA⟩
  ·rw [if_neg hc] at hx; exact hx.elim
end
end VL
end
section
namespace VL
open PySem L2
section
variable {K : FG} {W : XW} {F H F' H' F1 H1 : Hp} {Z Z' Z1 : Y2} {σ σ1 : St} {ρ ρ1 : Env} {D' : Ends}
theorem eR {fps : Y5} {i : Nat} {fp f : Y2} (n : fps.flatten.Nodup) (e : fps[i]? = some f) (nf : fp.Nodup) (dj : ∀ b ∈ fp, b ∈ f ∨ b ∉ fps.flatten) : (fps.set i fp).flatten.Nodup := by
 induction fps generalizing i with
 | nil => simp
 | cons g r ih =>
  rw [List.flatten_cons] at n dj
  obtain ⟨n1, n2, n3⟩ := List.nodup_append.mp n
  cases i with
  | zero =>
   simp at e; subst e
   rw [List.set_cons_zero, List.flatten_cons]
   refine List.nodup_append.mpr ⟨nf, n2, fun a ha b hb z => ?_⟩
   subst z
   rcases dj a ha with h | h
   ·exact n3 a h a hb rfl
   ·exact h (List.mem_append_right _ hb)
  | succ i =>
   have e : r[i]? = some f := by simpa using e
   rw [List.set_cons_succ, List.flatten_cons]
   refine List.nodup_append.mpr ⟨n1, ih n2 e fun b hb => (dj b hb).imp_right fun h hr => h (List.mem_append_right _ hr), fun a ha b hb z => ?_⟩
   subst z
   rcases bN hb with h | h
   ·exact n3 a ha a h rfl
   ·rcases dj a h with q | q
    ·exact n3 a ha a (List.mem_flatten.mpr ⟨f, List.mem_of_getElem? e, q⟩) rfl
    ·exact q (List.mem_append_left _ ha)
theorem apart {fps : Y5} {i j : Nat} {f g : Y2} {a : Addr} (n : fps.flatten.Nodup) (hi : fps[i]? = some f) (hj : fps[j]? = some g) (ne : i ≠ j) (ha : a ∈ f) : a ∉ g := by
 induction fps generalizing i j with
 | nil => simp at hi
 | cons h r ih =>
  rw [List.flatten_cons] at n
  obtain ⟨n1, n2, n3⟩ := List.nodup_append.mp n
  cases i with
  | zero =>
   simp at hi; subst hi
   cases j with
   | zero => exact absurd rfl ne
   | succ j =>
    have hj : r[j]? = some g := by simpa using hj
    exact fun hb => n3 a ha a (List.mem_flatten.mpr ⟨g, List.mem_of_getElem? hj, hb⟩) rfl
  | succ i =>
   have hi : r[i]? = some f := by simpa using hi
   cases j with
   | zero =>
    simp at hj; subst hj
    exact fun hb => n3 a hb a (List.mem_flatten.mpr ⟨f, List.mem_of_getElem? hi, ha⟩) rfl
   | succ j => exact ih n2 hi (by simpa using hj) fun z => ne (by rw [z])
theorem Own.other {d : D} {v : V} {f : Y2} {a : Addr} {o : HO} (h : Own K F H d v f) (ha : a ∉ f) : Own K F (upd H a o) d v f := by
 refine Own.keep (aW.refl _) d (fun b hb => ⟨(Own.zone d h b hb).1, ?_⟩) h
 exact bB fun z => ha (z ▸ hb)
theorem aG.other {d : List D} {v : List V} {f : Y2} {a : Addr} {o : HO} (h : aG K F H d v f) (ha : a ∉ f) : aG K F (upd H a o) d v f := by
 refine aG.keep (aW.refl _) d (fun b hb => ⟨(aG.zone d h b hb).1, ?_⟩) h
 exact bB fun z => ha (z ▸ hb)
def getD (ρ : Env) (i : Nat) : Option D := (ρ[i]?).bind Slot.d?
def putD (ρ : Env) (i : Nat) (d : D) : Env := match ρ[i]? with
 | some (.pin _) => ρ.set i (.pin d) | some (.val _) => ρ.set i (.val d) | _ => ρ
theorem Sim.get {fps : Y5} (S : Sim K F H σ ρ fps) {i : Nat} {d : D} (e : getD ρ i = some d) : ∃ v fp, σ[i]? = some (some v) ∧ fps[i]? = some fp ∧ Own K F H d v fp := by
 unfold getD at e
 cases q : ρ[i]? with
 | none => rw [q] at e; cases e
 | some s => rw [q] at e; exact S.at_ i s d q e
theorem xK {i j : Nat} {d : D} {s : Slot} {c : D} (e : (putD ρ i d)[j]? = some s) (e2 : s.d? = some c) (hi : (getD ρ i).isSome = true) : (i = j ∧ c = d) ∨ (i ≠ j ∧ ρ[j]? = some s) := by
 unfold getD at hi
 unfold putD at e
 cases q : ρ[i]? with
 | none => rw [q] at hi; cases hi
 | some t =>
  have hlt : i < ρ.length := (List.getElem?_eq_some_iff.mp q).1
  rw [q] at e hi
  cases t with
  | un => cases hi
  | val _ =>
   by_cases hj : i = j
   ·subst hj
    have e : (ρ.set i (.val d))[i]? = some s := e
    rw [List.getElem?_set_self hlt] at e; cases e; cases e2; exact .inl ⟨rfl, rfl⟩
   ·have e : (ρ.set i (.val d))[j]? = some s := e
    rw [List.getElem?_set_ne hj] at e; exact .inr ⟨hj, e⟩
  | pin _ =>
   by_cases hj : i = j
   ·subst hj
    have e : (ρ.set i (.pin d))[i]? = some s := e
    rw [List.getElem?_set_self hlt] at e; cases e; cases e2; exact .inl ⟨rfl, rfl⟩
   ·have e : (ρ.set i (.pin d))[j]? = some s := e
    rw [List.getElem?_set_ne hj] at e; exact .inr ⟨hj, e⟩
theorem jD {i : Nat} {d : D} : (putD ρ i d).length = ρ.length := by
 unfold putD
 split <;> simp
theorem wO {i : Nat} {d : D} : kD ρ (putD ρ i d) := fun j c e => by
 unfold putD
 cases q : ρ[i]? with
 | none => exact ⟨c, e⟩
 | some t =>
  have hlt : i < ρ.length := (List.getElem?_eq_some_iff.mp q).1
  cases t with
  | un => exact ⟨c, e⟩
  | val _ =>
   refine ⟨c, ?_⟩
   show (ρ.set i (.val d))[j]? = _
   have hj : i ≠ j := by rintro rfl; rw [q] at e; cases e
   rw [List.getElem?_set_ne hj]; exact e
  | pin _ =>
   by_cases hj : i = j
   ·subst hj
    exact ⟨d, by show (ρ.set i (.pin d))[i]? = _; rw [List.getElem?_set_self hlt]⟩
   ·exact ⟨c, by show (ρ.set i (.pin d))[j]? = _; rw [List.getElem?_set_ne hj]; exact e⟩
theorem Sim.mutate {fps : Y5} (S : Sim K F H σ ρ fps) {i : Nat} {d d' : D} {v : V} {fp fp' : Y2} {a : Addr} {xs : List V} (e : getD ρ i = some d) (es : σ[i]? = some (some v)) (ef : fps[i]? = some fp)
  (ha : a ∈ fp) (o : Own K F (upd H a (.lst xs)) d' v fp') (n : fp'.Nodup) (dj : ∀ b ∈ fp', b ∈ fp ∨ (b ∉ fps.flatten)) :
  Sim K F (upd H a (.lst xs)) σ (putD ρ i d') (fps.set i fp') := by
 have hz : a ∈ fps.flatten := List.mem_flatten.mpr ⟨fp, List.mem_of_getElem? ef, ha⟩
 have fa := (S.zone a hz).1
 refine ⟨fun b u q => ?_, by rw [jD]; exact S.ls, by rw [jD, List.length_set]; exact S.lf, fun j s c e1 e2 => ?_, eR S.nd ef n dj, fun b hb => ?_⟩
 ·rw [bB (bG q fa)]; exact S.same b u q
 ·rcases xK e1 e2 (by rw [e]; rfl) with ⟨rfl, rfl⟩ | ⟨hj, e3⟩
  ·exact ⟨v, fp', es, List.getElem?_set_self (List.getElem?_eq_some_iff.mp ef).1, o⟩
  ·obtain ⟨w, f, h1, h2, h3⟩ := S.at_ j s c e3 e2
   exact ⟨w, f, h1, by rw [List.getElem?_set_ne hj]; exact h2, h3.other (apart S.nd ef h2 hj ha)⟩
 ·rcases bN hb with h | h
  ·refine ⟨(S.zone b h).1, ?_⟩
   by_cases hba : b = a
   ·subst hba; rw [cD]; simp
   ·rw [bB hba]; exact (S.zone b h).2
  ·obtain ⟨q1, ys, q2⟩ := Own.zone d' o b h
   exact ⟨q1, by rw [q2]; simp⟩
theorem aG5 {a : Addr} {o : HO} (ha : a ∈ Z) (k : ∀ b ∈ Z', b ∈ Z) : Evo F H Z F (upd H a o) Z' := by
 refine ⟨aW.refl _, fun b u e hb => ?_, fun b e => ?_, fun _ _ e => .inl e, fun b hb => .inl (k b hb)⟩
 ·exact (bB (fun z : b = a => hb (by rw [z]; exact ha))).trans e
 ·by_cases hba : b = a
  ·subst hba; rw [cD] at e; cases e
  ·rw [bB hba] at e; exact e
theorem Grow.aRi (g : Grow F H F' H') (k : ∀ b ∈ Z', b ∈ Z ∨ H b = none) : Evo F H Z F' H' Z' :=
 ⟨g.fr, fun b o e _ => g.all b o e, fun _ e => g.all.free e, fun b o e => (g.new b o e).elim .inl fun h => .inr (.inl h), k⟩
theorem aG.replace : ∀ (ds : List D) {xs : List V} {fq : Y2} {j : Nat} {dj : D}, aG K F H ds xs fq → fq.Nodup → ds[j]? = some dj → ∃ vj fj, xs[j]? = some vj ∧ Own K F H dj vj fj ∧ (∀ b ∈ fj, b ∈ fq) ∧ fj.Nodup ∧
  ∀ (H' : Hp) (dj' : D) (vj' : V) (fj' : Y2), (∀ b ∈ fq, b ∉ fj → H' b = H b) → Own K F H' dj' vj' fj' → ∃ fq', aG K F H' (ds.set j dj') (xs.set j vj') fq' ∧ (∀ b ∈ fq', b ∈ fj' ∨ (b ∈ fq ∧ b ∉ fj)) ∧ (fj'.Nodup → (∀ b ∈ fj', b ∈ fj ∨ b ∉ fq) → fq'.Nodup)
 | [], _, _, _, _, _, _, e => by simp at e
 | c :: ds, xs, fq, 0, dj, h, n, e => by
  unfold aG at h
  obtain ⟨v, r, f1, f2, e1, h1, h2, e2⟩ := h
  simp at e; subst e; subst e1; subst e2
  obtain ⟨n1, n2, n3⟩ := List.nodup_append.mp n
  refine ⟨v, f1, rfl, h1, fun b hb => List.mem_append_left _ hb, n1, fun H' dj' vj' fj' k o => ?_⟩
  have h2' : aG K F H' ds r f2 := aG.keep (aW.refl _) ds (fun b hb => ⟨(aG.zone ds h2 b hb).1, k b (List.mem_append_right _ hb) fun z => n3 b z b hb rfl⟩) h2
  refine ⟨fj' ++ f2, aG.cons o h2', fun b hb => ?_, fun n4 k4 => ?_⟩
  ·rcases List.mem_append.mp hb with hb | hb
   ·exact .inl hb
   ·exact .inr ⟨List.mem_append_right _ hb, fun z => n3 b z b hb rfl⟩
  ·refine List.nodup_append.mpr ⟨n4, n2, fun a ha b hb z => ?_⟩
   subst z
   rcases k4 a ha with q | q
   ·exact n3 a q a hb rfl
   ·exact q (List.mem_append_right _ hb)
 | c :: ds, xs, fq, j + 1, dj, h, n, e => by
  unfold aG at h
  obtain ⟨v, r, f1, f2, e1, h1, h2, e2⟩ := h
  subst e1; subst e2
  obtain ⟨n1, n2, n3⟩ := List.nodup_append.mp n
  obtain ⟨vj, fj, q1, q2, q3, q5, q4⟩ := aG.replace ds (j := j) h2 n2 (by simpa using e)
  refine ⟨vj, fj, by simpa using q1, q2, fun b hb => List.mem_append_right _ (q3 b hb), q5, fun H' dj' vj' fj' k o => ?_⟩
  obtain ⟨fq', p1, p2, p3⟩ := q4 H' dj' vj' fj' (fun b hb hn => k b (List.mem_append_right _ hb) hn) o
  have h1' : Own K F H' c v f1 := Own.keep (aW.refl _) c (fun b hb => ⟨(Own.zone c h1 b hb).1, k b (List.mem_append_left _ hb) fun z => n3 b hb b (q3 b z) rfl⟩) h1
  refine ⟨f1 ++ fq', aG.cons h1' p1, fun b hb => ?_, fun n4 k4 => ?_⟩
  ·rcases List.mem_append.mp hb with hb | hb
   ·exact .inr ⟨List.mem_append_left _ hb, fun z => n3 b hb b (q3 b z) rfl⟩
   ·exact (p2 b hb).imp_right fun z => ⟨List.mem_append_right _ z.1, z.2⟩
  ·refine List.nodup_append.mpr ⟨n1, p3 n4 fun b hb => (k4 b hb).imp_right fun z y => z (List.mem_append_right _ y), fun a ha b hb z => ?_⟩
   subst z
   rcases p2 a hb with q | q
   ·rcases k4 a q with q | q
    ·exact n3 a ha a (q3 a q) rfl
    ·exact q (List.mem_append_left _ ha)
   ·exact n3 a ha a q.1 rfl
theorem Own.opened {ds : List D} {v : V} {fp : Y2} (h : Own K F H (.lst true ds) v fp) : ∃ a xs fq, v = .ref a ∧ aG K F H ds xs fq ∧ F a = none ∧ H a = some (.lst xs) ∧ fp = a :: fq := by
 unfold Own at h
 obtain ⟨a, xs, fq, e, r, w⟩ := h
 rcases w with ⟨_, w1, w2, w3⟩ | ⟨w, _⟩
 ·exact ⟨a, xs, fq, e, r, w1, w2, w3⟩
 ·cases w
theorem Own.closed {ds : List D} {a : Addr} {xs : List V} {fq : Y2} (r : aG K F H ds xs fq) (h1 : F a = none) (h2 : H a = some (.lst xs)) : Own K F H (.lst true ds) (.ref a) (a :: fq) := by
 unfold Own
 exact ⟨a, xs, fq, rfl, r, .inl ⟨rfl, h1, h2, rfl⟩⟩
theorem Sim.zone1 {fps : Y5} {i : Nat} {fp : Y2} {a : Addr} (S : Sim K F H σ ρ fps) (h2 : fps[i]? = some fp) (ha : a ∈ fp) : F a = none :=
 (S.zone a (List.mem_flatten.mpr ⟨_, List.mem_of_getElem? h2, ha⟩)).1
theorem Sim.aBl {fps : Y5} {fu : Y2} (S : Sim K F H σ ρ fps) (k3 : ∀ b ∈ fu, H b = none) : ∀ b ∈ fu, b ∉ fps.flatten := fun b hb hz => (S.zone b hz).2 (k3 b hb)
theorem eJ.mut {fps : Y5} {P : St → Hp → Prop} {i : Nat} {d d' : D} {v : V} {fp fp' fu : Y2} {a : Addr} {xs : List V} (h : eJ K F H fps.flatten ρ σ P (putD ρ i d')) (S : Sim K F H σ ρ fps) (g2 : Grow F H F1 H1) (k3 : ∀ b ∈ fu, H b = none)
  (eg : getD ρ i = some d) (h1 : σ[i]? = some (some v)) (h2 : fps[i]? = some fp) (ha : a ∈ fp) (o : Own K F1 (upd H1 a (.lst xs)) d' v fp') (n : fp'.Nodup) (dj : ∀ b ∈ fp', b ∈ fp ∨ b ∈ fu) : P σ (upd H1 a (.lst xs)) := by
 have S3 := (S.grow g2).mutate eg h1 h2 ha o n fun b hb => (dj b hb).imp_right (S.aBl k3 b)
 have ez : Evo F H fps.flatten F1 H1 (fps.flatten ++ fu) := g2.aRi fun b hb => (List.mem_append.mp hb).imp_right (k3 b)
 have hz : ∀ b ∈ fp, b ∈ fps.flatten := fun b hb => List.mem_flatten.mpr ⟨_, List.mem_of_getElem? h2, hb⟩
 refine h σ F1 _ _ (ez.trans (aG5 (List.mem_append_left _ (hz a ha)) fun b hb => ?_)) S3 (wO.pins)
 rcases bN hb with q | q
 ·exact List.mem_append_left _ q
 ·rcases dj b q with q | q
  ·exact List.mem_append_left _ (hz b q)
  ·exact List.mem_append_right _ q
def pD (d0 : D) (x : D × Bool) : Option D := match d0 with
 | .lst true ds => if aL x && decide (ds.length < 1000000) then some (.lst true (ds ++ [x.1])) else none | _ => none
def cG (i : Nat) (f : aQ) : aU := fun ρ => match f ρ with
 | .ok x => (match (getD ρ i).bind fun d => pD d x with | some d => .next (putD ρ i d) | none => .bad)
 | .exc _ => .bad | .bad => .bad
theorem uG {n : Nat} (h : n < 1000000) : n < sizeLine := Nat.lt_of_lt_of_le h (by decide)
theorem mW {x : D × Bool} {v : V} {fp : Y2} (k : aL x = true) (o : Own K F H x.1 v fp) (h : x.2 = true → ∀ b ∈ fp, H1 b = none) : ∀ b ∈ fp, H1 b = none := fun b hb => by
 unfold aL at k
 cases e : x.2 with
 | true => exact h e b hb
 | false =>
  rw [e, Bool.false_or] at k
  rw [Own.dR x.1 k o] at hb; cases hb
theorem aCi {i : Nat} {f : aQ} (h : sv K W (cG i f) D' σ H) : xB (tBM K "list" vB (xJ i) (tU (tv K f) aCh)) D' σ H := by
 obtain ⟨ρ, F, fps, S, h⟩ := h
 unfold cG at h
 cases ef : f ρ with
 | exc _ => rw [ef] at h; exact h.elim
 | bad => rw [ef] at h; exact h.elim
 | ok x =>
  rw [ef] at h
  have h : cP K W F H fps.flatten ρ σ D' (match (getD ρ i).bind fun d => pD d x with | some d => .next (putD ρ i d) | none => .bad) := h
  cases eg : getD ρ i with
  | none => rw [eg] at h; exact h.elim
  | some d0 =>
   rw [eg] at h
   have h : cP K W F H fps.flatten ρ σ D' (match pD d0 x with | some d => .next (putD ρ i d) | none => .bad) := h
   cases ek : pD d0 x with
   | none => rw [ek] at h; exact h.elim
   | some d1 =>
    rw [ek] at h
    unfold pD at ek
    split at ek <;> try cases ek
    rename_i ds
    by_cases hc : (aL x && decide (ds.length < 1000000)) = true
    ·rw [if_pos hc] at ek; cases ek
     rw [Bool.and_eq_true, decide_eq_true_iff] at hc
     obtain ⟨v, fp, h1, h2, h3⟩ := S.get eg
     obtain ⟨a, xs, fq, ev, r, w1, w2, w3⟩ := Own.opened h3
     subst ev; subst w3
     have nfp := S.sub h2
     refine ⟨.ref a, h1, .inl ⟨rfl, xs, SqL.of w2⟩, ρ, F, fps, S, ?_⟩
     rw [ef]
     intro u F2 H2 fu g2 o2 n2 k2
     have k3 := mW hc.1 o2 k2
     have S2 := S.grow g2
     have w2' := g2.all a _ w2
     refine ⟨a, xs, u, rfl, rfl, w2', uG (by rw [← aG.length ds r]; exact hc.2), ?_⟩
     have w1' := S2.zone1 h2 List.mem_cons_self
     have hau : a ∉ fu := fun z => by have := k3 a z; rw [w2] at this; cases this
     have haq : a ∉ fq := (List.nodup_cons.mp nfp).1
     have r2 : aG K F2 (upd H2 a (.lst (xs ++ [u]))) (ds ++ [x.1]) (xs ++ [u]) (fq ++ fu) := aG.append ds ((r.grow g2).other haq) (aG.one (o2.other hau))
     have hn : (a :: (fq ++ fu)).Nodup := by
      refine List.nodup_cons.mpr ⟨fun z => (List.mem_append.mp z).elim haq hau, List.nodup_append.mpr ⟨(List.nodup_cons.mp nfp).2, n2, fun p hp q hq z => ?_⟩⟩
      subst z
      exact S.aBl k3 p hq (List.mem_flatten.mpr ⟨_, List.mem_of_getElem? h2, List.mem_cons_of_mem _ hp⟩)
     refine eJ.mut h S g2 k3 eg h1 h2 List.mem_cons_self (Own.closed r2 w1' cD) hn fun b hb => ?_
     rcases List.mem_cons.mp hb with rfl | hb
     ·exact .inl List.mem_cons_self
     ·exact (List.mem_append.mp hb).imp_left fun z => List.mem_cons_of_mem _ z
    ·rw [if_neg hc] at ek; cases ek
def aB9 (d0 : D) (k : Int) (x : D × Bool) : Option D := match d0 with
 | .lst true ds => if aL x then (ixN ds.length k).map fun j => .lst true (ds.set j x.1) else none | _ => none
def dU (i : Nat) (h f : aQ) : aU := fun ρ => match f ρ with
 | .ok x => (match h ρ with
  | .ok (.int k, _) => (match (getD ρ i).bind fun d => aB9 d k x with | some d => .next (putD ρ i d) | none => .bad)
  | .ok _ => .bad | .exc _ => .bad | .bad => .bad)
 | .exc _ => .bad | .bad => .bad
theorem aKq {n : Nat} {k : Int} {j : Nat} (e : ixN n k = some j) : j < n := by
 unfold ixN at e
 split at e
 ·split at e
  ·cases e; omega
  ·cases e
 ·split at e
  ·cases e; omega
  ·cases e
theorem set_own {ds : List D} {xs : List V} {fq fu : Y2} {a : Addr} {j : Nat} {d : D} {u : V} (r : aG K F H ds xs fq) (n : (a :: fq).Nodup) (hj : j < ds.length) (w1 : F a = none) (o : Own K F H d u fu) (nu : fu.Nodup) (hau : a ∉ fu) (dju : ∀ b ∈ fu, b ∉ fq) :
  ∃ fq', Own K F (upd H a (.lst (xs.set j u))) (.lst true (ds.set j d)) (.ref a) (a :: fq') ∧ (a :: fq').Nodup ∧ ∀ b ∈ fq', b ∈ fq ∨ b ∈ fu := by
 obtain ⟨na, nq⟩ := List.nodup_cons.mp n
 obtain ⟨dj, hdj⟩ : ∃ dj, ds[j]? = some dj := ⟨ds[j], by simp [hj]⟩
 obtain ⟨vj, fj, q1, q2, q3, _, q4⟩ := aG.replace ds (r.other (a := a) (o := .lst (xs.set j u)) na) nq hdj
 obtain ⟨fq', p1, p2, p3⟩ := q4 _ d u fu (fun b _ _ => rfl) (o.other hau)
 have k : ∀ b ∈ fq', b ∈ fq ∨ b ∈ fu := fun b hb => (p2 b hb).elim .inr fun z => .inl z.1
 refine ⟨fq', Own.closed p1 w1 cD, List.nodup_cons.mpr ⟨fun z => (k a z).elim na hau, p3 nu fun b hb => .inr (dju b hb)⟩, k⟩
theorem zD {i : Nat} {h f : aQ} (hh : sv K W (dU i h f) D' σ H) : aCb (tv K f) (aMt (xJ i) (tv K h) aJb) D' σ H := by
 obtain ⟨ρ, F, fps, S, hh⟩ := hh
 unfold dU at hh
 cases ef : f ρ with
 | exc _ => rw [ef] at hh; exact hh.elim
 | bad => rw [ef] at hh; exact hh.elim
 | ok x =>
  rw [ef] at hh
  dsimp only at hh
  cases eh : h ρ with
  | exc _ => rw [eh] at hh; exact hh.elim
  | bad => rw [eh] at hh; exact hh.elim
  | ok y =>
   rw [eh] at hh
   obtain ⟨y, by'⟩ := y
   cases y <;> try exact hh.elim
   rename_i k
   dsimp only at hh
   cases eg : getD ρ i with
   | none => rw [eg] at hh; exact hh.elim
   | some d0 =>
    rw [eg] at hh
    dsimp only [Option.bind] at hh
    cases ek : aB9 d0 k x with
    | none => rw [ek] at hh; exact hh.elim
    | some d1 =>
     rw [ek] at hh
     unfold aB9 at ek
     split at ek <;> try cases ek
     rename_i ds
     by_cases hc : aL x = true
     ·rw [if_pos hc] at ek
      cases ej : ixN ds.length k with
      | none => rw [ej] at ek; cases ek
      | some j =>
       rw [ej] at ek; cases ek
       refine ⟨ρ, F, fps, S, ?_⟩
       rw [ef]
       intro u F2 H2 fu g2 o2 n2 k2
       have k3 := mW hc o2 k2
       have S2 := S.grow g2
       obtain ⟨v, fp, h1, h2, h3⟩ := S2.get eg
       refine ⟨v, h1, ρ, F2, fps, S2, ?_⟩
       rw [eh]
       intro w F3 H3 fw g3 o3 n3 k4
       unfold Own at o3
       obtain ⟨a, xs, fq, ev, r, w1, w2, w3⟩ := Own.opened (h3.grow g3)
       subst ev; subst w3
       have nfp := S.sub h2
       refine ⟨a, xs, k, j, rfl, o3.1, w2, by rw [← aG.length ds r]; exact ej, ?_⟩
       have hz : ∀ b ∈ a :: fq, b ∈ fps.flatten := fun b hb => List.mem_flatten.mpr ⟨_, List.mem_of_getElem? h2, hb⟩
       have nf := S.aBl k3
       obtain ⟨fq', p1, p2, p3⟩ := set_own r nfp (aKq ej) w1 (o2.grow g3) n2 (fun z => nf a z (hz a List.mem_cons_self)) fun b hb z => nf b hb (hz b (List.mem_cons_of_mem _ z))
       refine eJ.mut hh S (g2.trans g3) k3 eg h1 h2 List.mem_cons_self p1 p2 fun b hb => ?_
       rcases List.mem_cons.mp hb with rfl | hb
       ·exact .inl List.mem_cons_self
       ·exact (p3 b hb).imp_left fun z => List.mem_cons_of_mem _ z
     ·rw [if_neg hc] at ek; cases ek
def yD (d0 : D) (k : Int) (x : D × Bool) : Option D := match d0 with
 | .lst true ds => (ixN ds.length k).bind fun j => (ds[j]?).bind fun dj => (pD dj x).map fun d => .lst true (ds.set j d)
 | _ => none
def gQ (i : Nat) (h f : aQ) : aU := fun ρ => match h ρ with
 | .ok (.int k, _) => (match f ρ with
  | .ok x => (match (getD ρ i).bind fun d => yD d k x with | some d => .next (putD ρ i d) | none => .bad)
  | .exc _ => .bad | .bad => .bad)
 | .ok _ => .bad | .exc _ => .bad | .bad => .bad
theorem aFk {ds : List D} {xs : List V} {fq : Y2} {a : Addr} {j : Nat} {dj : D} (r : aG K F H ds xs fq) (n : (a :: fq).Nodup) (w1 : F a = none) (w2 : H a = some (.lst xs)) (hdj : ds[j]? = some dj) :
  ∃ vj fj, xs[j]? = some vj ∧ Own K F H dj vj fj ∧ (∀ b ∈ fj, b ∈ fq) ∧ fj.Nodup ∧ ∀ (b : Addr) (ys : List V) (dj' : D) (fj' fu : Y2), b ∈ fj → Own K F (upd H b (.lst ys)) dj' vj fj' → fj'.Nodup → (∀ c ∈ fj', c ∈ fj ∨ c ∈ fu) → (∀ c ∈ fu, c ∉ a :: fq) →
   ∃ fq', Own K F (upd H b (.lst ys)) (.lst true (ds.set j dj')) (.ref a) (a :: fq') ∧ (a :: fq').Nodup ∧ ∀ c ∈ fq', c ∈ fq ∨ c ∈ fu := by
 obtain ⟨na, nq⟩ := List.nodup_cons.mp n
 obtain ⟨vj, fj, q1, q2, q3, q5, q4⟩ := aG.replace ds r nq hdj
 refine ⟨vj, fj, q1, q2, q3, q5, ?_⟩
 ·intro b ys dj' fj' fu hb o nj k1 k2
  obtain ⟨fq', p1, p2, p3⟩ := q4 _ dj' vj fj' (fun c hc hn => bB fun z => hn (z ▸ hb)) o
  have hx : xs.set j vj = xs := by
   apply List.ext_getElem?
   intro m
   by_cases hm : j = m
   ·subst hm; rw [q1, List.getElem?_set_self (List.getElem?_eq_some_iff.mp q1).1]
   ·rw [List.getElem?_set_ne hm]
  rw [hx] at p1
  have hab : a ≠ b := fun z => na (q3 a (z ▸ hb))
  have k : ∀ c ∈ fq', c ∈ fq ∨ c ∈ fu := fun c hc => by
   rcases p2 c hc with q | q
   ·exact (k1 c q).imp_left (q3 c)
   ·exact .inl q.1
  refine ⟨fq', Own.closed p1 w1 (by rw [bB hab]; exact w2), List.nodup_cons.mpr ⟨fun z => ?_, p3 nj fun c hc => (k1 c hc).imp_right fun q z => k2 c q (List.mem_cons_of_mem _ z)⟩, k⟩
  rcases k a z with q | q
  ·exact na q
  ·exact k2 a q List.mem_cons_self
theorem aHb {α : Type} {xs : List α} {k : Int} {j : Nat} {v : α} (e : ixN xs.length k = some j) (h : xs[j]? = some v) : atI xs k = some v := by
 unfold atI; rw [e]; exact h
theorem xF {i : Nat} {h f : aQ} (hh : sv K W (gQ i h f) D' σ H) : xB (tBM K "list" vB (tOp (aJl K) (xJ i) (tv K h)) (tU (tv K f) aCh)) D' σ H := by
 obtain ⟨ρ, F, fps, S, hh⟩ := hh
 unfold gQ at hh
 cases eh : h ρ with
 | exc _ => rw [eh] at hh; exact hh.elim
 | bad => rw [eh] at hh; exact hh.elim
 | ok y =>
  rw [eh] at hh
  obtain ⟨y, by'⟩ := y
  cases y <;> try exact hh.elim
  rename_i k
  dsimp only at hh
  cases ef : f ρ with
  | exc _ => rw [ef] at hh; exact hh.elim
  | bad => rw [ef] at hh; exact hh.elim
  | ok x =>
   rw [ef] at hh
   dsimp only at hh
   cases eg : getD ρ i with
   | none => rw [eg] at hh; exact hh.elim
   | some d0 =>
    rw [eg] at hh
    dsimp only [Option.bind] at hh
    cases ek : yD d0 k x with
    | none => rw [ek] at hh; exact hh.elim
    | some d1 =>
     rw [ek] at hh
     unfold yD at ek
     split at ek <;> try cases ek
     rename_i ds
     cases ej : ixN ds.length k with
     | none => rw [ej] at ek; cases ek
     | some j =>
      rw [ej] at ek
      dsimp only [Option.bind] at ek
      cases edj : ds[j]? with
      | none => rw [edj] at ek; cases ek
      | some dj =>
       rw [edj] at ek
       dsimp only at ek
       cases ea : pD dj x with
       | none => rw [ea] at ek; cases ek
       | some dn =>
        rw [ea] at ek; cases ek
        unfold pD at ea
        split at ea <;> try cases ea
        rename_i es
        by_cases hc : (aL x && decide (es.length < 1000000)) = true
        ·rw [if_pos hc] at ea; cases ea
         rw [Bool.and_eq_true, decide_eq_true_iff] at hc
         obtain ⟨v, fp, h1, h2, h3⟩ := S.get eg
         refine ⟨v, h1, ρ, F, fps, S, ?_⟩
         rw [eh]
         intro w F2 H2 fw g2 o2 n2 k2
         unfold Own at o2
         obtain ⟨a, xs, fq, ev, r, w1, w2, w3⟩ := Own.opened (h3.grow g2)
         subst ev; subst w3
         have nfp := S.sub h2
         have S2 := S.grow g2
         obtain ⟨vj, fj, q1, q2, q3, q5, q4⟩ := aFk r nfp w1 w2 edj
         obtain ⟨b, ys, fr, eb, rb, b1, b2, b3⟩ := Own.opened q2
         subst eb; subst b3
         refine ⟨a, xs, k, .ref b, rfl, o2.1, SqL.of w2, aHb (by rw [← aG.length ds r]; exact ej) q1, .inl ⟨rfl, ys, SqL.of b2⟩, ρ, F2, fps, S2, ?_⟩
         rw [ef]
         intro u F3 H3 fu g3 o3 n3 k3
         have k3 := mW hc.1 o3 k3
         have nf := S2.aBl k3
         have hz : ∀ c ∈ a :: fq, c ∈ fps.flatten := fun c hb => List.mem_flatten.mpr ⟨_, List.mem_of_getElem? h2, hb⟩
         obtain ⟨vj', fj', p1, p2, p3, p5, p4⟩ := aFk (r.grow g3) nfp ((S2.grow g3).zone1 h2 List.mem_cons_self) (g3.all _ _ w2) edj
         have evj : vj' = .ref b := by rw [q1] at p1; exact (Option.some.inj p1).symm
         subst evj
         obtain ⟨b', ys', fr', eb', rb', b1', b2', b3'⟩ := Own.opened p2
         cases eb'
         subst b3'
         have eys : ys' = ys := by
          have := g3.all _ _ b2
          rw [b2'] at this
          cases this; rfl
         subst eys
         have nfj := List.nodup_cons.mp p5
         have hb0 : b ∈ fq := p3 b List.mem_cons_self
         have hbu : b ∉ fu := fun z => nf b z (hz b (List.mem_cons_of_mem _ hb0))
         refine ⟨b, ys', u, rfl, rfl, b2', uG (by rw [← aG.length es rb']; exact hc.2), ?_⟩
         have rb2 : aG K F3 (upd H3 b (.lst (ys' ++ [u]))) (es ++ [x.1]) (ys' ++ [u]) (fr' ++ fu) := aG.append es (rb'.other nfj.1) (aG.one (o3.other hbu))
         have hn : (b :: (fr' ++ fu)).Nodup := by
          refine List.nodup_cons.mpr ⟨fun z => (List.mem_append.mp z).elim nfj.1 hbu, List.nodup_append.mpr ⟨nfj.2, n3, fun p hp q hq z => ?_⟩⟩
          subst z
          exact nf p hq (hz p (List.mem_cons_of_mem _ (p3 p (List.mem_cons_of_mem _ hp))))
         obtain ⟨fq', s1, s2, s3⟩ := p4 b (ys' ++ [u]) (.lst true (es ++ [x.1])) (b :: (fr' ++ fu)) fu List.mem_cons_self (Own.closed rb2 b1' cD) hn (fun c hc => by
          rcases List.mem_cons.mp hc with rfl | hc
          ·exact .inl List.mem_cons_self
          ·exact (List.mem_append.mp hc).imp_left fun z => List.mem_cons_of_mem _ z) fun c hc z => nf c hc (hz c z)
         refine eJ.mut (fu := fu) hh S (g2.trans g3) (fun c hc => g2.all.free (k3 c hc)) eg h1 h2 (List.mem_cons_of_mem _ hb0) s1 s2 fun c hc => ?_
         rcases List.mem_cons.mp hc with rfl | hc
         ·exact .inl List.mem_cons_self
         ·exact (s3 c hc).imp_left fun z => List.mem_cons_of_mem _ z
        ·rw [if_neg hc] at ea; cases ea
def frz1 (ρ : Env) (i : Nat) : Env := match getD ρ i with | some d => putD ρ i d.frz | none => ρ
def mU (is : T0) (g : aU) : aU := fun ρ => g (is.foldl frz1 ρ)
theorem Sim.frz1 {fps : Y5} (S : Sim K F H σ ρ fps) (i : Nat) : ∃ F' fps', Sim K F' H σ (VL.frz1 ρ i) fps' ∧ Evo F H fps.flatten F' H fps'.flatten ∧ kD ρ (VL.frz1 ρ i) := by
 unfold VL.frz1
 cases e : getD ρ i with
 | none => exact ⟨F, fps, S, .refl, kD.refl _⟩
 | some d =>
  obtain ⟨v, fp, h1, h2, h3⟩ := S.get e
  have hz : ∀ b ∈ fp, b ∈ fps.flatten := fun b hb => List.mem_flatten.mpr ⟨_, List.mem_of_getElem? h2, hb⟩
  have z : ∀ b ∈ fp, F b = none := fun b hb => (S.zone b (hz b hb)).1
  have hsub : ∀ b ∈ (fps.set i []).flatten, b ∈ fps.flatten ∧ b ∉ fp := by
   intro b hb
   refine ⟨(bN hb).elim id (fun q => by cases q), fun q => ?_⟩
   obtain ⟨l, hl, hbl⟩ := List.mem_flatten.mp hb
   obtain ⟨j, hj⟩ := List.mem_iff_getElem?.mp hl
   by_cases hij : i = j
   ·subst hij
    rw [List.getElem?_set_self (List.getElem?_eq_some_iff.mp h2).1] at hj; cases hj; cases hbl
   ·rw [List.getElem?_set_ne hij] at hj
    exact apart S.nd h2 hj hij q hbl
  refine ⟨eX F H fp, fps.set i [], ⟨nX S.same, by rw [jD]; exact S.ls, by rw [jD, List.length_set]; exact S.lf, fun j s c e1 e2 => ?_, eR S.nd h2 List.nodup_nil (fun b hb => by cases hb), fun b hb => ?_⟩, ⟨eS z, fun _ _ e _ => e, fun _ e => e, fun b o e => ?_, fun b hb => .inl (hsub b hb).1⟩, wO⟩
  ·rcases xK e1 e2 (by rw [e]; rfl) with ⟨rfl, rfl⟩ | ⟨hj, e3⟩
   ·exact ⟨v, [], h1, List.getElem?_set_self (List.getElem?_eq_some_iff.mp h2).1, Own.freeze z d (fun a ha => ha) h3⟩
   ·obtain ⟨w, f, q1, q2, q3⟩ := S.at_ j s c e3 e2
    refine ⟨w, f, q1, by rw [List.getElem?_set_ne hj]; exact q2, Own.keep (eS z) c (fun a ha => ⟨?_, rfl⟩) q3⟩
    unfold eX
    rw [if_neg fun q => apart S.nd h2 q2 hj q ha]
    exact (Own.zone c q3 a ha).1
  ·obtain ⟨q1, q2⟩ := hsub b hb
   refine ⟨?_, (S.zone b q1).2⟩
   unfold eX; rw [if_neg q2]; exact (S.zone b q1).1
  ·unfold eX at e
   split at e
   ·rename_i hb; exact .inr (.inr (hz b hb))
   ·exact .inl e
theorem Sim.frzs (is : T0) : ∀ {ρ : Env} {F : Hp} {fps : Y5}, Sim K F H σ ρ fps → ∃ F' fps', Sim K F' H σ (is.foldl VL.frz1 ρ) fps' ∧ Evo F H fps.flatten F' H fps'.flatten ∧ kD ρ (is.foldl VL.frz1 ρ) := by
 induction is with
 | nil => intro ρ F fps S; exact ⟨F, fps, S, .refl, kD.refl _⟩
 | cons i is ih =>
  intro ρ F fps S
  obtain ⟨F1, fps1, S1, e1, p1⟩ := S.frz1 i
  obtain ⟨F2, fps2, S2, e2, p2⟩ := ih S1
  exact ⟨F2, fps2, S2, e1.trans e2, p1.trans p2⟩
theorem aLb {is : T0} {g : aU} (h : sv K W (mU is g) D' σ H) : sv K W g D' σ H := by
 obtain ⟨ρ, F, fps, S, h⟩ := h
 obtain ⟨F1, fps1, S1, e1, p1⟩ := Sim.frzs is S
 exact ⟨_, F1, fps1, S1, cP.lift e1 p1.pins h⟩
def iW (i : Nat) : aU := fun ρ => match ρ[i]? with
 | some (.val d) => .ret d (ρ.set i .un) | some (.pin d) => if d.calm then .ret d ρ else .bad | _ => .bad
theorem aGi {i : Nat} (h : sv K W (iW i) D' σ H) : aK2 (xJ i) D' σ H := by
 obtain ⟨ρ, F, fps, S, h⟩ := h
 unfold iW at h
 cases e : ρ[i]? with
 | none => rw [e] at h; exact h.elim
 | some s =>
  rw [e] at h
  cases s with
  | un => exact h.elim
  | pin d =>
   have h : cP K W F H fps.flatten ρ σ D' (if d.calm = true then .ret d ρ else .bad) := h
   by_cases hc : d.calm = true
   ·rw [if_pos hc] at h
    obtain ⟨v, fp, h1, h2, h3⟩ := S.at_ i _ d e rfl
    have := Own.dR d hc h3
    subst this
    exact ⟨v, h1, h v σ F H fps [] .refl S (fJ.refl _ _) h3 List.nodup_nil fun b hb => by cases hb⟩
   ·rw [if_neg hc] at h; exact h.elim
  | val d =>
   obtain ⟨v, fp, h1, h2, h3⟩ := S.at_ i _ d e rfl
   have hz : ∀ b ∈ fp, b ∈ fps.flatten := fun b hb => List.mem_flatten.mpr ⟨_, List.mem_of_getElem? h2, hb⟩
   have hlt : i < ρ.length := (List.getElem?_eq_some_iff.mp e).1
   have hsub : ∀ b ∈ (fps.set i []).flatten, b ∈ fps.flatten ∧ b ∉ fp := by
    intro b hb
    refine ⟨(bN hb).elim id (fun q => by cases q), fun q => ?_⟩
    obtain ⟨l, hl, hbl⟩ := List.mem_flatten.mp hb
    obtain ⟨j, hj⟩ := List.mem_iff_getElem?.mp hl
    by_cases hij : i = j
    ·subst hij
     rw [List.getElem?_set_self (List.getElem?_eq_some_iff.mp h2).1] at hj; cases hj; cases hbl
    ·rw [List.getElem?_set_ne hij] at hj
     exact apart S.nd h2 hj hij q hbl
   refine ⟨v, h1, h v σ F H (fps.set i []) fp ⟨aW.refl _, fun _ _ e _ => e, fun _ e => e, fun _ _ e => .inl e, fun b hb => .inl (hsub b hb).1⟩ ⟨S.same, by simp [S.ls], by simp [S.lf], fun j s c e1 e2 => ?_, eR S.nd h2 List.nodup_nil (fun b hb => by cases hb), fun b hb => S.zone b (hsub b hb).1⟩ (fun j c e1 => ?_) h3 (S.sub h2) fun b hb => ⟨fun q => (hsub b q).2 hb, .inl (hz b hb)⟩⟩
   ·by_cases hij : i = j
    ·subst hij
     rw [List.getElem?_set_self hlt] at e1; cases e1; cases e2
    ·rw [List.getElem?_set_ne hij] at e1
     obtain ⟨w, f, q1, q2, q3⟩ := S.at_ j s c e1 e2
     exact ⟨w, f, q1, by rw [List.getElem?_set_ne hij]; exact q2, q3⟩
   ·have hij : i ≠ j := by rintro rfl; rw [e] at e1; cases e1
    exact ⟨⟨c, by rw [List.getElem?_set_ne hij]; exact e1⟩, rfl⟩
def uT (i : Nat) (op : Int → Int → Int) (f : aQ) : aU := fun ρ => match getD ρ i with
 | some (.int a) => (match f ρ with
  | .ok (.int b, _) => if free ρ i then .next (ρ.set i (.val (.int (op a b)))) else .bad
  | .ok _ => .bad | .exc _ => .bad | .bad => .bad)
 | _ => .bad
theorem aL1 {i : Nat} {op : Int → Int → Int} {f : aQ} (h : sv K W (uT i op f) D' σ H) : aM7 i (tv K f) (ipI op) D' σ H := by
 obtain ⟨ρ, F, fps, S, h⟩ := h
 unfold uT at h
 cases eg : getD ρ i with
 | none => rw [eg] at h; exact h.elim
 | some d =>
  rw [eg] at h
  cases d <;> try exact h.elim
  rename_i a
  obtain ⟨v, fp, h1, h2, h3⟩ := S.get eg
  unfold Own at h3
  refine ⟨v, h1, ρ, F, fps, S, ?_⟩
  dsimp only at h
  cases ef : f ρ with
  | exc _ => rw [ef] at h; exact h.elim
  | bad => rw [ef] at h; exact h.elim
  | ok y =>
   rw [ef] at h
   obtain ⟨y, by'⟩ := y
   cases y <;> try exact h.elim
   rename_i b
   intro u F1 H1 fu g1 o1 n1 k1
   unfold Own at o1
   refine ⟨a, b, h3.1, o1.1, ?_⟩
   have h : cP K W F H fps.flatten ρ σ D' (if free ρ i = true then .next (ρ.set i (.val (.int (op a b)))) else .bad) := h
   by_cases hc : free ρ i = true
   ·rw [if_pos hc] at h
    have S1 := (S.grow g1).store (i := i) (fY (K := K) (F := F1) (H := H1) (d := .int (op a b)) rfl) List.nodup_nil fun b hb => by cases hb
    exact h _ F1 H1 _ (aAo (g1.evo (Z := fps.flatten)) fun b hb => by cases hb) S1 (nJ hc)
   ·rw [if_neg hc] at h; exact h.elim
end
end VL
end
section
namespace VL
open PySem L2
section
variable {K : FG} {W : XW} {F H F' H' F1 H1 : Hp} {Z Z' Z1 : Y2} {σ σ1 : St} {ρ ρ1 : Env} {D' : Ends}
abbrev Fn := List D → R (D × List D)
def yM (K : FG) (F H : Hp) (ds : List D) (vs : List V) (fps : Y5) : Prop :=
 ds.length = vs.length ∧ fps.length = ds.length ∧ ∀ (i : Nat) (d : D), ds[i]? = some d → ∃ v fp, vs[i]? = some v ∧ fps[i]? = some fp ∧ Own K F H d v fp
def aNx (K : FG) (F H : Hp) (vs : List V) (Z : Y2) (Q : VK) (x : D × List D) : Prop :=
 ∀ r F' H' fps' fr, Evo F H Z F' H' fps'.flatten → aW F' H' → yM K F' H' x.2 vs fps' → fps'.flatten.Nodup → Own K F' H' x.1 r fr → fr.Nodup → (∀ b ∈ fr, b ∉ fps'.flatten ∧ (b ∈ Z ∨ H b = none)) → Q r H'
def oZ (K : FG) (c : Str) (C : Addr) : Prop := PySem.W.nsIn K mainGlobals c = some (some (.ref C))
def FX (K : FG) (F H : Hp) (Z : Y2) (E : XK) (c : Str) : Prop :=
 ∀ F' H' Z', Evo F H Z F' H' Z' → aW F' H' → ∀ C, oZ K c C → E (.ref C) none H'
def wOf (K : FG) (E : XK) : XW := fun c _ H' => ∀ C, oZ K c C → E (.ref C) none H'
def spV (K : FG) (n : Nat) (fn : Fn) : Sp := fun vs H Q E => vs.length = n ∧ ∃ F ds fps, aW F H ∧ yM K F H ds vs fps ∧ fps.flatten.Nodup ∧ (∀ b ∈ fps.flatten, F b = none ∧ H b ≠ none) ∧ (fn ds).hx (aNx K F H vs fps.flatten Q) (FX K F H fps.flatten E)
def entry (n : Nat) (ds : List D) : Env := ds.map (fun d => if d.calm then Slot.val d else .pin d) ++ List.replicate (n - ds.length) .un
def outs : List D → Env → List D
 | [], _ => []
 | d :: ds, s :: ρ => (if d.calm then d else match s with | .pin d' => d' | _ => d) :: outs ds ρ
 | d :: ds, [] => d :: outs ds []
def fnOf (n : Nat) (body : aU) : Fn := fun ds => match body (entry n ds) with
 | .ret d ρ' => .ok (d, outs ds ρ') | .next ρ' => .ok (.non, outs ds ρ') | .exc c _ => .exc c | _ => .bad
theorem qN : ∀ (ds : List D) (ρ : Env) (i : Nat) (d : D), (outs ds ρ)[i]? = some d → ∃ c, ds[i]? = some c ∧ d = (if c.calm then c else match ρ[i]? with | some (.pin d') => d' | _ => c)
 | [], _, _, _, e => by simp [outs] at e
 | c :: ds, s :: ρ, 0, d, e => by
  simp [outs] at e
  refine ⟨c, rfl, ?_⟩
  subst e
  cases c.calm <;> cases s <;> rfl
 | c :: ds, s :: ρ, i + 1, d, e => by
  simp [outs] at e
  obtain ⟨c', h1, h2⟩ := qN ds ρ i d e
  exact ⟨c', by simpa using h1, by simpa using h2⟩
 | c :: ds, [], 0, d, e => by
  simp [outs] at e
  refine ⟨c, rfl, ?_⟩
  subst e
  cases c.calm <;> rfl
 | c :: ds, [], i + 1, d, e => by
  simp [outs] at e
  obtain ⟨c', h1, h2⟩ := qN ds [] i d e
  exact ⟨c', by simpa using h1, by simpa using h2⟩
theorem nU : ∀ (ds : List D) (ρ : Env), (outs ds ρ).length = ds.length
 | [], _ => rfl
 | d :: ds, s :: ρ => by simp [outs, nU ds ρ]
 | d :: ds, [] => by simp [outs, nU ds []]
theorem entry_get {n : Nat} {ds : List D} {i : Nat} {s : Slot} {d : D} (e : (entry n ds)[i]? = some s) (e2 : s.d? = some d) : ds[i]? = some d ∧ (s = if d.calm then Slot.val d else .pin d) := by
 unfold entry at e
 by_cases hi : i < ds.length
 ·rw [List.getElem?_append_left (by simpa using hi), List.getElem?_map] at e
  rw [List.getElem?_eq_getElem hi] at e ⊢
  have e : (if (ds[i]).calm = true then Slot.val ds[i] else .pin ds[i]) = s := Option.some.inj e
  subst e
  cases hc : (ds[i]).calm
  ·rw [hc] at e2; cases e2; exact ⟨rfl, by rw [hc]⟩
  ·rw [hc] at e2; cases e2; exact ⟨rfl, by rw [hc]⟩
 ·rw [List.getElem?_append_right (by simpa using hi), List.getElem?_replicate] at e
  split at e
  ·cases e; cases e2
  ·cases e
theorem yM.sim {n : Nat} {N : List Str} {ds : List D} {vs : List V} {fps : Y5} (hN : N.length = n) (hn : vs.length ≤ n) (hs : aW F H) (o : yM K F H ds vs fps) (nd : fps.flatten.Nodup) (zo : ∀ b ∈ fps.flatten, F b = none ∧ H b ≠ none) :
  Sim K F H (L2.start N vs) (entry n ds) (fps ++ List.replicate (n - ds.length) []) := by
 obtain ⟨l1, l2, h⟩ := o
 have hfl : (fps ++ List.replicate (n - ds.length) ([] : Y2)).flatten = fps.flatten := by simp
 refine ⟨hs, ?_, ?_, fun i s d e1 e2 => ?_, by rw [hfl]; exact nd, fun b hb => by rw [hfl] at hb; exact zo b hb⟩
 ·unfold L2.start entry; simp; omega
 ·unfold entry; simp; omega
 ·obtain ⟨e3, _⟩ := entry_get e1 e2
  obtain ⟨v, fp, q1, q2, q3⟩ := h i d e3
  have hi : i < vs.length := (List.getElem?_eq_some_iff.mp q1).1
  refine ⟨v, fp, ?_, ?_, q3⟩
  ·unfold L2.start
   rw [List.getElem?_append_left (by simpa using hi), List.getElem?_map, q1]; rfl
  ·rw [List.getElem?_append_left (by omega)]; exact q2
theorem aDw {n : Nat} {N : List Str} {ds : List D} {vs : List V} {fps fps' : Y5} {σ' : St} {ρ' : Env} (hn : vs.length ≤ n) (o : yM K F H ds vs fps)
  (ev : Evo F H fps.flatten F' H' fps'.flatten) (S : Sim K F' H' σ' ρ' fps') (p : fJ (entry n ds) (L2.start N vs) ρ' σ') :
  ∃ fps2, yM K F' H' (outs ds ρ') vs fps2 ∧ fps2.flatten.Sublist fps'.flatten := by
 obtain ⟨l1, l2, h⟩ := o
 have pick : ∀ (k : Nat), k ≤ ds.length → ∃ fps2 : Y5, fps2.length = k ∧ fps2.flatten.Sublist (fps'.take k).flatten ∧ ∀ (i : Nat) (c : D), i < k → ds[i]? = some c → fps2[i]? = some (if c.calm then [] else (fps'[i]?).getD []) := by
  intro k
  induction k with
  | zero => intro _; exact ⟨[], rfl, by simp, fun i c hi => by omega⟩
  | succ k ih =>
   intro hk
   obtain ⟨f2, e1, e2, e3⟩ := ih (by omega)
   obtain ⟨c, hc⟩ : ∃ c, ds[k]? = some c := ⟨ds[k], by simp⟩
   refine ⟨f2 ++ [if c.calm then [] else (fps'[k]?).getD []], by simp [e1], ?_, fun i c' hi hc' => ?_⟩
   ·rw [List.flatten_append, List.take_add_one, List.flatten_append]
    refine List.Sublist.append e2 ?_
    cases hcc : c.calm
    ·cases q : fps'[k]? <;> simp
    ·simp
   ·by_cases hik : i < k
    ·rw [List.getElem?_append_left (by omega)]; exact e3 i c' hik hc'
    ·have : i = k := by omega
     subst this
     rw [hc] at hc'; cases hc'
     rw [List.getElem?_append_right (by omega), e1]; simp
 obtain ⟨f2, e1, e2, e3⟩ := pick ds.length (Nat.le_refl _)
 refine ⟨f2, ⟨by rw [nU]; exact l1, by rw [nU]; exact e1, fun i d hd => ?_⟩, e2.trans ?_⟩
 ·obtain ⟨c, hc, hd2⟩ := qN ds ρ' i d hd
  obtain ⟨v, fp, q1, q2, q3⟩ := h i c hc
  have hi : i < ds.length := (List.getElem?_eq_some_iff.mp hc).1
  refine ⟨v, _, q1, e3 i c hi hc, ?_⟩
  cases hcc : c.calm with
  | true =>
   rw [hcc] at hd2
   simp only [if_true] at hd2 ⊢
   subst hd2
   have := Own.dR d hcc q3
   subst this
   exact Own.keep ev.fr d (fun a ha => by cases ha) q3
  | false =>
   rw [hcc] at hd2
   have en : (entry n ds)[i]? = some (.pin c) := by
    unfold entry
    rw [List.getElem?_append_left (by simpa using hi), List.getElem?_map, hc]
    show some (if c.calm = true then Slot.val c else .pin c) = _
    rw [hcc]; rfl
   obtain ⟨⟨d', hp⟩, es⟩ := p i c en
   rw [hp] at hd2
   simp only [Bool.false_eq_true, if_false] at hd2 ⊢
   subst hd2
   obtain ⟨w, f, s1, s2, s3⟩ := S.at_ i _ d hp rfl
   rw [s2]
   have ew : (L2.start N vs)[i]? = some (some v) := by
    unfold L2.start
    have hiv : i < vs.length := (List.getElem?_eq_some_iff.mp q1).1
    rw [List.getElem?_append_left (by simpa using hiv), List.getElem?_map, q1]; rfl
   rw [es, ew] at s1
   cases s1
   exact s3
 ·have e : fps'.flatten = (fps'.take ds.length).flatten ++ (fps'.drop ds.length).flatten := by rw [← List.flatten_append, List.take_append_drop]
  rw [e]; exact List.sublist_append_left _ _
theorem aIl {n : Nat} {N : List Str} {body : aU} {vs : List V} {k : Nat} {Q : VK} {E : XK} (hN : N.length = n) (hk : k ≤ n) (h : spV K k (fnOf n body) vs H Q E) : sv K (wOf K E) body { nx := fun _ H' => Q .non H', rt := Q } (L2.start N vs) H := by
 obtain ⟨lk, F, ds, fps, hs, o, nd, zo, h⟩ := h
 have hn : vs.length ≤ n := by omega
 have hfl : (fps ++ List.replicate (n - ds.length) ([] : Y2)).flatten = fps.flatten := by simp
 refine ⟨entry n ds, F, _, o.sim hN hn hs nd zo, ?_⟩
 rw [hfl]
 unfold fnOf at h
 cases e : body (entry n ds) with
 | next ρ' =>
  rw [e] at h
  intro σ' F' H' fps' ev S p
  obtain ⟨f2, o2, sb⟩ := aDw hn o ev S p
  have hz : ∀ b ∈ f2.flatten, b ∈ fps'.flatten := fun b hb => sb.subset hb
  exact h .non F' H' f2 [] ⟨ev.fr, ev.keep, ev.dom, ev.new, fun b hb => ev.zone b (hz b hb)⟩ S.same o2 (sb.nodup S.nd) (fY rfl) List.nodup_nil fun b hb => by cases hb
 | ret d ρ' =>
  rw [e] at h
  intro r σ' F' H' fps' fr ev S p od nr kr
  obtain ⟨f2, o2, sb⟩ := aDw hn o ev S p
  have hz : ∀ b ∈ f2.flatten, b ∈ fps'.flatten := fun b hb => sb.subset hb
  exact h r F' H' f2 fr ⟨ev.fr, ev.keep, ev.dom, ev.new, fun b hb => ev.zone b (hz b hb)⟩ S.same o2 (sb.nodup S.nd) od nr fun b hb => ⟨fun z => (kr b hb).1 (hz b z), (kr b hb).2⟩
 | brk _ => rw [e] at h; exact h.elim
 | cont _ => rw [e] at h; exact h.elim
 | exc c ρ' =>
  rw [e] at h
  exact fun σ' F' H' fps' ev S p => h F' H' fps'.flatten ev S.same
 | bad => rw [e] at h; exact h.elim
theorem Args.ice : ∀ (xs : List (D × Bool)) {vs : List V} {fa : Y2}, Args K F H xs vs fa → ∃ U : Y2, (∀ b ∈ U, F b = none) ∧ (xs.all aL = true → ∀ b ∈ U, b ∈ fa) ∧ ∀ U' : Y2, (∀ b ∈ U, b ∈ U') → (∀ b ∈ U', F b = none) → aG K (eX F H U') H (D.frzs (xs.map (·.1))) vs []
 | [], vs, fa, h => by
  unfold Args at h
  refine ⟨[], by simp, by simp, fun U' _ _ => ?_⟩
  rw [h.1]; exact aG.nil
 | x :: xs, vs, fa, h => by
  unfold Args at h
  obtain ⟨v, r, fp, f2, e, o, n, t, w⟩ := h
  obtain ⟨U, u1, u2, u3⟩ := Args.ice xs t
  refine ⟨fp ++ U, fun b hb => (List.mem_append.mp hb).elim (fun z => (Own.zone x.1 o b z).1) (u1 b), fun hk b hb => ?_, fun U' s1 s2 => ?_⟩
  ·rw [List.all_cons, Bool.and_eq_true] at hk
   have k2 := u2 hk.2
   rcases w with ⟨_, w⟩ | ⟨e2, w⟩
   ·subst w
    exact (List.mem_append.mp hb).elim (fun z => List.mem_append_left _ z) fun z => List.mem_append_right _ (k2 b z)
   ·subst w
    have hc : x.1.calm = true := by have := hk.1; unfold aL at this; rw [e2] at this; exact this
    rw [Own.dR x.1 hc o] at hb
    exact k2 b hb
  ·rw [e, List.map_cons, D.frzs]
   have a := Own.freeze s2 x.1 (fun b hb => s1 b (List.mem_append_left _ hb)) o
   have b := u3 U' (fun b hb => s1 b (List.mem_append_right _ hb)) s2
   exact aG.cons a b
theorem lL {ds : List D} {vs : List V} (o : aG K F H ds vs []) : yM K F H ds vs (List.replicate ds.length []) := by
 refine ⟨aG.length ds o, by simp, fun i d hd => ?_⟩
 obtain ⟨v, f, q1, q2, q3⟩ := aG.get ds o hd
 have : f = [] := List.sublist_nil.mp q3
 subst this
 exact ⟨v, [], q1, by rw [List.getElem?_replicate, if_pos (List.getElem?_eq_some_iff.mp hd).1], q2⟩
def isScal (d : D) : Bool := (iC d).isSome
def bC (fn : Fn) (g : dC) : aQ := fun ρ => (g ρ).bind fun xs => (fn (D.frzs (xs.map (·.1)))).bind fun y => if xs.all aL || isScal y.1 then .ok (y.1, true) else .bad
theorem aHi {fn : Fn} {g : dC} {n : Nat} {Q : VK} (hl : ∀ ρ xs, g ρ = .ok xs → xs.length = n) (h : tv K (bC fn g) σ H Q) : aEd (spV K n fn) [] E0 (tvA K g) σ H Q := by
 obtain ⟨ρ, F, fps, S, h⟩ := h
 unfold bC at h
 refine ⟨ρ, F, fps, S, ?_⟩
 cases eg : g ρ with
 | exc _ => rw [eg] at h; exact h.elim
 | bad => rw [eg] at h; exact h.elim
 | ok xs =>
  rw [eg] at h
  have h := R.aP.mp h
  have h := R.aP.mp (show ((fn (D.frzs (xs.map (·.1)))).bind _).holds _ from h)
  intro vs F1 H1 fa g1 a1 n1 k1
  obtain ⟨U, u1, u2, u3⟩ := Args.ice xs a1
  have o := u3 U (fun b hb => hb) u1
  have len : vs.length = n := by rw [← Args.length xs a1]; exact hl ρ xs eg
  rw [List.append_nil]
  refine ⟨len, eX F1 H1 U, _, _, nX g1.inn, lL o, by simp, by simp, R.aJf (R.aO h fun y hy r F2 H2 fps2 fr ev hs2 o2 nd2 or nr kr => ?_)⟩
  have same : aW H1 H2 := fun b o e => ev.keep b o e (by simp)
  by_cases hk : xs.all aL = true
  ·have hfa := u2 hk
   rw [hk, Bool.true_or, if_pos rfl] at hy
   have gU : Grow F H (eX F1 H1 U) H1 := g1.frz (fun b hb => k1 b (hfa b hb)) u1
   have g2 : Grow (eX F1 H1 U) H1 F2 H2 := ⟨ev.fr, same, hs2, fun b o e => (ev.new b o e).elim .inl fun q => q.elim .inr fun q => by simp at q⟩
   refine hy r F2 H2 fr (gU.trans g2) or nr fun _ b hb => ?_
   rcases (kr b hb).2 with q | q
   ·simp at q
   ·exact g1.all.free q
  ·by_cases hsc : isScal y.1 = true
   ·rw [hsc, Bool.or_true, if_pos rfl] at hy
    unfold isScal at hsc
    cases es : iC y.1 with
    | none => rw [es] at hsc; cases hsc
    | some v =>
     obtain ⟨e1, e2⟩ := uP es or
     subst e1
     have gS : Grow F1 H1 F1 H2 := ⟨aW.refl _, same, g1.inn.trans same, fun _ _ e => .inl e⟩
     exact EPost.eN (g1.trans gS) hy es
   ·have : (xs.all aL || isScal y.1) = false := by
     rw [Bool.eq_false_iff]; intro z
     rcases Bool.or_eq_true _ _ ▸ z with z | z
     ·exact hk z
     ·exact hsc z
    rw [this] at hy; exact hy.elim
def wE (K : FG) (W : XW) (σ : St) : XK := fun v _ H' => ∃ c C, v = .ref C ∧ oZ K c C ∧ W c σ H'
def aEt (sp : Sp) (E : St → XK) (t : TA) : TE := fun σ H Q => t σ H fun vs H1 => sp (vs ++ []) H1 Q (E σ)
def dS (fn : Fn) (g : dC) : kG := fun ρ => match g ρ with
 | .ok xs => (match fn (D.frzs (xs.map (·.1))) with
  | .ok y => if xs.all aL || isScal y.1 then .ok (y.1, true, ρ) else .bad
  | .exc c => .exc c | .bad => .bad)
 | _ => .bad
theorem aH6 {fn : Fn} {g : dC} {n : Nat} {Q : VK} (hl : ∀ ρ xs, g ρ = .ok xs → xs.length = n) (h : tx K W (dS fn g) σ H Q) : aEt (spV K n fn) (wE K W) (tvA K g) σ H Q := by
 obtain ⟨ρ, F, fps, S, h⟩ := h
 unfold dS at h
 refine ⟨ρ, F, fps, S, ?_⟩
 cases eg : g ρ with
 | exc _ => rw [eg] at h; exact h.elim
 | bad => rw [eg] at h; exact h.elim
 | ok xs =>
  rw [eg] at h
  dsimp only at h
  intro vs F1 H1 fa g1 a1 n1 k1
  obtain ⟨U, u1, u2, u3⟩ := Args.ice xs a1
  have o := u3 U (fun b hb => hb) u1
  have len : vs.length = n := by rw [← Args.length xs a1]; exact hl ρ xs eg
  rw [List.append_nil]
  refine ⟨len, eX F1 H1 U, _, _, nX g1.inn, lL o, by simp, by simp, ?_⟩
  cases ef : fn (D.frzs (xs.map (·.1))) with
  | bad => rw [ef] at h; exact h.elim
  | exc c =>
   rw [ef] at h
   have h : eJ K F H fps.flatten ρ σ (W c) ρ := h
   intro F2 H2 Z2 ev hs2 C hC
   have same : aW H1 H2 := fun b o e => ev.keep b o e (by simp)
   have gS : Grow F1 H1 F1 H2 := ⟨aW.refl _, same, g1.inn.trans same, fun _ _ e => .inl e⟩
   exact ⟨c, C, rfl, hC, h σ F1 H2 fps (g1.trans gS).evo (S.grow (g1.trans gS)) (fJ.refl _ _)⟩
  | ok y =>
   rw [ef] at h
   have h : ((if (xs.all aL || isScal y.1) = true then R.ok (y.1, true, ρ) else R.bad) : R (D × Bool × Env)).hx (qI K F H fps.flatten ρ σ Q) (fun c => eJ K F H fps.flatten ρ σ (W c) ρ) := h
   intro r F2 H2 fps2 fr ev hs2 o2 nd2 or nr kr
   have same : aW H1 H2 := fun b o e => ev.keep b o e (by simp)
   by_cases hk : xs.all aL = true
   ·have hfa := u2 hk
    rw [hk, Bool.true_or, if_pos rfl] at h
    have hy : qI K F H fps.flatten ρ σ Q (y.1, true, ρ) := h
    have gU : Grow F H (eX F1 H1 U) H1 := g1.frz (fun b hb => k1 b (hfa b hb)) u1
    have g2 : Grow (eX F1 H1 U) H1 F2 H2 := ⟨ev.fr, same, hs2, fun b o e => (ev.new b o e).elim .inl fun q => q.elim .inr fun q => by simp at q⟩
    have g3 := gU.trans g2
    refine hy r F2 H2 fps fr g3.evo (S.grow g3) (kD.refl _) or nr fun _ b hb => ?_
    have hn : H b = none := by
     rcases (kr b hb).2 with q | q
     ·simp at q
     ·exact g1.all.free q
    exact ⟨fun hz => (S.zone b hz).2 hn, .inr hn⟩
   ·by_cases hsc : isScal y.1 = true
    ·rw [hsc, Bool.or_true, if_pos rfl] at h
     have hy : qI K F H fps.flatten ρ σ Q (y.1, true, ρ) := h
     unfold isScal at hsc
     cases es : iC y.1 with
     | none => rw [es] at hsc; cases hsc
     | some v =>
      obtain ⟨e1, e2⟩ := uP es or
      subst e1
      have gS : Grow F1 H1 F1 H2 := ⟨aW.refl _, same, g1.inn.trans same, fun _ _ e => .inl e⟩
      exact hy _ F1 H2 fps [] (g1.trans gS).evo (S.grow (g1.trans gS)) (kD.refl _) (fY es) List.nodup_nil fun _ b hb => by cases hb
    ·have : (xs.all aL || isScal y.1) = false := by
      rw [Bool.eq_false_iff]; intro z
      rcases Bool.or_eq_true _ _ ▸ z with z | z
      ·exact hk z
      ·exact hsc z
     rw [this] at h; exact h.elim
def mD : T0 → TA
 | [] => aCh
 | i :: is => tU (xJ i) (mD is)
def gT : T0 → Env → Option (List D)
 | [], _ => some []
 | i :: is, ρ => (getD ρ i).bind fun d => (gT is ρ).map (d :: ·)
def cE : T0 → List D → List D → Env → Env
 | i :: is, c :: cs, d :: ds, ρ => cE is cs ds (if c.calm then ρ else putD ρ i d)
 | _, _, _, ρ => ρ
def iU : T0 → Bool
 | [] => true
 | i :: is => !is.contains i && iU is
def lU (fn : Fn) (is : T0) : kG := fun ρ => match gT is ρ with
 | some ds => if iU is then (match fn ds with | .ok y => .ok (y.1, true, cE is ds y.2 ρ) | _ => .bad) else .bad
 | none => .bad
theorem nodup_of_apart {L : Y5} (h1 : ∀ (i : Nat) (f : Y2), L[i]? = some f → f.Nodup) (h2 : ∀ (i j : Nat) (f g : Y2) (a : Addr), L[i]? = some f → L[j]? = some g → i ≠ j → a ∈ f → a ∉ g) : L.flatten.Nodup := by
 induction L with
 | nil => simp
 | cons f r ih =>
  rw [List.flatten_cons]
  refine List.nodup_append.mpr ⟨h1 0 f rfl, ih (fun i g e => h1 (i + 1) g (by simpa using e)) (fun i j p q a e1 e2 ne => h2 (i + 1) (j + 1) p q a (by simpa using e1) (by simpa using e2) (by omega)), fun a ha b hb z => ?_⟩
  subst z
  obtain ⟨l, hl, hal⟩ := List.mem_flatten.mp hb
  obtain ⟨j, hj⟩ := List.mem_iff_getElem?.mp hl
  exact h2 0 (j + 1) f l a rfl (by simpa using hj) (by omega) ha hal
def eU : T0 → List D → Y5 → Y5 → Y5
 | i :: is, c :: cs, f :: fs, L => eU is cs fs (if c.calm then L else L.set i f)
 | _, _, _, L => L
theorem rO {i : Nat} {is : T0} (h : iU (i :: is) = true) : i ∉ is ∧ iU is = true := by
 unfold iU at h
 rw [Bool.and_eq_true, Bool.not_eq_true'] at h
 refine ⟨fun z => ?_, h.2⟩
 have := List.contains_iff_mem.mpr z
 rw [h.1] at this; cases this
theorem qO : ∀ (is : T0) {cs ds : List D} {ρ : Env} {j : Nat}, j ∉ is → (cE is cs ds ρ)[j]? = ρ[j]?
 | [], _, _, _, _, _ => by unfold cE; rfl
 | i :: is, [], _, _, _, _ => by unfold cE; rfl
 | i :: is, c :: cs, [], _, _, _ => by unfold cE; rfl
 | i :: is, c :: cs, d :: ds, ρ, j, h => by
  unfold cE
  rw [qO is fun z => h (List.mem_cons_of_mem _ z)]
  split
  ·rfl
  ·have hij : i ≠ j := fun z => h (by rw [z]; exact List.mem_cons_self)
   unfold putD
   split
   ·rw [List.getElem?_set_ne hij]
   ·rw [List.getElem?_set_ne hij]
   ·rfl
theorem sW : ∀ (is : T0) {cs : List D} {fs L : Y5} {j : Nat}, j ∉ is → (eU is cs fs L)[j]? = L[j]?
 | [], _, _, _, _, _ => by unfold eU; rfl
 | i :: is, [], _, _, _, _ => by unfold eU; rfl
 | i :: is, c :: cs, [], _, _, _ => by unfold eU; rfl
 | i :: is, c :: cs, d :: ds, ρ, j, h => by
  unfold eU
  rw [sW is fun z => h (List.mem_cons_of_mem _ z)]
  split
  ·rfl
  ·have hij : i ≠ j := fun z => h (by rw [z]; exact List.mem_cons_self)
   rw [List.getElem?_set_ne hij]
theorem pS : ∀ (is : T0) {cs ds : List D} {ρ : Env}, (cE is cs ds ρ).length = ρ.length
 | [], _, _, _ => by unfold cE; rfl
 | i :: is, [], _, _ => by unfold cE; rfl
 | i :: is, c :: cs, [], _ => by unfold cE; rfl
 | i :: is, c :: cs, d :: ds, ρ => by
  unfold cE
  rw [pS is]
  split
  ·rfl
  ·exact jD
theorem tO : ∀ (is : T0) {cs : List D} {fs L : Y5}, (eU is cs fs L).length = L.length
 | [], _, _, _ => by unfold eU; rfl
 | i :: is, [], _, _ => by unfold eU; rfl
 | i :: is, c :: cs, [], _ => by unfold eU; rfl
 | i :: is, c :: cs, d :: ds, ρ => by
  unfold eU
  rw [tO is]
  split
  ·rfl
  ·simp
theorem wN : ∀ (is : T0) {cs ds : List D} {fs L : Y5} {ρ : Env} (j : Nat), iU is = true → cs.length = is.length → ds.length = is.length → fs.length = is.length → gT is ρ = some cs → L.length = ρ.length →
  (∃ (k : Nat) (c d : D) (f : Y2) (s : Slot), is[k]? = some j ∧ cs[k]? = some c ∧ c.calm = false ∧ ds[k]? = some d ∧ fs[k]? = some f ∧ ρ[j]? = some s ∧ (cE is cs ds ρ)[j]? = some (match s with | .pin _ => .pin d | _ => .val d) ∧ (eU is cs fs L)[j]? = some f) ∨
  ((∀ (k : Nat) (c : D), is[k]? = some j → cs[k]? = some c → c.calm = true) ∧ (cE is cs ds ρ)[j]? = ρ[j]? ∧ (eU is cs fs L)[j]? = L[j]?)
 | [], cs, ds, fs, L, ρ, j, _, _, _, _, _, _ => .inr ⟨fun k c e => by simp at e, by unfold cE; rfl, by unfold eU; rfl⟩
 | i :: is, c :: cs, d :: ds, f :: fs, L, ρ, j, hn, h1, h2, h3, hg, hl => by
  obtain ⟨hi, hn2⟩ := rO hn
  unfold gT at hg
  cases eg : getD ρ i with
  | none => rw [eg] at hg; cases hg
  | some c' =>
   rw [eg] at hg
   cases eg2 : gT is ρ with
   | none => rw [eg2] at hg; cases hg
   | some cs' =>
    rw [eg2] at hg
    have hg : some (c' :: cs') = some (c :: cs) := hg
    cases hg
    unfold cE eU
    by_cases hj : i = j
    ·subst hj
     rw [qO is hi, sW is hi]
     cases hc : c.calm with
     | true =>
      refine .inr ⟨fun k b e1 e2 => ?_, by simp, by simp⟩
      cases k with
      | zero => simp at e2; subst e2; exact hc
      | succ k => exact absurd (List.mem_of_getElem? (by simpa using e1)) hi
     | false =>
      obtain ⟨s, hs⟩ : ∃ s, ρ[i]? = some s := by
       unfold getD at eg
       cases q : ρ[i]? with
       | none => rw [q] at eg; cases eg
       | some s => exact ⟨s, rfl⟩
      have hlt : i < ρ.length := (List.getElem?_eq_some_iff.mp hs).1
      refine .inl ⟨0, c, d, f, s, rfl, rfl, hc, rfl, rfl, hs, ?_, ?_⟩
      ·simp only [Bool.false_eq_true, if_false]
       unfold putD
       unfold getD at eg
       rw [hs] at eg ⊢
       cases s with
       | un => cases eg
       | val _ => exact List.getElem?_set_self hlt
       | pin _ => exact List.getElem?_set_self hlt
      ·simp only [Bool.false_eq_true, if_false]
       exact List.getElem?_set_self (by omega)
    ·have st : ∀ (ρ2 : Env) (L2 : Y5), ρ2[j]? = ρ[j]? → L2[j]? = L[j]? → gT is ρ2 = some cs → L2.length = ρ2.length →
       ((∃ (k : Nat) (c₁ d₁ : D) (f₁ : Y2) (s : Slot), (i :: is)[k]? = some j ∧ (c :: cs)[k]? = some c₁ ∧ c₁.calm = false ∧ (d :: ds)[k]? = some d₁ ∧ (f :: fs)[k]? = some f₁ ∧ ρ[j]? = some s ∧ (cE is cs ds ρ2)[j]? = some (match s with | .pin _ => .pin d₁ | _ => .val d₁) ∧ (eU is cs fs L2)[j]? = some f₁) ∨
       ((∀ (k : Nat) (c₁ : D), (i :: is)[k]? = some j → (c :: cs)[k]? = some c₁ → c₁.calm = true) ∧ (cE is cs ds ρ2)[j]? = ρ[j]? ∧ (eU is cs fs L2)[j]? = L[j]?)) := by
      intro ρ2 L2 q1 q2 q3 q4
      rcases wN is (L := L2) (ds := ds) (fs := fs) j hn2 (by simpa using h1) (by simpa using h2) (by simpa using h3) q3 q4 with ⟨k, a1, a2, a3, a4, b1, b2, b3, b4, b5, b6, b7, b8⟩ | ⟨b1, b2, b3⟩
      ·exact .inl ⟨k + 1, a1, a2, a3, a4, by simpa using b1, by simpa using b2, b3, by simpa using b4, by simpa using b5, q1 ▸ b6, b7, b8⟩
      ·refine .inr ⟨fun k a e1 e2 => ?_, b2.trans q1, b3.trans q2⟩
       cases k with
       | zero => simp at e1; exact absurd e1 hj
       | succ k => exact b1 k a (by simpa using e1) (by simpa using e2)
     cases hc : c.calm with
     | true => simpa only [if_true] using st ρ L rfl rfl eg2 hl
     | false =>
      simp only [Bool.false_eq_true, if_false]
      refine st _ _ ?_ (List.getElem?_set_ne hj) ?_ (by rw [jD, List.length_set]; exact hl)
      ·unfold putD
       split
       ·rw [List.getElem?_set_ne hj]
       ·rw [List.getElem?_set_ne hj]
       ·rfl
      ·rw [← eg2]
       exact getDs_put is hi
 | _ :: _, [], _, _, _, _, _, _, h, _, _, _, _ => by simp at h
 | _ :: _, _ :: _, [], _, _, _, _, _, _, h, _, _, _ => by simp at h
 | _ :: _, _ :: _, _ :: _, [], _, _, _, _, _, _, h, _, _ => by simp at h
where
 getDs_put : ∀ (is : T0) {ρ : Env} {i : Nat} {d : D}, i ∉ is → gT is (putD ρ i d) = gT is ρ
 | [], _, _, _, _ => rfl
 | k :: is, ρ, i, d, h => by
  unfold gT
  rw [getDs_put is fun z => h (List.mem_cons_of_mem _ z)]
  have hik : i ≠ k := fun z => h (by rw [z]; exact List.mem_cons_self)
  have : getD (putD ρ i d) k = getD ρ k := by
   unfold getD putD
   split
   ·rw [List.getElem?_set_ne hik]
   ·rw [List.getElem?_set_ne hik]
   ·rfl
  rw [this]
end
end VL
end
section
namespace VL
open PySem L2
section
variable {K : FG} {W : XW} {F H F' H' F1 H1 : Hp} {Z Z' Z1 : Y2} {σ σ1 : St} {ρ ρ1 : Env} {D' : Ends}
theorem uB {fps : Y5} (S : Sim K F H σ ρ fps) : ∀ (is : T0) {ds : List D}, gT is ρ = some ds → ∃ vs : List V, (∀ P : List V → Hp → Prop, P vs H → mD is σ H P) ∧ vs.length = is.length ∧ ds.length = is.length ∧
  (∀ (k : Nat) (d : D), ds[k]? = some d → ∃ i v fp, is[k]? = some i ∧ vs[k]? = some v ∧ σ[i]? = some (some v) ∧ fps[i]? = some fp ∧ Own K F H d v fp)
 | [], ds, e => by
  unfold gT at e; cases e
  exact ⟨[], fun P h => h, rfl, rfl, fun k d e => by simp at e⟩
 | i :: is, ds, e => by
  unfold gT at e
  cases eg : getD ρ i with
  | none => rw [eg] at e; cases e
  | some d =>
   rw [eg] at e
   cases eg2 : gT is ρ with
   | none => rw [eg2] at e; cases e
   | some ds2 =>
    rw [eg2] at e
    have e : some (d :: ds2) = some ds := e
    cases e
    obtain ⟨vs, h1, h2, h3, h4⟩ := uB S is eg2
    obtain ⟨v, fp, q1, q2, q3⟩ := S.get eg
    refine ⟨v :: vs, fun P h => ⟨v, q1, h1 _ h⟩, by simp [h2], by simp [h3], fun k c ec => ?_⟩
    cases k with
    | zero => simp at ec; subst ec; exact ⟨i, v, fp, rfl, rfl, q1, q2, q3⟩
    | succ k => simpa using h4 k c (by simpa using ec)
theorem aC6 {fn : Fn} {is : T0} {n : Nat} {Q : VK} (hn : is.length = n) (h : tx K W (lU fn is) σ H Q) : aEd (spV K n fn) [] E0 (mD is) σ H Q := by
 obtain ⟨ρ, F, fps, S, h⟩ := h
 unfold lU at h
 cases eg : gT is ρ with
 | none => rw [eg] at h; exact h.elim
 | some ds =>
  rw [eg] at h
  have h : (if iU is = true then (match fn ds with | .ok y => R.ok (y.1, true, cE is ds y.2 ρ) | _ => .bad) else R.bad).hx (qI K F H fps.flatten ρ σ Q) (fun c => eJ K F H fps.flatten ρ σ (W c) ρ) := h
  by_cases hnd : iU is = true
  ·rw [if_pos hnd] at h
   have h : (fn ds).holds fun y => qI K F H fps.flatten ρ σ Q (y.1, true, cE is ds y.2 ρ) := by
    cases ef : fn ds with
    | ok y => rw [ef] at h; exact h
    | exc _ => rw [ef] at h; exact h.elim
    | bad => rw [ef] at h; exact h.elim
   obtain ⟨vs, t1, l1, l2, g⟩ := uB S is eg
   refine t1 _ ?_
   show spV K n fn (vs ++ []) H Q E0
   rw [List.append_nil]
   let fc : Y5 := is.map fun i => (fps[i]?).getD []
   have fcg : ∀ (k i : Nat), is[k]? = some i → fc[k]? = some ((fps[i]?).getD []) := fun k i e => by
    show (is.map _)[k]? = _
    rw [List.getElem?_map, e]; rfl
   have isget : ∀ (k : Nat) (f : Y2), fc[k]? = some f → ∃ i, is[k]? = some i ∧ f = (fps[i]?).getD [] := fun k f e => by
    have e : (is.map fun i => (fps[i]?).getD [])[k]? = some f := e
    rw [List.getElem?_map] at e
    cases q : is[k]? with
    | none => rw [q] at e; cases e
    | some i => rw [q] at e; exact ⟨i, rfl, (Option.some.inj e).symm⟩
   have nodupget : ∀ (is : T0), iU is = true → ∀ (k k' i : Nat), is[k]? = some i → is[k']? = some i → k = k' := by
    intro is
    induction is with
    | nil => intro _ k k' i e; simp at e
    | cons a r ih =>
     intro hn k k' i e1 e2
     obtain ⟨q1, q2⟩ := rO hn
     cases k with
     | zero =>
      simp at e1; subst e1
      cases k' with
      | zero => rfl
      | succ k' => exact absurd (List.mem_of_getElem? (by simpa using e2)) q1
     | succ k =>
      cases k' with
      | zero => simp at e2; subst e2; exact absurd (List.mem_of_getElem? (by simpa using e1)) q1
      | succ k' => rw [ih q2 k k' i (by simpa using e1) (by simpa using e2)]
   have infc : ∀ b ∈ fc.flatten, ∃ k i f, is[k]? = some i ∧ fps[i]? = some f ∧ b ∈ f := fun b hb => by
    obtain ⟨l, hl, hbl⟩ := List.mem_flatten.mp hb
    obtain ⟨k, hk⟩ := List.mem_iff_getElem?.mp hl
    obtain ⟨i, e1, e2⟩ := isget k l hk
    cases q : fps[i]? with
    | none => rw [q] at e2; subst e2; cases hbl
    | some f => rw [q] at e2; subst e2; exact ⟨k, i, _, e1, q, hbl⟩
   have sub : ∀ b ∈ fc.flatten, b ∈ fps.flatten := fun b hb => by
    obtain ⟨k, i, f, _, e, hb⟩ := infc b hb
    exact List.mem_flatten.mpr ⟨f, List.mem_of_getElem? e, hb⟩
   have fcn : fc.flatten.Nodup := by
    refine nodup_of_apart (fun k f e => ?_) fun k k' f f' a e1 e2 ne ha => ?_
    ·obtain ⟨i, _, q⟩ := isget k f e
     cases q2 : fps[i]? with
     | none => rw [q2] at q; subst q; exact List.nodup_nil
     | some g => rw [q2] at q; subst q; exact S.sub q2
    ·obtain ⟨i, p1, q1⟩ := isget k f e1
     obtain ⟨i', p2, q2⟩ := isget k' f' e2
     have ne2 : i ≠ i' := fun z => ne (nodupget is hnd k k' i p1 (by rw [z]; exact p2))
     cases r1 : fps[i]? with
     | none => rw [r1] at q1; subst q1; cases ha
     | some g =>
      rw [r1] at q1; subst q1
      cases r2 : fps[i']? with
      | none => rw [r2] at q2; subst q2; intro z; cases z
      | some g' => rw [r2] at q2; subst q2; exact apart S.nd r1 r2 ne2 ha
   refine ⟨by omega, F, ds, fc, S.same, ⟨by omega, by show (is.map _).length = _; simp [l2], fun k d e => ?_⟩, fcn, fun b hb => S.zone b (sub b hb), R.aJf (R.aO h fun y hy r F' H' fps' fr ev hs o2 nd2 or nr kr => ?_)⟩
   ·obtain ⟨i, v, fp, q1, q2, q3, q4, q5⟩ := g k d e
    exact ⟨v, fp, q2, by rw [fcg k i q1, q4]; rfl, q5⟩
   ·have ly : y.2.length = is.length := by rw [o2.1, l1]
    have lf' : fps'.length = is.length := by rw [o2.2.1, ly]
    have BG := fun j => wN is (ds := y.2) (fs := fps') (L := fps) j hnd l2 ly lf' eg S.lf
    have away : ∀ (j : Nat) (f : Y2) (a : Addr), (∀ (k : Nat) (c : D), is[k]? = some j → ds[k]? = some c → c.calm = true) → fps[j]? = some f → a ∈ f → a ∉ fc.flatten := fun j f a hc hf ha hz => by
     obtain ⟨k, i, f', e1, e2, hb⟩ := infc a hz
     by_cases hij : i = j
     ·subst hij
      obtain ⟨c, ec⟩ : ∃ c, ds[k]? = some c := ⟨ds[k]'(by rw [l2]; exact (List.getElem?_eq_some_iff.mp e1).1), by simp⟩
      obtain ⟨i', v, fp, q1, q2, q3, q4, q5⟩ := g k c ec
      rw [e1] at q1; cases q1
      rw [hf] at q4; cases q4
      rw [Own.dR c (hc k c e1 ec) q5] at ha; cases ha
     ·exact apart S.nd e2 hf hij hb ha
    have still : ∀ (j : Nat) (f : Y2) (a : Addr), (∀ (k : Nat) (c : D), is[k]? = some j → ds[k]? = some c → c.calm = true) → fps[j]? = some f → a ∈ f → F' a = none ∧ H' a = H a := fun j f a hc hf ha => by
     have hn := away j f a hc hf ha
     obtain ⟨z1, z2⟩ := S.zone a (List.mem_flatten.mpr ⟨f, List.mem_of_getElem? hf, ha⟩)
     constructor
     ·cases q : F' a with
      | none => rfl
      | some o =>
       rcases ev.new a o q with w | w | w
       ·rw [z1] at w; cases w
       ·exact absurd w z2
       ·exact absurd w hn
     ·cases q : H a with
      | none => exact absurd q z2
      | some o => exact ev.keep a o q hn
    have slotOf : ∀ (j : Nat) (f : Y2), (eU is ds fps' fps)[j]? = some f → (∃ k, is[k]? = some j ∧ fps'[k]? = some f) ∨ ((∀ (k : Nat) (c : D), is[k]? = some j → ds[k]? = some c → c.calm = true) ∧ fps[j]? = some f) := fun j f e => by
     rcases BG j with ⟨k, c, d, f', s, b1, b2, b3, b4, b5, b6, b7, b8⟩ | ⟨b1, b2, b3⟩
     ·rw [b8] at e; cases e; exact .inl ⟨k, b1, b5⟩
     ·rw [b3] at e; exact .inr ⟨b1, e⟩
    have inN : ∀ b ∈ (eU is ds fps' fps).flatten, b ∈ fps'.flatten ∨ ∃ (j : Nat) (f : Y2), (∀ (k : Nat) (c : D), is[k]? = some j → ds[k]? = some c → c.calm = true) ∧ fps[j]? = some f ∧ b ∈ f := fun b hb => by
     obtain ⟨l, hl, hbl⟩ := List.mem_flatten.mp hb
     obtain ⟨j, hj⟩ := List.mem_iff_getElem?.mp hl
     rcases slotOf j l hj with ⟨k, _, q⟩ | ⟨q1, q2⟩
     ·exact .inl (List.mem_flatten.mpr ⟨l, List.mem_of_getElem? q, hbl⟩)
     ·exact .inr ⟨j, l, q1, q2, hbl⟩
    have cross : ∀ (j : Nat) (f : Y2) (a : Addr), (∀ (k : Nat) (c : D), is[k]? = some j → ds[k]? = some c → c.calm = true) → fps[j]? = some f → a ∈ f → (a ∈ fc.flatten ∨ H a = none) → False := fun j f a hc hf ha w => by
     rcases w with w | w
     ·exact away j f a hc hf ha w
     ·exact (S.zone a (List.mem_flatten.mpr ⟨f, List.mem_of_getElem? hf, ha⟩)).2 w
    refine hy r F' H' (eU is ds fps' fps) fr ⟨ev.fr, fun b o e hb => ev.keep b o e fun z => hb (sub b z), ev.dom, fun b o e => ?_, fun b hb => ?_⟩ ⟨hs, by rw [pS]; exact S.ls, by rw [tO, pS]; exact S.lf, fun j s d e1 e2 => ?_, nodup_of_apart (fun j f e => ?_) fun j j' f f' a e1 e2 ne ha => ?_, fun b hb => ?_⟩ (fun j d e => ?_) or nr fun _ b hb => ⟨fun z => ?_, (kr b hb).2.imp_left (sub b)⟩
    ·rcases ev.new b o e with w | w | w
     ·exact .inl w
     ·exact .inr (.inl w)
     ·exact .inr (.inr (sub b w))
    ·rcases inN b hb with w | ⟨j, f, _, w2, w3⟩
     ·exact (ev.zone b w).imp_left (sub b)
     ·exact .inl (List.mem_flatten.mpr ⟨f, List.mem_of_getElem? w2, w3⟩)
    ·rcases BG j with ⟨k, c, d', f', s', b1, b2, b3, b4, b5, b6, b7, b8⟩ | ⟨b1, b2, b3⟩
     ·have e1' : (cE is ds y.2 ρ)[j]? = some s := e1
      rw [b7] at e1'
      have ed : d = d' := by
       have e1' := Option.some.inj e1'
       subst e1'
       cases s' <;> exact (Option.some.inj e2).symm
      subst ed
      obtain ⟨v, fp, q1, q2, q3⟩ := o2.2.2 k d b4
      rw [b5] at q2; cases q2
      obtain ⟨i', v', fp', p1, p2, p3, p4, p5⟩ := g k c b2
      rw [b1] at p1; cases p1
      rw [p2] at q1; cases q1
      exact ⟨_, _, p3, b8, q3⟩
     ·have e1' : (cE is ds y.2 ρ)[j]? = some s := e1
      rw [b2] at e1'
      obtain ⟨v, f, q1, q2, q3⟩ := S.at_ j s d e1' e2
      exact ⟨v, f, q1, by rw [b3]; exact q2, Own.keep ev.fr d (fun a ha => still j f a b1 q2 ha) q3⟩
    ·rcases slotOf j f e with ⟨k, _, q⟩ | ⟨_, q⟩
     ·exact (List.sublist_flatten_of_mem (List.mem_of_getElem? q)).nodup nd2
     ·exact S.sub q
    ·rcases slotOf j f e1 with ⟨k, p, q⟩ | ⟨p, q⟩
     ·rcases slotOf j' f' e2 with ⟨k', p', q'⟩ | ⟨p', q'⟩
      ·have nk : k ≠ k' := fun z => ne (by subst z; rw [p] at p'; exact Option.some.inj p')
       exact apart nd2 q q' nk ha
      ·intro hb
       exact cross j' f' a p' q' hb (ev.zone a (List.mem_flatten.mpr ⟨f, List.mem_of_getElem? q, ha⟩))
     ·rcases slotOf j' f' e2 with ⟨k', p', q'⟩ | ⟨p', q'⟩
      ·intro hb
       exact cross j f a p q ha (ev.zone a (List.mem_flatten.mpr ⟨f', List.mem_of_getElem? q', hb⟩))
      ·exact apart S.nd q q' ne ha
    ·rcases inN b hb with w | ⟨j, f, w1, w2, w3⟩
     ·obtain ⟨l, hl, hbl⟩ := List.mem_flatten.mp w
      obtain ⟨k, hk⟩ := List.mem_iff_getElem?.mp hl
      obtain ⟨d, hd⟩ : ∃ d, y.2[k]? = some d := ⟨y.2[k]'(by rw [← o2.2.1]; exact (List.getElem?_eq_some_iff.mp hk).1), by simp⟩
      obtain ⟨v, fp, q1, q2, q3⟩ := o2.2.2 k d hd
      rw [hk] at q2; cases q2
      obtain ⟨z1, xs, z2⟩ := Own.zone d q3 b hbl
      exact ⟨z1, by rw [z2]; simp⟩
     ·obtain ⟨z1, z2⟩ := still j f b w1 w2 w3
      exact ⟨z1, by rw [z2]; exact (S.zone b (List.mem_flatten.mpr ⟨f, List.mem_of_getElem? w2, w3⟩)).2⟩
    ·show ∃ d', (cE is ds y.2 ρ)[j]? = some (.pin d')
     rcases BG j with ⟨k, c, d', f', s', b1, b2, b3, b4, b5, b6, b7, b8⟩ | ⟨b1, b2, b3⟩
     ·rw [e] at b6; cases b6
      exact ⟨d', b7⟩
     ·exact ⟨d, by rw [b2]; exact e⟩
    ·rcases inN b z with w | ⟨j, f, w1, w2, w3⟩
     ·exact (kr b hb).1 w
     ·exact cross j f b w1 w2 w3 (kr b hb).2
  ·rw [if_neg hnd] at h; exact h.elim
end
end VL
end
section
namespace VL
open PySem L2
section
variable {K : FG} {F H F' H' F1 H1 : Hp} {σ : St} {Q : VK}
def aIs (K : FG) : R2 := fun x y H Q => ∃ l b xs zs, x = .ref l ∧ y = .ref b ∧ Rd H l (.lst xs) ∧ Rd H b (.lst zs) ∧ xs.length + zs.length ≤ sizeLine ∧ ∀ p, H p = none → Q (.ref p) (upd H p (.lst (xs ++ zs)))
def aJv : D × Bool → D × Bool → R (D × Bool) := fun x y => match x.1, y.1 with
 | .lst _ ds, .lst _ es => if D.bK ds && D.bK es && decide (ds.length + es.length ≤ 1000000) then .ok (.lst true (ds ++ es), true) else .bad
 | _, _ => .bad
theorem EPost.aCy {F0 H0 : Hp} {ds : List D} {xs : List V} {p : Addr} (g : Grow F0 H0 F H) (h : EPost K F0 H0 Q (.lst true ds, true)) (hp : H p = none) (o : aG K F H ds xs []) : Q (.ref p) (upd H p (.lst xs)) :=
 h (.ref p) F _ [p] (g.trans (Grow.one g.inn hp)) (aAq g.inn hp o) (by simp) fun _ b hb => by
  have : b = p := by simpa using hb
  subst this; exact g.all.free hp
theorem EPost.aRh {F0 H0 : Hp} {ds : List D} {xs : List V} {p : Addr} {b : Bool} (g : Grow F0 H0 F H) (h : EPost K F0 H0 Q (.tup ds, b)) (hp : H p = none) (o : aG K F H ds xs []) : Q (.ref p) (upd H p (.tup xs)) := by
 have g2 : Grow F H (upd F p (.tup xs)) (upd H p (.tup xs)) := Grow.both g.inn hp
 refine h (.ref p) _ _ [] (g.trans g2) ?_ List.nodup_nil fun _ b hb => by cases hb
 unfold Own
 exact ⟨rfl, p, xs, rfl, SqT.of cD, o.grow g2⟩
theorem aGe : Op2 K aJv (aIs K) := by
 intro F0 H0 F H x y v u fx fy Q gr o1 n1 k1 o2 n2 k2 h
 obtain ⟨x, bx⟩ := x
 obtain ⟨y, by'⟩ := y
 cases x <;> try exact h.elim
 cases y <;> try exact h.elim
 rename_i o ds o' es
 have h : (if (D.bK ds && D.bK es && decide (ds.length + es.length ≤ 1000000)) = true then R.ok (D.lst true (ds ++ es), true) else R.bad).holds (EPost K F0 H0 Q) := h
 by_cases hc : (D.bK ds && D.bK es && decide (ds.length + es.length ≤ 1000000)) = true
 ·rw [if_pos hc] at h
  simp only [Bool.and_eq_true, decide_eq_true_iff] at hc
  obtain ⟨a, xs, fq, e1, q1, r1, _⟩ := Own.aH7 gr.inn o1
  obtain ⟨b, zs, fr, e2, q2, r2, _⟩ := Own.aH7 gr.inn o2
  have := aG.dR ds hc.1.1 r1
  subst this
  have := aG.dR es hc.1.2 r2
  subst this
  refine ⟨a, b, xs, zs, e1, e2, q1, q2, ?_, fun p hp => EPost.aCy gr h hp (aG.append ds r1 r2)⟩
  rw [← aG.length ds r1, ← aG.length es r2]; exact gG hc.2
 ·rw [if_neg hc] at h; exact h.elim
def aDn : D × Bool → D × Bool → R (D × Bool) := fun x y => match x.1, y.1 with
 | .tup (d :: ds), .tup es => if decide (ds.length + 1 + es.length ≤ 1000000) then .ok (.tup (d :: ds ++ es), true) else .bad
 | _, _ => .bad
theorem aD3 : Op2 K aDn (aI7 K) := by
 intro F0 H0 F H x y v u fx fy Q gr o1 n1 k1 o2 n2 k2 h
 obtain ⟨x, bx⟩ := x
 obtain ⟨y, by'⟩ := y
 cases x <;> try exact h.elim
 rename_i ds
 cases ds with
 | nil => exact h.elim
 | cons d ds =>
  cases y <;> try exact h.elim
  rename_i es
  have h : (if decide (ds.length + 1 + es.length ≤ 1000000) = true then R.ok (D.tup (d :: ds ++ es), true) else R.bad).holds (EPost K F0 H0 Q) := h
  by_cases hc : decide (ds.length + 1 + es.length ≤ 1000000) = true
  ·rw [if_pos hc] at h
   rw [decide_eq_true_iff] at hc
   obtain ⟨a, xs, e1, q1, r1, _⟩ := Own.tup gr.inn o1
   obtain ⟨b, zs, e2, q2, r2, _⟩ := Own.tup gr.inn o2
   have l1 := aG.length _ r1
   have l2 := aG.length _ r2
   refine ⟨a, b, xs, zs, e1, e2, q1, q2, fun z => by rw [z] at l1; simp at l1, ?_, fun z => ?_, fun _ p hp => EPost.aRh gr h hp (aG.append _ r1 r2)⟩
   ·rw [← l1, ← l2]; exact gG (by simpa using hc)
   ·have : es = [] := by rw [z] at l2; exact List.length_eq_zero_iff.mp l2
    subst this
    have h : EPost K F0 H0 Q (D.tup (d :: ds ++ []), true) := h
    rw [List.append_nil] at h
    refine e1 ▸ h v F H [] gr ?_ List.nodup_nil fun _ b hb => by cases hb
    obtain ⟨_, _, _, _, _, ef⟩ := Own.tup gr.inn o1
    rw [ef] at o1; exact o1
  ·rw [if_neg hc] at h; exact h.elim
theorem aG.rep {ds : List D} {xs : List V} (o : aG K F H ds xs []) : ∀ k : Nat, aG K F H (List.replicate k ds).flatten (List.replicate k xs).flatten []
 | 0 => aG.nil
 | k + 1 => by
  rw [List.replicate_succ, List.replicate_succ, List.flatten_cons, List.flatten_cons]
  exact aG.append ds o (aG.rep o k)
def fK : D → Bool
 | .non => true | _ => false
def kJ (neg : Bool) : D × Bool → D × Bool → R (D × Bool) := fun x y => match y.1 with
 | .non => .ok (.bl (if neg then !fK x.1 else fK x.1), true) | _ => .bad
theorem wD {d : D} {v : V} {fp : Y2} (o : Own K F H d v fp) : decide (v = .non) = fK d := by
 cases d <;> unfold Own at o
 ·rw [o.1]; rfl
 ·rw [o.1]; rfl
 ·rw [o.1]; rfl
 ·rw [o.1]; rfl
 ·obtain ⟨_, a, xs, e, _⟩ := o; rw [e]; rfl
 ·obtain ⟨a, xs, fq, e, _⟩ := o; rw [e]; rfl
 ·obtain ⟨a, u, e, _⟩ := o; rw [e]; rfl
theorem aG8 : Op2 K (kJ false) (fun x y H Q => y = .non ∧ Q (.bl (decide (x = .non))) H) := by
 intro F0 H0 F H x y v u fx fy Q gr o1 n1 k1 o2 n2 k2 h
 obtain ⟨y, by'⟩ := y
 cases y <;> try exact h.elim
 unfold Own at o2
 rw [wD o1]
 exact ⟨o2.1, EPost.eN gr h rfl⟩
theorem wZ : Op2 K (kJ true) (fun x y H Q => y = .non ∧ Q (.bl (!decide (x = .non))) H) := by
 intro F0 H0 F H x y v u fx fy Q gr o1 n1 k1 o2 n2 k2 h
 obtain ⟨y, by'⟩ := y
 cases y <;> try exact h.elim
 unfold Own at o2
 rw [wD o1]
 exact ⟨o2.1, EPost.eN gr h rfl⟩
def iD : List (D × Bool) → R (D × Bool)
 | [(.lst _ ds, _)] => .ok (.int ds.length, true) | [(.tup ds, _)] => .ok (.int ds.length, true) | _ => .bad
theorem aGq : OpA K iD (fun xs H Q => ∃ p ys, xs = [.ref p] ∧ (SqL K H p ys ∨ SqT K H p ys) ∧ Q (.int ys.length) H) := by
 intro F0 H0 F H xs vs fa Q gr a n k h
 match xs, h, a with
 | [(.lst o ds, b)], h, a =>
  unfold Args at a
  obtain ⟨v, r, fp, f2, e, o1, n1, t, w⟩ := a
  unfold Args at t
  obtain ⟨p, ys, fq, e1, q1, r1, _⟩ := Own.lst gr.inn o1
  refine ⟨p, ys, by rw [e, t.1, e1], .inl q1, ?_⟩
  rw [← aG.length ds r1]; exact EPost.eN gr h rfl
 | [(.tup ds, b)], h, a =>
  unfold Args at a
  obtain ⟨v, r, fp, f2, e, o1, n1, t, w⟩ := a
  unfold Args at t
  obtain ⟨p, ys, e1, q1, r1, _⟩ := Own.tup gr.inn o1
  refine ⟨p, ys, by rw [e, t.1, e1], .inr q1, ?_⟩
  rw [← aG.length ds r1]; exact EPost.eN gr h rfl
def tH : List (D × Bool) → R (D × Bool)
 | [(.lst _ ds, _)] => if D.bK ds then .ok (.lst true ds, true) else .bad | [(.tup ds, _)] => .ok (.lst true ds, true) | _ => .bad
theorem aC1 : OpA K tH (fun xs H Q => ∃ p ys, xs = [.ref p] ∧ (SqL K H p ys ∨ SqT K H p ys) ∧ ∀ l, H l = none → Q (.ref l) (upd H l (.lst ys))) := by
 intro F0 H0 F H xs vs fa Q gr a n k h
 match xs, h, a with
 | [(.lst o ds, b)], h, a =>
  unfold Args at a
  obtain ⟨v, r, fp, f2, e, o1, n1, t, w⟩ := a
  unfold Args at t
  obtain ⟨p, ys, fq, e1, q1, r1, _⟩ := Own.lst gr.inn o1
  have h : (if D.bK ds = true then R.ok (D.lst true ds, true) else R.bad).holds (EPost K F0 H0 Q) := h
  by_cases hc : D.bK ds = true
  ·rw [if_pos hc] at h
   have := aG.dR ds hc r1
   subst this
   exact ⟨p, ys, by rw [e, t.1, e1], .inl q1, fun l hl => EPost.aCy gr h hl r1⟩
  ·rw [if_neg hc] at h; exact h.elim
 | [(.tup ds, b)], h, a =>
  unfold Args at a
  obtain ⟨v, r, fp, f2, e, o1, n1, t, w⟩ := a
  unfold Args at t
  obtain ⟨p, ys, e1, q1, r1, _⟩ := Own.tup gr.inn o1
  exact ⟨p, ys, by rw [e, t.1, e1], .inr q1, fun l hl => EPost.aCy gr h hl r1⟩
def fZ : D → Bool
 | .non => false | .bl b => b | .int i => i != 0 | .str _ => false | .tup ds => !ds.isEmpty | .lst _ ds => !ds.isEmpty | .ext _ _ => false
def dF : D → Bool
 | .str _ => false | .ext _ _ => false | _ => true
def eW (f : aQ) : bZ := fun ρ => (f ρ).bind fun x => if dF x.1 then .ok (fZ x.1) else .bad
theorem aG.empty {ds : List D} {xs : List V} {fp : Y2} (o : aG K F H ds xs fp) : ds.isEmpty = xs.isEmpty := by
 have := aG.length ds o
 cases ds <;> cases xs <;> simp at this ⊢
theorem aG1 {f : aQ} {Q : Bool → Hp → Prop} (h : tvT K (eW f) σ H Q) : tv K f σ H fun x H' => ∃ k, aKe K x H' k ∧ Q k H' := by
 obtain ⟨ρ, F, fps, S, h⟩ := h
 refine ⟨ρ, F, fps, S, R.aO (R.aP.mp h) fun x hx v F1 H1 fx g1 o1 n1 k1 => ?_⟩
 obtain ⟨x, b⟩ := x
 cases x with
 | str z => exact hx.elim
 | ext _ _ => exact hx.elim
 | non => unfold Own at o1; rw [o1.1]; exact ⟨false, rfl, hx F1 H1 g1⟩
 | bl b => unfold Own at o1; rw [o1.1]; exact ⟨b, rfl, hx F1 H1 g1⟩
 | int i => unfold Own at o1; rw [o1.1]; exact ⟨_, rfl, hx F1 H1 g1⟩
 | tup ds =>
  obtain ⟨a, xs, e1, q1, r1, _⟩ := Own.tup g1.inn o1
  rw [e1]
  exact ⟨!ds.isEmpty, .inr (.inl ⟨xs, q1, by rw [aG.empty r1]⟩), hx F1 H1 g1⟩
 | lst o ds =>
  obtain ⟨a, xs, fq, e1, q1, r1, _⟩ := Own.lst g1.inn o1
  rw [e1]
  exact ⟨!ds.isEmpty, .inl ⟨xs, q1, by rw [aG.empty r1]⟩, hx F1 H1 g1⟩
def uK (p q : Int → Int → Bool) (f g h : aQ) : aQ := fun ρ => (f ρ).bind fun x => (g ρ).bind fun y => match x.1, y.1 with
 | .int i, .int j => if p i j then (h ρ).bind fun z => (match z.1 with | .int k => .ok (.bl (q j k), true) | _ => .bad) else .ok (.bl false, true)
 | _, _ => .bad
theorem aEf {p q : Int → Int → Bool} {f g h : aQ} (hh : tv K (uK p q f g h) σ H Q) : aDd (rI0 fun i j => .bl (p i j)) (rI0 fun i j => .bl (q i j)) (tv K f) (tv K g) (tv K h) σ H Q := by
 obtain ⟨ρ, F, fps, S, hh⟩ := hh
 refine ⟨ρ, F, fps, S, R.aO (R.aP.mp hh) fun x hx v F1 H1 fx g1 o1 n1 k1 => ?_⟩
 refine ⟨ρ, F1, fps, S.grow g1, R.aO (R.aP.mp hx) fun y hy u F2 H2 fy g2 o2 n2 k2 => ?_⟩
 obtain ⟨x, bx⟩ := x
 obtain ⟨y, by'⟩ := y
 cases x <;> try exact hy.elim
 cases y <;> try exact hy.elim
 rename_i i j
 unfold Own at o1 o2
 refine ⟨i, j, o1.1, o2.1, p i j, rfl, ?_⟩
 have hy : (if p i j = true then (h ρ).bind fun z => (match z.1 with | .int k => R.ok (D.bl (q j k), true) | _ => .bad) else .ok (.bl false, true)).holds (EPost K F H Q) := hy
 by_cases hc : p i j = true
 ·rw [if_pos hc] at hy ⊢
  refine ⟨ρ, F2, fps, (S.grow g1).grow g2, R.aO (R.aP.mp hy) fun z hz w F3 H3 fz g3 o3 n3 k3 => ?_⟩
  obtain ⟨z, bz⟩ := z
  cases z <;> try exact hz.elim
  rename_i k
  unfold Own at o3
  exact ⟨j, k, o2.1, o3.1, EPost.eN ((g1.trans g2).trans g3) hz rfl⟩
 ·rw [if_neg hc] at hy ⊢
  exact EPost.eN (g1.trans g2) hy rfl
end
end VL
end
section
namespace VL
open PySem PySem.Spec PyProof.Rows L2
def CX1 (P : Program) (w : World) : CXT := fun outer H s E v s' => ∃ e C H' B a0, v = .ref e ∧ s'.os = s.os ∧ AllBare s'.gens ∧ Un (frs outer) [] H H' s.heap s'.heap ∧ HOk P w H' s'.heap ∧ Heap.FlyingW B outer e (.ref C) a0 s'.heap ∧
 (∀ b o, s.heap.get? b = some o → b ∉ frs outer → ∃ o', B.get? b = some o') ∧ (∀ b u, H' b = some u → ∃ o', B.get? b = some o') ∧ E (.ref C) none H'
section
variable {P : Program} {w : World} {H H' : Hp} {h h0 h1 h2 B : Heap} {fs : Y2}
theorem eG.there {a : Addr} {o : HO} (x : eG P w H h a o) : ∃ ob, h.get? a = some ob := by
 cases o with
 | lst xs => obtain ⟨_, _, _, _, e⟩ := x; exact ⟨_, e⟩
 | tup xs => obtain ⟨_, _, _, o, e, _⟩ := x; exact ⟨_, e⟩
 | dK kvs => obtain ⟨_, _, _, _, o, _, _, e, _⟩ := x; exact ⟨_, e⟩
 | dT kvs => obtain ⟨_, _, _, _, o, _, _, e, _⟩ := x; exact ⟨_, e⟩
 | set S n => obtain ⟨o, _, _, _, e, _⟩ := x; exact ⟨_, e⟩
 | ins C dx fs => obtain ⟨_, _, _, e, _⟩ := x; exact ⟨_, e⟩
 | own y => obtain ⟨_, e⟩ := x; exact ⟨_, e⟩
 | xd fs => obtain ⟨_, ⟨_, _, _, e, _⟩, _⟩ := x; exact ⟨_, e⟩
 | rng lo hi => obtain ⟨_, _, _, e⟩ := x; exact ⟨_, e⟩
 | frz ob u => obtain ⟨e, _⟩ := x; exact ⟨_, e⟩
 | tbl ps => exact ⟨_, (show h.get? a = some _ from x)⟩
 | met f y => exact ⟨_, (show h.get? a = some _ from x)⟩
 | ext φ => obtain ⟨_, ⟨_, e⟩, _⟩ := x; exact ⟨_, e⟩
theorem aDe (U : Un fs [] H H' h0 h1) (hok : HOk P w H' h1) (hS : B.StaysIn h1) (hT : B.StaysIn h2) (hin : ∀ b o, h0.get? b = some o → b ∉ fs → ∃ o', B.get? b = some o') (trk : ∀ b u, H' b = some u → ∃ o', B.get? b = some o')
  (up : h1.UpToSlots h2) (fr : ∀ b o, h0.get? b = some o → b ∈ fs → H b = none ∧ ∀ vs, o.data ≠ .fields vs) : Un fs [] H H' h0 h2 ∧ HOk P w H' h2 := by
 have inn : ∀ b o, (∃ o', B.get? b = some o') → h1.get? b = some o → h2.get? b = some o := fun b o ⟨o', q⟩ e => by
  have z := hS b o' q
  rw [e] at z; cases z
  exact hT b _ q
 have sl : ∀ b o, h0.get? b = some o → H b = none → b ∈ fs → ∃ sl, h2.get? b = some { o with slots := sl } := fun b o e n hb => by
  obtain ⟨sl, q⟩ := U.slot b o e n hb (by simp)
  obtain ⟨sl', q'⟩ := up b _ q (fr b o e hb).2
  exact ⟨sl', q'⟩
 refine ⟨⟨fun b o e n hb hx => inn b o (hin b o e hb) (U.keep b o e n hb hx), fun b o e n hb _ => sl b o e n hb, U.free, fun b o e hx => ?_, U.tups, U.frzs, U.tbls⟩, fun a o e => ?_⟩
 ·by_cases hb : b ∈ fs
  ·obtain ⟨s', q⟩ := sl b o e (fr b o e hb).1 hb
   exact ⟨_, q⟩
  ·obtain ⟨o', q⟩ := hin b o e hb
   exact ⟨o', hT b o' q⟩
 ·refine (hok a o e).stay (fun b u hb q => inn b u ?_ q) (fun _ q => q) fun _ _ q => q
  rcases hb with rfl | hb
  ·exact trk _ _ e
  ·exact trk _ _ hb
end
section
variable {X : Cx} {pins : Y8} {σ : L2.St} {H H' : Hp} {s s' : Shared} {W : XW}
theorem aJa (I : L2.Inv X pins σ H s) : ∀ b o, X.s₀.heap.get? b = some o → b ∈ X.fs → X.H₀ b = none ∧ ∀ vs, o.data ≠ .fields vs := fun b o e hb => by
 obtain ⟨_, o', e', d⟩ := I.ok.funs.mem hb
 rw [e] at e'; cases e'
 exact ⟨I.ok.frf b hb, d⟩
theorem aI0 (I : L2.Inv X pins σ H s) {b : Addr} {o : Obj} (e : X.s₀.heap.get? b = some o) (hb : b ∉ X.fs) : b ∉ frs X.stack := fun z => by
 rcases List.mem_cons.mp (I.vM b z) with z | z
 ·exact absurd (Nat.lt_of_lt_of_le (Heap.lt_size e) I.ok.above) (by rw [z]; exact Nat.lt_irrefl _)
 ·exact hb z
structure Lk (X : Cx) (W : XW) : Prop where
 call : ∀ (pins : Y8) (σ : L2.St) (H : Hp) (s : Shared) (v : Value) (s' : Shared), L2.Inv X pins σ H s → CX1 X.prog X.w X.stack H s (wE X.K W σ) v s' → X.xe v s'
 own : PassesOwn (model X.prog X.w) X.A X.env X.xe
structure LkF (X : Cx) (W : XW) : Prop where
 fresh : ∀ (pins : Y8) (σ : L2.St) (H : Hp) (s : Shared) (h' : Heap) (e C : Addr) (c : Str) (args : Y1), L2.Inv X pins σ H s → oZ X.K c C → Heap.MadeExcOf s.heap h' e (.ref C) args → W c σ H → X.xe (.ref e) { s with heap := h' }
end
section
variable {P : Program} {w : World} {K : FG} {mg : Y6} {base : Heap} {N : List Str} {qual : Str} {scope : Scope} {f : Addr} {cd : Value} {A : Around} {outer : List PySem.Env} {s0 : Shared} {H0 : Hp} {E : XK}
theorem gR : LkF (lK (CX1 P w) P w K mg base N qual scope f cd A outer s0 H0 E) (wOf K E) := by
 refine ⟨fun pins σ H s h' e C c args I hC hx hW => ?_⟩
 have hin : ∀ env ∈ (lK (CX1 P w) P w K mg base N qual scope f cd A outer s0 H0 E).stack, ∀ b, env.frame = some b → b ∈ frs (lK (CX1 P w) P w K mg base N qual scope f cd A outer s0 H0 E).stack := fun env he b hb => List.mem_filterMap.mpr ⟨env, he, hb⟩
 show wpAny _ _ (leaving _ (.ref e)) _ _ _
 refine wpAny_leaves_madeW (base := PySem.W.hideAll s.heap (frs (lK (CX1 P w) P w K mg base N qual scope f cd A outer s0 H0 E).stack)) (h := s.heap) (L := s0.heap.objs.size) I.ok.frames rfl (fun b o q => PySem.W.of_hideAll _ q) (PySem.W.funFrames_hide I.stack hin) hx fun h2 t x1 x2 x3 x4 => ?_
 have up : s.heap.UpToSlots h2 := (Heap.UpToSlots.of_keeps hx.keeps).trans x4
 have hin2 : ∀ b o, s0.heap.get? b = some o → b ∉ frs outer → ∃ o', (PySem.W.hideAll s.heap (frs (lK (CX1 P w) P w K mg base N qual scope f cd A outer s0 H0 E).stack)).get? b = some o' := fun b o q n => by
  obtain ⟨o', e'⟩ := I.base.there b o q (by intro z; exact absurd (show b ∈ ([] : Y2) from z) (by simp))
  exact ⟨o', PySem.W.hideAll_get _ e' (aI0 I q n)⟩
 have trk : ∀ b u, H b = some u → ∃ o', (PySem.W.hideAll s.heap (frs (lK (CX1 P w) P w K mg base N qual scope f cd A outer s0 H0 E).stack)).get? b = some o' := fun b u q => by
  obtain ⟨ob, e'⟩ := eG.there (I.hok b u q)
  exact ⟨ob, PySem.W.hideAll_get _ e' fun z => by rw [I.vO b z] at q; cases q⟩
 obtain ⟨u, ok⟩ := aDe (fs := frs outer) (H := H0) (h0 := s0.heap) I.base I.hok (fun b o q => PySem.W.of_hideAll _ q) x1.1 hin2 trk up (aJa I)
 exact ⟨e, C, H, _, _, rfl, I.os, I.bare, u, ok, x1, hin2, trk, hW C hC⟩
theorem bT : Lk (lK (CX1 P w) P w K mg base N qual scope f cd A outer s0 H0 E) (wOf K E) := by
 refine ⟨fun pins σ H s v s' I h => ?_, PassesOwn.leaving⟩
 obtain ⟨e, C, H', B, a0, rfl, os, bare, un, hok, fl, inB, trk, hE⟩ := h
 obtain ⟨c, C', eC, hC, hW⟩ := hE
 cases eC
 have I' : L2.Inv (lK (CX1 P w) P w K mg base N qual scope f cd A outer s0 H0 E) pins σ H' s' := I.aBk (ch := []) os un hok bare (fun b z => absurd z (by simp))
 show wpAny _ _ (leaving _ (.ref e)) _ _ _
 refine wpAny_leaves_onW (L := s0.heap.objs.size) I.ok.frames rfl fl fun h2 x1 x2 => ?_
 have hin2 : ∀ b o, s0.heap.get? b = some o → b ∉ frs outer → ∃ o', B.get? b = some o' := fun b o q n => by
  obtain ⟨o', e'⟩ := I.base.there b o q (by intro z; exact absurd (show b ∈ ([] : Y2) from z) (by simp))
  exact inB b o' e' (aI0 I q n)
 obtain ⟨u, ok⟩ := aDe (fs := frs outer) (H := H0) (h0 := s0.heap) I'.base I'.hok fl.1 x1.1 hin2 trk x2 (aJa I)
 exact ⟨e, C, H', B, a0, rfl, I'.os, bare, u, ok, x1, hin2, trk, hW C hC⟩
end
end VL
end
section
namespace VL
open PySem PySem.Spec PyProof.Rows L2
abbrev SE (X : Cx) (e : Expr) (f : aQ) : Prop := PE X e (tv X.K f)
abbrev ST (X : Cx) (e : Expr) (f : bZ) : Prop := PT X e (tvT X.K f)
abbrev SW (X : Cx) (e : Expr) (f : bZ) : Prop := PW X e (tvT X.K f)
abbrev SA (X : Cx) (es : List Expr) (f : dC) : Prop := PA X es (tvA X.K f)
abbrev SI (X : Cx) (tg it : Expr) (f : iT) : Prop := PI X tg it (iv X.K f)
abbrev SX (X : Cx) (W : XW) (e : Expr) (f : kG) : Prop := PE X e (tx X.K W f)
abbrev SS (X : Cx) (W : XW) (st : Stmt) (g : aU) : Prop := PS X st (sv X.K W g)
abbrev SSs (X : Cx) (W : XW) (st : List Stmt) (g : aU) : Prop := PSs X st (sv X.K W g)
section
variable {X : Cx} {W : XW} {e a b c : Expr} {es : List Expr} {st : Stmt} {sts : List Stmt} {pos : Pos}
theorem _root_.L2.PE.imp {t t' : TE} (h : PE X e t) (k : ∀ σ H Q, t' σ H Q → t σ H Q) : PE X e t' := fun pins s σ H Q I q => h pins s σ H Q I (k σ H Q q)
theorem _root_.L2.PT.imp {t t' : TT} (h : PT X e t) (k : ∀ σ H Q, t' σ H Q → t σ H Q) : PT X e t' := fun pins s σ H Q I q => h pins s σ H Q I (k σ H Q q)
theorem _root_.L2.PW.imp {t t' : TT} (h : PW X e t) (k : ∀ σ H Q, t' σ H Q → t σ H Q) : PW X e t' := fun w pins s σ H Q I q => h w pins s σ H Q I (k σ H Q q)
theorem _root_.L2.PA.imp {t t' : TA} (h : PA X es t) (k : ∀ σ H Q, t' σ H Q → t σ H Q) : PA X es t' := fun p pins s σ H Q I q => h p pins s σ H Q I (k σ H Q q)
theorem _root_.L2.PI.imp {tg it : Expr} {t t' : TI} (h : PI X tg it t) (k : ∀ σ H Q, t' σ H Q → t σ H Q) : PI X tg it t' := fun pins s σ H Q I q => h pins s σ H Q I (k σ H Q q)
theorem _root_.L2.PS.imp {t t' : TS} (h : PS X st t) (k : ∀ D σ H, t' D σ H → t D σ H) : PS X st t' := fun pins s σ H D I q => h pins s σ H D I (k D σ H q)
theorem _root_.L2.PSs.imp {t t' : TS} (h : PSs X sts t) (k : ∀ D σ H, t' D σ H → t D σ H) : PSs X sts t' := fun pins s σ H D I q => h pins s σ H D I (k D σ H q)
theorem aA (i : Nat) {x : Str} (hN : X.N[i]? = some x := by rfl) (hv : Vis X.env.scope x := by first | exact Or.inl rfl | exact Or.inr (Or.inl rfl) | exact Or.inr (Or.inr rfl)) (hd : (x == ("__debug__" : Str)) = false := by decide)
  (hcd : (x == ("__classdict__" : Str)) = false := by decide) : SE X (.Name x pos) (aB i) := (mI hN hv hd hcd).imp fun _ _ _ h => aKp h
theorem aE {i j} : SE X (.Constant (.int i) j pos) (vC (.int i)) := aJw.imp fun _ _ _ h => aFl rfl h
theorem iJ {i j} : SE X (.Constant (.bool i) j pos) (vC (.bl i)) := aM9.imp fun _ _ _ h => aFl rfl h
theorem jR {j} : SE X (.Constant .none j pos) (vC .non) := aJq.imp fun _ _ _ h => aFl rfl h
theorem oU {i j} : SE X (.Constant (.str i) j pos) (vC (.str i)) := aD8.imp fun _ _ _ h => aFl rfl h
theorem aGr {x : Str} {i : Int} {t : Tok} (hm : X.mg x = some (.int i t)) (hg : Gl X x := by rfl) (hd : (x == ("__debug__" : Str)) = false := by decide) : SE X (.Name x pos) (vC (.int i)) :=
 (aHu (v := .int i) hg hm ⟨t, rfl⟩ hd).imp fun _ _ _ h => aFl rfl h
theorem vY {op : Operator} {k : D × Bool → D × Bool → R (D × Bool)} {r : R2} {f g : aQ} (ho : OpR X (binaryOp op) r) (hk : Op2 X.K k r) (ha : SE X a f) (hb : SE X b g) : SE X (.BinOp a op b pos) (v2 k f g) :=
 (aN1 ho ha hb).imp fun _ _ _ h => aBc hk h
abbrev aNt := kI fun i j => .int (i + j)
abbrev sA := kI fun i j => .int (i - j)
abbrev kS := kIc (fun _ j => decide (0 < j)) fun i j => .int (i % j)
theorem mK {f g : aQ} (ha : SE X a f) (hb : SE X b g) : SE X (.BinOp a .Sub b pos) (v2 sA f g) := vY aK3 (aA8 fun _ _ => rfl) ha hb
theorem eZ {f g : aQ} (ha : SE X a f) (hb : SE X b g) : SE X (.BinOp a .Mod b pos) (v2 kS f g) := vY aJ5 (aAb (fun _ _ => rfl) fun i j h => by
 rw [decide_eq_true_iff] at h; exact h) ha hb
theorem aFy : OpR X (binaryOp .Add) (aIs X.K) := by
 intro pins s σ H x y v u Q I rx ry h
 obtain ⟨l, b, xs, zs, rfl, rfl, hH, hB, hz, q⟩ := h
 cases rx
 cases ry
 obtain ⟨z, its, n, r, e⟩ := hH.ok I.hok
 obtain ⟨z2, its2, n2, r2, e2⟩ := hB.ok I.hok
 have hl := r.length
 have hl2 := r2.length
 refine PySem.P.add_list e e2 ?_ (by rw [List.size_toArray, List.size_toArray]; omega)
 have ea : its.toArray ++ its2.toArray = (its ++ its2).toArray := by simp
 rw [ea]
 exact ⟨.ref _, _, I.aMh (t' := s.toks) (r.append r2) (by rw [List.length_append]; omega), rfl, q _ I.fresh⟩
theorem vF {f : aQ} (ha : SE X a f) : SE X (.UnaryOp .USub a pos) (v1 (kU fun i => .int (-i)) f) := (aMq aJu ha).imp fun _ _ _ h => aOw (aOf fun _ => rfl) h
theorem zF {op : CmpOp} {k : D × Bool → D × Bool → R (D × Bool)} {r : R2} {f g : aQ} (ho : OpR X (compareOp op) r) (hk : Op2 X.K k r) (ha : SE X a f) (hb : SE X b g) (hm : behindInMarks op b = false) : SE X (.Compare a [op] [b] pos) (v2 k f g) :=
 (aGm ho ha hb hm).imp fun _ _ _ h => aBc hk h
theorem zM {t t' : TE} (k : ∀ σ H Q, t' σ H Q → t σ H Q) {σ : L2.St} {H : Hp} {Q : Bool → Hp → Prop} (h : aAs t' σ H Q) : aAs t σ H Q := k _ _ _ h
theorem kR {op : CmpOp} {k : D × Bool → D × Bool → R (D × Bool)} {r : R2} {f g : aQ} (ho : OpR X (compareOp op) r) (hk : Op2 X.K k r) (ha : SE X a f) (hb : SE X b g) (hm : behindInMarks op b = false) : ST X (.Compare a [op] [b] pos) (aV (v2 k f g)) :=
 (aGs ho ha hb hm).imp fun _ _ _ h => zM (fun _ _ _ q => aBc hk q) (aEm h)
abbrev kLt := kI fun i j => .bl (decide (i < j))
abbrev kGt := kI fun i j => .bl (decide (j < i))
theorem aNw {K : FG} : Op2 K kLt (rI0 fun i j => .bl (decide (i < j))) := aA8 fun _ _ => rfl
theorem aIh {K : FG} : Op2 K kGt (rI0 fun i j => .bl (decide (j < i))) := aA8 fun _ _ => rfl
theorem aDb {op op' : CmpOp} {p q : Int → Int → Bool} {f g h : aQ} (ho : OpR X (compareOp op) (rI0 fun i j => .bl (p i j))) (ho' : OpR X (compareOp op') (rI0 fun i j => .bl (q i j))) (ha : SE X a f) (hb : SE X b g) (hc : SE X c h)
  (hm : lastMarks [op, op'] [b, c] = false := by with_unfolding_all rfl) : SE X (.Compare a [op, op'] [b, c] pos) (uK p q f g h) := (aC9 ho ho' ha hb hc hm).imp fun _ _ _ h => aEf h
theorem cX {f : aQ} (ha : SE X a f) (he : ∀ whole, isTrue a X.env whole = (do let v ← whole; standAt a.pos; holding [v] (truthy v)) := by intro _; rfl) : ST X a (eW f) := (aC8 ha he).imp fun _ _ _ h => aG1 h
theorem lD {f : bZ} (ha : ST X a f) : SW X (.BoolOp .And [a] pos) f := aGn ha
theorem iP {f : bZ} (ha : ST X a f) : SW X (.BoolOp .Or [a] pos) f := aJ4 ha
theorem oT {f g : bZ} {rest : List Expr} (ha : ST X a f) (hb : SW X (.BoolOp .And (b :: rest) pos) g) : SW X (.BoolOp .And (a :: b :: rest) pos) (jH f g) := (aKs ha hb).imp fun _ _ _ h => aHt h
theorem kO {f g : bZ} {rest : List Expr} (ha : ST X a f) (hb : SW X (.BoolOp .Or (b :: rest) pos) g) : SW X (.BoolOp .Or (a :: b :: rest) pos) (kN f g) := (aNh ha hb).imp fun _ _ _ h => aJi h
theorem lJ {f : bZ} (h : SW X a f) : ST X a f := h.pt
theorem dW {f : bZ} (ha : ST X a f) : ST X (.UnaryOp .Not a pos) (dJ f) := (aLw ha).imp fun _ _ _ h => aHf h
theorem vJ {f g : aQ} {rest : List Expr} (ha : SE X a f) (hb : SE X (.BoolOp .And (b :: rest) pos) g) : SE X (.BoolOp .And (a :: b :: rest) pos) (zS f g) := (aL5 ha hb).imp fun _ _ _ h => aKt h
theorem aN0 {f g : aQ} {rest : List Expr} (ha : SE X a f) (hb : SE X (.BoolOp .Or (b :: rest) pos) g) : SE X (.BoolOp .Or (a :: b :: rest) pos) (vOr f g) := (aNk ha hb).imp fun _ _ _ h => aNo h
theorem qD {op} {f : aQ} (ha : SE X a f) : SE X (.BoolOp op [a] pos) f := aJp ha
theorem aDx {f : aQ} (ha : SE X a f) : SE X (.UnaryOp .Not a pos) (v1 aC7 f) := (aLc ha).imp fun _ _ _ h => aJo h
theorem aI : SA X [] aM := rH.imp fun _ _ _ h => aF5 h
theorem aC {f : aQ} {g : dC} (ha : SE X e f) (hr : SA X es g) (hs : starEach (e :: es) X.env = (false, eval e X.env) :: starEach es X.env := by rfl) : SA X (e :: es) (aD f g) := (jY ha hr hs).imp fun _ _ _ h => aE1 h
theorem eY {g : dC} (h : SA X es g) : SE X (.List es pos) (iX g) := (aJr h).imp fun _ _ _ h => aKj h
theorem mE {g : dC} {k} (h : SA X es g) : SE X (.Tuple es k pos) (rL g) := (aLz h).imp fun _ _ _ h => aLq h
theorem aH {f g : aQ} (ha : SE X a f) (hb : SE X b g) (hs : uO b := by intro _ _; rfl) : SE X (.Subscript a b pos) (v2 kIx f g) := (aIb (aBg.or aJ1) ha hb hs).imp fun _ _ _ h => aBc aKn h
theorem aBe {id : String} {x : Str} {p : Pos} {k : List (D × Bool) → R (D × Bool)} {r : List V → Hp → VK → Prop} {g : dC} (hc : lT X (.builtin id) r) (hk : OpA X.K k r) (hm : X.mg x = none) (hv : bootBuiltins x = some (.builtin id)) (ha : SA X (e :: es) g) (hg : Gl X x := by rfl)
  (hn : x ≠ "__name__" := by decide) (hdb : (x == ("__debug__" : Str)) = false := by decide) (he : starEach (e :: es) X.env = (false, eval e X.env) :: starEach es X.env := by rfl) (hpl : (backTo pos (starEach es X.env)).any (·.1) = false := by rfl) : SE X (.Call (.Name x p) (e :: es) [] pos) (vCB k g) :=
 (vP hc hg hm hv ha hn hdb he hpl).imp fun _ _ _ h => aBa hk h
theorem aKh {T : String} {x : Str} {p : Pos} {k : List (D × Bool) → R (D × Bool)} {r : List V → Hp → VK → Prop} {g : dC} (hc : lT X (.type T) r) (hk : OpA X.K k r) (hm : X.mg x = none) (hv : bootBuiltins x = some (.type T)) (ha : SA X (e :: es) g) (hg : Gl X x := by rfl)
  (hn : x ≠ "__name__" := by decide) (hdb : (x == ("__debug__" : Str)) = false := by decide) (he : starEach (e :: es) X.env = (false, eval e X.env) :: starEach es X.env := by rfl) (hpl : (backTo pos (starEach es X.env)).any (·.1) = false := by rfl) : SE X (.Call (.Name x p) (e :: es) [] pos) (vCB k g) :=
 (aCm hc hg hm hv ha hn hdb he hpl).imp fun _ _ _ h => aBa hk h
structure Kn (P : Program) (w : World) (K : FG) (mg : Y6) (base : Heap) (k : Nat) (x : Str) (n : Nat) (fn : Fn) : Prop where
 ex : ∃ (f : Addr) (fd : FuncData) (ps : List Str), FnOk P w K mg base (CX1 P w) k f fd ps (spV K n fn) ∧ mg x = some (.ref f) ∧ PySem.W.keepIn K (.ref f) = true ∧ Binds K fd ps []
def sI (n : Nat) (g : dC) : Prop := ∀ ρ xs, g ρ = .ok xs → xs.length = n
theorem aDa : sI 0 aM := fun _ _ e => by cases e; rfl
theorem jB {n : Nat} {f : aQ} {g : dC} (h : sI n g) : sI (n + 1) (aD f g) := fun ρ xs e => by
 unfold aD at e
 cases ef : f ρ with
 | exc _ => rw [ef] at e; cases e
 | bad => rw [ef] at e; cases e
 | ok x =>
  rw [ef] at e
  cases eg : g ρ with
  | exc _ => rw [eg] at e; cases e
  | bad => rw [eg] at e; cases e
  | ok ys =>
   rw [eg] at e
   have e : R.ok (x :: ys) = R.ok xs := e
   cases e
   rw [List.length_cons, h ρ ys eg]
theorem aX {k n : Nat} {x : Str} {fn : Fn} {g : dC} {p : Pos} (F : Kn X.prog X.w X.K X.mg X.base k x n fn) (hr : Room k X.A) (ha : SA X (e :: es) g) (hl : sI n g) (hg : Gl X x := by rfl) (hdb : (x == ("__debug__" : Str)) = false := by decide)
  (he : starEach (e :: es) X.env = (false, eval e X.env) :: starEach es X.env := by rfl) (hpl : (backTo pos (starEach es X.env)).any (·.1) = false := by rfl) : SE X (.Call (.Name x p) (e :: es) [] pos) (bC fn g) := by
 obtain ⟨f, fd, ps, F, hm, hk, hb⟩ := F.ex
 exact (aAe F hr hg hm hk hb .nil (fun _ _ _ _ _ _ _ h => by obtain ⟨_, _, _, _, _, _, _, _, _, _, _, _, _, z⟩ := h; exact z.elim) ha hdb he hpl).imp fun _ _ _ h => aHi hl h
theorem aR {f : aQ} (h : SE X e f) : SX X W e (xOf f) := L2.PE.imp h fun _ _ _ h => aIg h
theorem bP : SSs X W [] bI := aHr.imp fun _ _ _ h => aHk h
theorem aF {f g : aU} {rest : List Stmt} (h1 : SS X W st f) (h2 : SSs X W rest g) : SSs X W (st :: rest) (aN f g) := (aD7 h1 h2).imp fun _ _ _ h => aK5 h
theorem aJ {f : aU} (h1 : SS X W st f) : SSs X W [st] f := aHm h1
theorem jZ (is : T0) {f : aU} (h : SS X W st f) : SS X W st (mU is f) := L2.PS.imp h fun _ _ _ h => aLb h
def aQb : aU := fun _ => .bad
theorem jS {g : kG} (h : SX X W e g) (hs : swapsWith e none pos.line X.env = pure false := by rfl) : SS X W (.Expr e pos) (iH g) := (pG h hs).imp fun _ _ _ h => aGp h
theorem bH {g : kG} (h : SX X W e g) : SS X W (.Return (some e) pos) (cO g) := (aDk h).imp fun _ _ _ h => aJ9 h
theorem gL (i : Nat) {x : Str} {p : Pos} (hN : X.N[i]? = some x := by rfl) (hv : Vis X.env.scope x := by first | exact Or.inl rfl | exact Or.inr (Or.inl rfl) | exact Or.inr (Or.inr rfl)) (hd : (x == ("__debug__" : Str)) = false := by decide)
  (hcd : (x == ("__classdict__" : Str)) = false := by decide) : SS X W (.Return (some (.Name x p)) pos) (iW i) := (aDk (mI hN hv hd hcd)).imp fun _ _ _ h => aGi h
theorem cL {t : bZ} {f g : aU} {xs ys : List Stmt} (hc : ST X c t) (ha : SSs X W xs f) (hb : SSs X W ys g) : SS X W (.If c xs ys pos) (sIf t f g) := (aN3 hc ha hb).imp fun _ _ _ h => aNz h
theorem aT (i : Nat) {x : Str} {g : kG} {pos' : Pos} (nd : X.N.Nodup) (h : SX X W e g) (hi : X.N[i]? = some x := by rfl) (hx : Loc X.env.scope x := by first | exact Or.inl rfl | exact Or.inr rfl) (hs : swapsWith e (some (.Name x pos')) pos.line X.env = pure false := by rfl)
  (hf : X.fn x = true ∨ X.env.scope.names.lookup x = some .local := by first | exact .inl rfl | exact .inr rfl) : SS X W (.Assign [.Name x pos'] e pos) (aY i g) := (aKr nd hi hx h hs hf).imp fun _ _ _ h => aEq h
theorem cK (i : Nat) {x : Str} (nd : X.N.Nodup) (hi : X.N[i]? = some x := by rfl) (hx : Loc X.env.scope x := by first | exact Or.inl rfl | exact Or.inr rfl) (hf : X.fn x = true ∨ X.env.scope.names.lookup x = some .local := by first | exact .inl rfl | exact .inr rfl) : PG X (.Name x pos) (oY i) := aGu nd hi hx hf
theorem dG {i : Nat} {is : T0} (h1 : PG X e (oY i)) (h2 : PGs X es (kW is)) (hs : (assignEach (e :: es) X.env).map (·.2) = assign e X.env :: (assignEach es X.env).map (·.2) := by rfl) : PGs X (e :: es) (kW (i :: is)) := aDq h1 h2 hs
theorem nP : PGs X [] (kW []) := aF1
theorem sU {is : T0} {g : kG} {k n : Nat} {tp : Pos} (hc : X.calm = true) (h : SX X W e g) (hg : PGs X es (kW is)) (hn' : is.length = n) (hn : (assignEach es X.env).length = n := by rfl) (hst : (assignEach es X.env).findIdx? (·.1) = none := by rfl)
  (hs : swapsWithSole [.Tuple es k tp] e pos.line X.env = pure false := by rfl) (hw : swappedStores [.Tuple es k tp] e X.env = pure none := by rfl) (h1 : (assignEach [.Tuple es k tp] X.env).map (·.2) = [assign (.Tuple es k tp) X.env] := by rfl) :
  SS X W (.Assign [.Tuple es k tp] e pos) (gH is g) := (aEs h (kL hc hg hn hst) hs hw h1).imp fun _ _ _ h => aCk hn' h
theorem lV (i : Nat) {x : Str} {f g : aQ} {p tp : Pos} (hi : SE X b g) (he : SE X e f) (hN : X.N[i]? = some x := by rfl) (hv : Vis X.env.scope x := by first | exact Or.inl rfl | exact Or.inr (Or.inl rfl) | exact Or.inr (Or.inr rfl)) (hd : (x == ("__debug__" : Str)) = false := by decide)
  (hcd : (x == ("__classdict__" : Str)) = false := by decide)
  (ha : ∀ v, assign (.Subscript (.Name x p) b tp) X.env v = (do
   let ov ← holding [v] (eval (.Name x p) X.env)
   let iv ← holding [v, ov] (eval b X.env)
   standAt tp
   holding [v, ov, iv] (setItem ov iv v)
   release [v, ov, iv] []) := by intro _; rfl)
  (hs : swapsWithSole [.Subscript (.Name x p) b tp] e pos.line X.env = pure false := by rfl) (hw : swappedStores [.Subscript (.Name x p) b tp] e X.env = pure none := by rfl) (h1 : (assignEach [.Subscript (.Name x p) b tp] X.env).map (·.2) = [assign (.Subscript (.Name x p) b tp) X.env] := by rfl) :
  SS X W (.Assign [.Subscript (.Name x p) b tp] e pos) (dU i g f) := (aEs he (aL0 (mI hN hv hd hcd) hi set_list ha) hs hw h1).imp fun _ _ _ h => zD h
theorem aDv (i : Nat) {x : Str} {f : aQ} {op : Operator} {o : Int → Int → Int} {pos' : Pos} (nd : X.N.Nodup) (ho : PIp X op (ipI o)) (he : SE X e f) (hi : X.N[i]? = some x := by rfl) (hx : Loc X.env.scope x := by first | exact Or.inl rfl | exact Or.inr rfl)
  (hf : X.fn x = true ∨ X.env.scope.names.lookup x = some .local := by first | exact .inl rfl | exact .inr rfl) : SS X W (.AugAssign (.Name x pos') op e pos) (uT i o f) := (aLr nd hi hx he ho hf).imp fun _ _ _ h => aL1 h
theorem jE (n : Nat) {t : bZ} {f : aU} {xs : List Stmt} (hp : PassesOwn (model X.prog X.w) X.A X.env X.xe) (hc : ST X c t) (hb : SSs X W xs f) : SS X W (.While c xs [] pos) (cF t f n) := (aFr hp hc hb).imp fun _ _ _ h => aE3 h
theorem dP {tg it : Expr} {f : iT} {set : D → Env → Option Env} {g : TG} {b' : aU} {xs : List Stmt} (hp : PassesOwn (model X.prog X.w) X.A X.env X.xe) (hc : X.calm = true) (hi : SI X tg it f) (hg : PG X tg g) (ht : Tgt X.K set g) (hb : SSs X W xs b')
  (hs : ∀ x, foldedSetIterable it X.env x = pure x := by intro _; rfl) : SS X W (.For tg it xs [] pos) (fI f set b') := (aL6 hp hc hi hg hb hs).imp fun _ _ _ h => aJh ht h
theorem cS {tg : Expr} {g : dC} {p : Pos} (hm : X.mg "range" = none) (ha : SA X [a] g) (hg : Gl X "range" := by rfl) (hs : starEach [a] X.env = [(false, eval a X.env)] := by rfl) : SI X tg (.Call (.Name "range" p) [a] [] pos) (iR1 g) :=
 (aCr hg hm ha hs).imp fun _ _ _ h => aCd h
theorem aBs {tg : Expr} {g : dC} {p : Pos} (hm : X.mg "range" = none) (ha : SA X [a, b] g) (hg : Gl X "range" := by rfl) (hs : starEach [a, b] X.env = [(false, eval a X.env), (false, eval b X.env)] := by rfl) (hs2 : starEach [b] X.env = [(false, eval b X.env)] := by rfl) : SI X tg (.Call (.Name "range" p) [a, b] [] pos) (iR2 g) :=
 (aBo hg hm ha hs hs2).imp fun _ _ _ h => aBp h
end
end VL
end
section
namespace VL
open PySem PySem.Spec PyProof.Rows L2
abbrev mJ := Env → Option Nat
def aI1 (F H : Hp) (Q : VK) (n : Nat) : Prop := ∀ (z : Str) F' H', Grow F H F' H' → z.length ≤ n → Q (.str z) H'
def tz (K : FG) (f : mJ) : TE := fun σ H Q => ∃ ρ F fps, Sim K F H σ ρ fps ∧ ∃ n, f ρ = some n ∧ aI1 F H Q n
abbrev SZ (X : Cx) (e : Expr) (f : mJ) : Prop := PE X e (tz X.K f)
def SZs (X : Cx) (es : List Expr) (f : mJ) : Prop := ∀ (pins : Y8) (s : Shared) (σ : L2.St) (H : Hp) (acc : Str) (Q : VK), L2.Inv X pins σ H s →
 (∃ ρ F fps, Sim X.K F H σ ρ fps ∧ ∃ n, f ρ = some n ∧ acc.length + n ≤ 1000000 ∧ aI1 F H Q (acc.length + n)) →
 Joins (model X.prog X.w) X.A X.xe (evalEach es X.env) acc (fun out s1 => out.length ≤ sizeLine ∧ EP X pins σ Q (.str out s1.toks) { s1 with toks := s1.toks + 1 }) s
section
variable {X : Cx} {W : XW} {e v1 v2 : Expr} {es : List Expr} {pos : Pos}
theorem dQ {i j} : SZ X (.Constant (.str i) j pos) (fun _ => some i.length) := aD8.imp fun σ H Q h => by
 obtain ⟨ρ, F, fps, S, n, en, h⟩ := h
 cases en
 exact h i F H (Grow.refl S.same) (Nat.le_refl _)
def qY (g : aQ) : mJ := fun ρ => match g ρ with | .ok (.int a, _) => if a.natAbs ≤ 100000 then some 100002 else none | _ => none
theorem aCg {a : Int} (h : a.natAbs ≤ 100000) : a.natAbs.log2 < 1920 := by
 by_cases h0 : a.natAbs = 0
 ·rw [h0]; decide
 ·exact (Nat.log2_lt h0).mpr (Nat.lt_of_le_of_lt h (Nat.lt_of_lt_of_le (by decide : 100000 < 2 ^ 17) (Nat.pow_le_pow_right (by decide) (by decide))))
theorem iF {g : aQ} (h : SE X e g) : SZ X (.FormattedValue e (-1) none pos) (qY g) := by
 intro pins s σ H Q I q
 obtain ⟨ρ, F, fps, S, n, en, q⟩ := q
 unfold qY at en
 refine FormattedValue_plain (thn (h pins s σ H (fun v H' => ∃ a, v = .int a ∧ a.natAbs ≤ 100000 ∧ ∀ z : Str, z.length ≤ 100002 → Q (.str z) H') I ⟨ρ, F, fps, S, ?_⟩) fun u s1 ⟨v, H1, I1, r, a, ev, ha, hq⟩ => ?_)
 ·cases eg : g ρ with
  | exc _ => rw [eg] at en; cases en
  | bad => rw [eg] at en; cases en
  | ok x =>
   rw [eg] at en
   obtain ⟨x, b⟩ := x
   cases x <;> try cases en
   rename_i a
   dsimp only at en
   by_cases ha : a.natAbs ≤ 100000
   ·rw [if_pos ha] at en; cases en
    intro v F1 H1 fx g1 o1 n1 k1
    unfold Own at o1
    exact ⟨a, o1.1, ha, fun z hz => q z F1 H1 g1 hz⟩
   ·rw [if_neg ha] at en; cases en
 ·subst ev
  obtain ⟨t, rfl⟩ := r
  have hl : ((Str.ofString (toString a)).length : Int) ≤ a.natAbs + 2 := len_str_of_int a
  exact formatField_int_small (aCg ha) ⟨.str (Str.ofString (toString a)), H1, I1.tok _, ⟨_, rfl⟩, hq _ (by omega)⟩
theorem jQ : SZs X [] (fun _ => some 0) := by
 intro pins s σ H acc Q I q
 obtain ⟨ρ, F, fps, S, n, en, hn, q⟩ := q
 cases en
 exact ⟨gG hn, .str acc, H, I.tok _, ⟨_, rfl⟩, q acc F H (Grow.refl S.same) (Nat.le_refl _)⟩
def gC (f g : mJ) : mJ := fun ρ => (f ρ).bind fun a => (g ρ).map fun b => a + b
theorem bF {f g : mJ} (h1 : SZ X e f) (h2 : SZs X es g) (he : evalEach (e :: es) X.env = eval e X.env :: evalEach es X.env := by rfl) : SZs X (e :: es) (gC f g) := by
 intro pins s σ H acc Q I q
 obtain ⟨ρ, F, fps, S, n, en, hn, q⟩ := q
 unfold gC at en
 cases ef : f ρ with
 | none => rw [ef] at en; cases en
 | some a =>
  rw [ef] at en
  cases eg : g ρ with
  | none => rw [eg] at en; cases en
  | some b =>
   rw [eg] at en
   have en : some (a + b) = some n := en
   cases en
   rw [he]
   refine thn (h1 pins s σ H (fun v H' => ∃ z : Str, v = .str z ∧ z.length ≤ a ∧ ∃ F', Grow F H F' H') I ⟨ρ, F, fps, S, a, ef, fun z F' H' g1 hz => ⟨z, rfl, hz, F', g1⟩⟩) fun u s1 ⟨v, H1, I1, r, z, ev, hz, F1, g1⟩ => ?_
   subst ev
   obtain ⟨t, rfl⟩ := r
   have hl : (acc ++ z).length = acc.length + z.length := strLen_append _ _
   refine ⟨z, t, rfl, gG (by omega), h2 pins s1 σ H1 (acc ++ z) Q I1 ⟨ρ, F1, fps, S.grow g1, b, eg, by omega, fun y F' H' g2 hy => q y F' H' (g1.trans g2) (by omega)⟩⟩
def zTop (f : mJ) : mJ := fun ρ => (f ρ).bind fun n => if n ≤ 1000000 then some n else none
theorem jP {f : mJ} (h : SZs X (v1 :: v2 :: es) f) : SZ X (.JoinedStr (v1 :: v2 :: es) pos) (zTop f) := by
 intro pins s σ H Q I q
 obtain ⟨ρ, F, fps, S, n, en, q⟩ := q
 unfold zTop at en
 cases ef : f ρ with
 | none => rw [ef] at en; cases en
 | some a =>
  rw [ef] at en
  dsimp only [Option.bind] at en
  by_cases ha : a ≤ 1000000
  ·rw [if_pos ha] at en; cases en
   have e0 : (Str.empty).length = 0 := rfl
   refine PySem.wpAny_JoinedStr (h pins s σ H Str.empty Q I ⟨ρ, F, fps, S, n, ef, by rw [e0]; omega, ?_⟩)
   rw [e0, Nat.zero_add]; exact q
  ·rw [if_neg ha] at en; cases en
def fA (c : Str) (f : mJ) : aU := fun ρ => match f ρ with | some _ => .exc c ρ | none => .bad
def bmV : Y1 := [.type "ValueError", .type "Exception", .type "BaseException", .type "object"]
theorem dY {c : Str} {C : Addr} {f : mJ} {np cpos : Pos} (L : LkF X W) (hcalm : X.calm = true) (hC : oZ X.K c C) (hx : PySem.W.excIn X.K C bmV "ValueError.__new__" = true) (hm : X.mg c = some (.ref C)) (ha : SZ X e f) (hg : Gl X c := by rfl) (hd : (c == ("__debug__" : Str)) = false := by decide)
  (he : starEach [e] X.env = (false, eval e X.env) :: starEach [] X.env := by rfl) (hpl : (backTo cpos (starEach [e] X.env)).any (·.1) = false := by rfl) :
  SS X W (.Raise (some (.Call (.Name c np) [e] [] cpos)) none pos) (fA c f) := by
 intro pins s σ H D I h
 obtain ⟨ρ, F, fps, S, h⟩ := h
 unfold fA at h
 cases ef : f ρ with
 | none => rw [ef] at h; exact h.elim
 | some n =>
  rw [ef] at h
  have h : eJ X.K F H fps.flatten ρ σ (W c) ρ := h
  have O : ∃ bm N nm q bs hdct sn sub ab col dd k0 k1 k2 k3 k5 mN, X.base.get? C = some (excClassObj nm q C N bs bm hdct sn sub ab col dd k0 k1 k2 k3 k5 "ValueError.__new__") ∧ X.base.Ns N mN ∧ mN "__init__" = none ∧ OwnTail X.base bmV bm := by
   have KX := I.ok.mod.kin
   have q := hx
   unfold PySem.W.excIn at q
   split at q
   ·rename_i dd cd sl ho
    split at q
    ·rename_i C' bm k0 k1 k2 k3 n k5 hm hs
     simp only [Bool.and_eq_true, beq_iff_eq, Bool.not_eq_true'] at q
     obtain ⟨⟨⟨⟨⟨rfl, rfl⟩, hdel⟩, ht⟩, hok⟩, hni⟩ := q
     obtain ⟨nm, bs, mro, ns, qn, hd, sn, sub, ab, col, del⟩ := cd
     dsimp only at hm hdel hok hni
     subst hm hdel
     have hsl : sl = #[k0, k1, k2, k3, some (.builtin "ValueError.__new__"), k5] := by
      obtain ⟨l⟩ := sl
      simp only at hs
      rw [hs]
     subst hsl
     exact ⟨bm, ns, nm, qn, bs, hd, sn, sub, ab, col, dd, k0, k1, k2, k3, k5, _, KX _ _ ho, .of_isNs (PySem.W.isNs_of_in KX hok), PySem.W.nsMap_none_of_in KX hok hni, PySem.W.tail_of_in KX ht⟩
    ·cases q
   ·cases q
  obtain ⟨bm, Nn, nm, q, bs, hdct, sn, sub, ab, col, dd, k0, k1, k2, k3, k5, mN, o1, o2, o3, o4⟩ := O
  refine wpAny_Raise_call_subT (C := C) (nm := nm) (q := q) (N := Nn) (bs := bs) (bm := bm) (hdct := hdct) (sn := sn) (sub := sub) (ab := ab) (col := col) (dd := dd) (k0 := k0) (k1 := k1) (k2 := k2) (k3 := k3) (k5 := k5)
   PySem.F.excBase_ValueError (mN := mN) (o4.hasType PySem.F.excBase_ValueError.hasBase) (I.ok.hd hcalm) hpl o3 (pJ I hg hm ⟨rfl, ?_⟩ hd)
  rw [he]
  show wpAny _ _ (evalArgs _ true ((false, eval e X.env) :: backTo cpos (starEach [] X.env)) []) _ _ s
  exact Calls.evalArgs_plain (Calls.spliced_cons (thn (ha pins s σ H (fun v H' => ∃ F', Grow F H F' H') I ⟨ρ, F, fps, S, n, ef, fun z F' H' g1 _ => ⟨F', g1⟩⟩) fun u s1 ⟨v, H1, I1, r, F1, g1⟩ => Calls.spliced_nil ⟨rfl, by show 1 ≤ sizeLine; decide, I1.bk _ _ o1, o2.keeps I1.bk, o4.keeps I1.bk, fun h' e' hx => L.fresh pins σ H1 s1 h' e' C c _ I1 hC hx (h σ F1 H1 fps g1.evo (S.grow g1) (fJ.refl _ _))⟩))
end
end VL
end
section
namespace VL
open PySem PySem.Spec PyProof.Rows L2
section
variable {X : Cx} {pins pins' : Y8} {σ : L2.St} {H H' : Hp} {s s' : Shared} {W : XW}
end
section
variable {X : Cx} {W : XW} {pos hpos np : Pos}
end
end VL
end
section
namespace VL
open PySem L2
section
variable {K : FG} {F H F' H' F1 H1 : Hp} {σ σ1 : St} {ρ ρ1 : Env} {Q : VK}
def jJ (ρ : Env) (j : Nat) : Slot := match getD ρ j with | some d => .val d.frz | none => .un
def lR (ρ : Env) (j : Nat) : Bool := match getD ρ j with | some d => d.calm | none => true
def fX (set : D → Env → Option Env) (c : bZ) (e : aQ) : List D → Env → R (List D)
 | [], _ => .ok []
 | d :: ds, ρ => match set d ρ with
  | none => .bad
  | some ρ1 => (c ρ1).bind fun b => if b = true then (e ρ1).bind fun x => if aL x then (fX set c e ds ρ1).bind fun r => .ok (x.1 :: r) else .bad else fX set c e ds ρ1
def cB (f : iT) (nt : Nat) (js : T0) (set : D → Env → Option Env) (c : bZ) (e : aQ) : aQ := fun ρ => (f ρ).bind fun ds =>
 if decide (ds.length ≤ 1000000) then (fX set c e ds (List.replicate nt .un ++ js.map (jJ ρ))).bind fun xs => if js.all (lR ρ) || xs.all isScal then .ok (.lst true xs, true) else .bad else .bad
theorem bV {fps : Y5} (S : Sim K F H σ ρ fps) : ∀ (js : T0), ∃ U : Y2, (∀ b ∈ U, F b = none) ∧ (js.all (lR ρ) = true → U = []) ∧
  ∀ U' : Y2, (∀ b ∈ U, b ∈ U') → (∀ b ∈ U', F b = none) → ∀ (k : Nat) (d : D), (js.map (jJ ρ))[k]? = some (.val d) → ∃ v, (js.map fun j => (σ[j]?).join)[k]? = some (some v) ∧ Own K (eX F H U') H d v []
 | [] => ⟨[], by simp, fun _ => rfl, fun _ _ _ k d e => by simp at e⟩
 | j :: js => by
  obtain ⟨U, u1, u2, u3⟩ := bV S js
  cases eg : getD ρ j with
  | none =>
   refine ⟨U, u1, fun h => u2 (by rw [List.all_cons, Bool.and_eq_true] at h; exact h.2), fun U' s1 s2 k d e => ?_⟩
   cases k with
   | zero =>
    have e : jJ ρ j = .val d := by simpa using e
    unfold jJ at e
    rw [eg] at e; cases e
   | succ k => simpa using u3 U' s1 s2 k d (by simpa using e)
  | some d0 =>
   obtain ⟨v, fp, h1, h2, h3⟩ := S.get eg
   have hz : ∀ b ∈ fp, b ∈ fps.flatten := fun b hb => List.mem_flatten.mpr ⟨_, List.mem_of_getElem? h2, hb⟩
   refine ⟨fp ++ U, fun b hb => (List.mem_append.mp hb).elim (fun q => (S.zone b (hz b q)).1) (u1 b), fun h => ?_, fun U' s1 s2 k d e => ?_⟩
   ·rw [List.all_cons, Bool.and_eq_true] at h
    have hc : d0.calm = true := by have := h.1; unfold lR at this; rw [eg] at this; exact this
    rw [Own.dR d0 hc h3, u2 h.2]; rfl
   ·cases k with
    | zero =>
     have e : jJ ρ j = .val d := by simpa using e
     unfold jJ at e
     rw [eg] at e; cases e
     exact ⟨v, by simp [h1], Own.freeze s2 d0 (fun b hb => s1 b (List.mem_append_left _ hb)) h3⟩
    | succ k => simpa using u3 U' (fun b hb => s1 b (List.mem_append_right _ hb)) s2 k d (by simpa using e)
theorem Sim.other {fps : Y5} {a : Addr} {o : HO} (S : Sim K F H σ ρ fps) (fa : F a = none) (ha : a ∉ fps.flatten) : Sim K F (upd H a o) σ ρ fps := by
 refine ⟨fun b u e => ?_, S.ls, S.lf, fun i s d e1 e2 => ?_, S.nd, fun b hb => ?_⟩
 ·rw [bB (bG e fa)]; exact S.same b u e
 ·obtain ⟨v, fp, h1, h2, h3⟩ := S.at_ i s d e1 e2
  exact ⟨v, fp, h1, h2, h3.other fun z => ha (List.mem_flatten.mpr ⟨fp, List.mem_of_getElem? h2, z⟩)⟩
 ·refine ⟨(S.zone b hb).1, ?_⟩
  have hne : b ≠ a := fun z => ha (z ▸ hb)
  rw [bB hne]; exact (S.zone b hb).2
structure CSt (K : FG) (FB H1 : Hp) (acc : Addr) (F' H' : Hp) (σ' : St) (ρ' : Env) (done : List D) : Prop where
 fr : aW FB F'
 all : ∀ b o, H1 b = some o → H' b = some o
 new : ∀ b o, F' b = some o → FB b = some o ∨ H1 b = none
 sim : ∃ fps', Sim K F' H' σ' ρ' fps' ∧ fps'.flatten = []
 acc_ : F' acc = none
 own : ∃ xs fa, H' acc = some (.lst xs) ∧ aG K F' H' done xs fa ∧ (acc :: fa).Nodup ∧ ∀ b ∈ fa, H1 b = none
theorem CSt.grow {FB H1 F2 H2 : Hp} {acc : Addr} {σ' : St} {ρ' : Env} {done : List D} (c : CSt K FB H1 acc F' H' σ' ρ' done) (g : Grow F' H' F2 H2) : CSt K FB H1 acc F2 H2 σ' ρ' done := by
 obtain ⟨fps', S, e⟩ := c.sim
 obtain ⟨xs, fa, a1, a2, a3, a4⟩ := c.own
 refine ⟨c.fr.trans g.fr, fun b o q => g.all b o (c.all b o q), fun b o q => ?_, ⟨fps', S.grow g, e⟩, ?_, ⟨xs, fa, g.all _ _ a1, a2.grow g, a3, a4⟩⟩
 ·rcases g.new b o q with z | z
  ·exact c.new b o z
  ·refine .inr ?_
   cases q2 : H1 b with
   | none => rfl
   | some u => rw [c.all b u q2] at z; cases z
 ·cases q : F2 acc with
  | none => rfl
  | some o =>
   rcases g.new acc o q with z | z
   ·rw [c.acc_] at z; cases z
   ·rw [a1] at z; cases z
theorem CSt.push {FB H1 : Hp} {acc : Addr} {σ' : St} {ρ' : Env} {done : List D} {x : D} {v : V} {fx : Y2} (c : CSt K FB H1 acc F' H' σ' ρ' done) (hacc : H1 acc = none) (o : Own K F' H' x v fx) (n : fx.Nodup) {Hm : Hp} (hm : ∀ b ∈ fx, Hm b = none) (hsub : ∀ b o, H1 b = some o → ∃ o', Hm b = some o') (hdone : ∃ xs fa, H' acc = some (.lst xs) ∧ aG K F' H' done xs fa ∧ (acc :: fa).Nodup ∧ (∀ b ∈ fa, H1 b = none) ∧ ∀ b ∈ acc :: fa, Hm b ≠ none) :
  ∃ xs, H' acc = some (.lst xs) ∧ xs.length = done.length ∧ CSt K FB H1 acc F' (upd H' acc (.lst (xs ++ [v]))) σ' ρ' (done ++ [x]) := by
 obtain ⟨fps', S, e⟩ := c.sim
 obtain ⟨xs, fa, a1, a2, a3, a4, hd⟩ := hdone
 have nx : ∀ b ∈ acc :: fa, b ∉ fx := fun b hb z => hd b hb (hm b z)
 have nacc := List.nodup_cons.mp a3
 refine ⟨xs, a1, (aG.length done a2).symm, c.fr, fun b u q => ?_, c.new, ⟨fps', S.other c.acc_ (by rw [e]; simp), e⟩, c.acc_, ⟨xs ++ [v], fa ++ fx, cD, aG.append done (a2.other nacc.1) (aG.one (o.other (nx acc List.mem_cons_self))), ?_, fun b hb => ?_⟩⟩
 ·rw [bB (bG q hacc)]; exact c.all b u q
 ·refine List.nodup_cons.mpr ⟨fun z => (List.mem_append.mp z).elim nacc.1 (nx acc List.mem_cons_self), List.nodup_append.mpr ⟨nacc.2, n, fun p hp q hq z => ?_⟩⟩
  subst z
  exact nx p (List.mem_cons_of_mem _ hp) hq
 ·rcases List.mem_append.mp hb with hb | hb
  ·exact a4 b hb
  ·cases q : H1 b with
   | none => rfl
   | some u =>
    obtain ⟨o', z⟩ := hsub b u q
    rw [hm b hb] at z; cases z
theorem aBi {f : iT} {nt : Nat} {js : T0} {set : D → Env → Option Env} {g : TG} {c : bZ} {e : aQ} (ht : Tgt K set g) (h : tv K (cB f nt js set c e) σ H Q) : aAg (iv K f) nt js g (tvT K c) (tv K e) σ H Q := by
 obtain ⟨ρ, F, fps, S, h⟩ := h
 refine ⟨ρ, F, fps, S, R.aO (R.aP.mp h) fun ds hds J F1 H1 g1 hJ acc hacc => ?_⟩
 by_cases hsz : decide (ds.length ≤ 1000000) = true
 ·rw [if_pos hsz] at hds
  rw [decide_eq_true_iff] at hsz
  have hds := R.aP.mp hds
  have S1 := S.grow g1
  obtain ⟨U, u1, u2, u3⟩ := bV S1 js
  have own0 := u3 U (fun b hb => hb) u1
  let FB := eX F1 H1 U
  have sB : aW F1 FB := eS u1
  have inB : aW FB H1 := nX g1.inn
  let H1' := upd H1 acc (.lst [])
  have gB : Grow FB H1 FB H1' := Grow.one inB hacc
  let σ0 : St := List.replicate nt none ++ js.map fun j => (σ[j]?).join
  let ρ0 : Env := List.replicate nt .un ++ js.map (jJ ρ)
  have C0 : CSt K FB H1 acc FB H1' σ0 ρ0 [] := by
   refine ⟨aW.refl _, fun b o q => by show upd H1 acc _ b = _; rw [bB (bG q hacc)]; exact q, fun b o q => .inl q, ⟨List.replicate ρ0.length [], ⟨gB.inn, ?_, by simp, fun i s d e1 e2 => ?_, by simp, fun a ha => by simp at ha⟩, by simp⟩, inB.free hacc, ⟨[], [], cD, aG.nil, by simp, fun b hb => by cases hb⟩⟩
   ·show (List.replicate nt none ++ js.map _).length = (List.replicate nt Slot.un ++ js.map _).length
    simp
   ·have e1 : (List.replicate nt Slot.un ++ js.map (jJ ρ))[i]? = some s := e1
    by_cases hi : i < nt
    ·rw [List.getElem?_append_left (by simpa using hi), List.getElem?_replicate, if_pos hi] at e1
     cases e1; cases e2
    ·rw [List.getElem?_append_right (by simpa using hi), List.length_replicate] at e1
     have es : s = .val d := by
      rw [List.getElem?_map] at e1
      cases ej : js[i - nt]? with
      | none => rw [ej] at e1; cases e1
      | some j =>
       rw [ej] at e1
       have e1 : jJ ρ j = s := Option.some.inj e1
       unfold jJ at e1
       cases eg : getD ρ j with
       | none => rw [eg] at e1; subst e1; cases e2
       | some d0 => rw [eg] at e1; subst e1; cases e2; rfl
     subst es
     obtain ⟨v, q1, q2⟩ := own0 (i - nt) d e1
     refine ⟨v, [], ?_, ?_, q2.grow gB⟩
     ·show (List.replicate nt none ++ js.map fun j => (σ[j]?).join)[i]? = _
      rw [List.getElem?_append_right (by simpa using hi), List.length_replicate]; exact q1
     ·have hl : i < ρ0.length := by
       have := (List.getElem?_eq_some_iff.mp e1).1
       show i < (List.replicate nt Slot.un ++ js.map (jJ ρ)).length
       simp at this ⊢; omega
      rw [List.getElem?_replicate, if_pos hl]
  refine ⟨fun i m σ' H' => i ≤ ds.length ∧ m = ds.length - i ∧ ∃ ρ' F' done, CSt K FB H1 acc F' H' σ' ρ' done ∧ done.length ≤ i ∧
    (fX set c e (ds.drop i) ρ').holds (fun rest => (if js.all (lR ρ) || (done ++ rest).all isScal then R.ok (D.lst true (done ++ rest), true) else R.bad).holds (EPost K F H Q)),
   ⟨ds.length, Nat.zero_le _, rfl, ρ0, FB, [], C0, Nat.le_refl _, hds⟩, ?_⟩
  rintro i m σ' H' ⟨hi, rfl, ρ', F', done, C, hdl, hrest⟩
  obtain ⟨fps', S', e'⟩ := C.sim
  by_cases hlt : i < ds.length
  ·refine .inr ?_
   obtain ⟨d, hd⟩ : ∃ d, ds[i]? = some d := ⟨ds[i], by simp [hlt]⟩
   have hdrop : ds.drop i = d :: ds.drop (i + 1) := by
    rw [List.drop_eq_getElem_cons hlt]
    congr 1
    rw [List.getElem?_eq_getElem hlt] at hd; exact Option.some.inj hd
   rw [hdrop] at hrest
   obtain ⟨go, yl⟩ := hJ.2 i d hd F' H' (sB.trans C.fr) S'.same
   refine ⟨go, fun x H2 hy => ?_⟩
   obtain ⟨F2, g2, o2⟩ := yl x H2 hy
   have C2 := C.grow g2
   unfold fX at hrest
   cases es : set d ρ' with
   | none => rw [es] at hrest; exact hrest.elim
   | some ρ2 =>
    rw [es] at hrest
    have hrest := R.aP.mp hrest
    refine ht F2 H2 d x ρ' ρ2 σ' fps' _ (S'.grow g2) o2 es fun σ2 fps2 S2 p2 k2 => ?_
    have e2' : fps2.flatten = [] := by
     cases q : fps2.flatten with
     | nil => rfl
     | cons b l => have := k2 b (by rw [q]; exact List.mem_cons_self); rw [e'] at this; cases this
    have C2' : CSt K FB H1 acc F2 H2 σ2 ρ2 done := ⟨C2.fr, C2.all, C2.new, ⟨fps2, S2, e2'⟩, C2.acc_, C2.own⟩
    refine ⟨ρ2, F2, fps2, S2, R.aO hrest fun b hb F3 H3 g3 => ?_⟩
    have C3 := C2'.grow g3
    cases b with
    | false =>
     rw [if_neg Bool.false_ne_true] at hb
     show if false = true then _ else _
     rw [if_neg Bool.false_ne_true]
     exact ⟨ds.length - (i + 1), by omega, by omega, rfl, ρ2, F3, done, C3, by omega, hb⟩
    | true =>
     rw [if_pos rfl] at hb
     show if true = true then _ else _
     rw [if_pos rfl]
     obtain ⟨fps3, S3, e3'⟩ := C3.sim
     refine ⟨ρ2, F3, fps3, S3, R.aO (R.aP.mp hb) fun y hy v F4 H4 fy g4 o4 n4 k4 => ?_⟩
     by_cases hk : aL y = true
     ·rw [if_pos hk] at hy
      have hy := R.aP.mp hy
      have k5 := mW hk o4 k4
      have C4 := C3.grow g4
      obtain ⟨xs, a1, a2, C5⟩ := C4.push hacc o4 n4 (Hm := H3) k5 (fun b o q => ⟨o, C3.all b o q⟩) (by
       obtain ⟨ys, fa', b1, b2, b3, b4⟩ := C3.own
       refine ⟨ys, fa', g4.all _ _ b1, b2.grow g4, b3, b4, fun b hb => ?_⟩
       rcases List.mem_cons.mp hb with rfl | hb
       ·rw [b1]; simp
       ·obtain ⟨_, zs, z⟩ := aG.zone done b2 b hb
        rw [z]; simp)
      refine ⟨xs, a1, uG (by omega), ds.length - (i + 1), by omega, by omega, rfl, ρ2, F4, done ++ [y.1], C5, by simp; omega, R.aO hy fun r hr => ?_⟩
      have hr : (if js.all (lR ρ) || (done ++ y.1 :: r).all isScal then R.ok (D.lst true (done ++ y.1 :: r), true) else R.bad).holds (EPost K F H Q) := hr
      rw [show done ++ [y.1] ++ r = done ++ y.1 :: r by simp]
      exact hr
     ·rw [if_neg hk] at hy; exact hy.elim
  ·have hil : i = ds.length := by omega
   refine .inl ⟨hJ.1 i H' (sB.trans (C.fr.trans S'.same)) (by omega), ?_⟩
   rw [List.drop_eq_nil_of_le (by omega)] at hrest
   have hrest : (if js.all (lR ρ) || (done ++ []).all isScal then R.ok (D.lst true (done ++ []), true) else R.bad).holds (EPost K F H Q) := hrest
   rw [List.append_nil] at hrest
   obtain ⟨xs, fa, a1, a2, a3, a4⟩ := C.own
   have hall : aW H H' := g1.all.trans C.all
   have frsh : ∀ b ∈ acc :: fa, H b = none := fun b hb => by
    rcases List.mem_cons.mp hb with rfl | hb
    ·exact g1.all.free hacc
    ·exact g1.all.free (a4 b hb)
   by_cases hcap : js.all (lR ρ) = true
   ·rw [hcap, Bool.true_or, if_pos rfl] at hrest
    have hU := u2 hcap
    subst hU
    have eFB : ∀ b, FB b = F1 b := fun b => by show eX F1 H1 [] b = F1 b; unfold eX; simp
    refine hrest (.ref acc) F' H' (acc :: fa) ⟨g1.fr.trans (sB.trans C.fr), hall, S'.same, fun b o q => ?_⟩ (Own.closed a2 C.acc_ a1) a3 fun _ b hb => frsh b hb
    rcases C.new b o q with z | z
    ·rw [eFB] at z; exact g1.new b o z
    ·exact .inr (g1.all.free z)
   ·by_cases hsc : done.all isScal = true
    ·rw [hsc, Bool.or_true, if_pos rfl] at hrest
     have hfa : fa = [] := by
      refine aG.dR done ?_ a2
      rw [D.yG]
      rw [List.all_eq_true] at hsc ⊢
      intro x hx
      have := hsc x hx
      unfold isScal at this
      cases x <;> first | rfl | (simp [iC] at this)
     subst hfa
     have o1 : aG K F1 H' done xs [] := by
      refine aG.of_get done (aG.length done a2) fun k d v e1 e2 => ?_
      have hd : isScal d = true := by rw [List.all_eq_true] at hsc; exact hsc d (List.mem_of_getElem? e1)
      unfold isScal at hd
      cases q : iC d with
      | none => rw [q] at hd; cases hd
      | some w =>
       have := uP q (aG.aO2 a2 e1 e2)
       rw [this.1]; exact fY q
     refine hrest (.ref acc) F1 H' [acc] ⟨g1.fr, hall, (sB.trans C.fr).trans S'.same, fun b o q => g1.new b o q⟩ (Own.closed o1 (g1.inn.free hacc) a1) a3 fun _ b hb => frsh b hb
    ·have : (js.all (lR ρ) || done.all isScal) = false := by
      rw [Bool.eq_false_iff]; intro z
      rcases Bool.or_eq_true _ _ ▸ z with z | z
      ·exact hcap z
      ·exact hsc z
     rw [this] at hrest; exact hrest.elim
 ·rw [if_neg hsz] at hds; exact hds.elim
end
end VL
end
section
namespace VL
open PySem PySem.Spec PyProof.Rows L2
def Ite (K : FG) (a : Addr) : It :=
 ⟨fun i H => ∃ xs x, SqL K H a xs ∧ xs[i]? = some x, fun i H x H' => ∃ p y, H p = none ∧ x = .ref p ∧ (∀ xs, SqL K H a xs → xs[i]? = some y) ∧ H' = upd H p (.tup [.int i, y]), fun i H => ∃ xs, SqL K H a xs ∧ xs.length ≤ i⟩
section
variable {X : Cx} {pins : Y8} {σ : L2.St} {H : Hp} {s : Shared}
theorem aEr {e it : Addr} {h' : Heap} {t' : Nat} {xs : List V} {its : Y1} (I : L2.Inv X pins σ H s) (he : qH X pins H e) (hi : qH X pins H it) (k : ∀ b o, b ≠ e → b ≠ it → s.heap.get? b = some o → h'.get? b = some o)
  (he' : ∃ o, h'.get? e = some o) (hi' : ∃ o, h'.get? it = some o) (r : Vals xs its) (hz : xs.length ≤ sizeLine) (hp : IsTup h' s.heap.objs.size its.toArray) : L2.Inv X pins σ (upd H s.heap.objs.size (.tup xs)) { s with heap := h', toks := t' } := by
 have fr := I.fresh
 have U : Un (frs X.stack) [e, it] H (upd H s.heap.objs.size (.tup xs)) s.heap h' := by
  refine ⟨fun b o q _ _ hx => k b o (fun z => hx (by simp [z])) (fun z => hx (by simp [z])) q, fun b o q _ _ hx => ⟨o.slots, k b o (fun z => hx (by simp [z])) (fun z => hx (by simp [z])) q⟩, fun b o q n _ => by rw [bB (Nat.ne_of_lt (Heap.lt_size q))]; exact n,
   fun b o q hx => ⟨o, k b o (fun z => hx (by simp [z])) (fun z => hx (by simp [z])) q⟩, fun b ys q => by rw [bB (bG q fr)]; exact q, fun b o u q => by rw [bB (bG q fr)]; exact q, fun b ps q => ⟨#[], by rw [bB (bG q fr), q]; simp⟩⟩
 refine I.aBk (s' := { s with heap := h', toks := t' }) rfl U (fun b u q => ?_) I.bare fun b hb => ?_
 ·by_cases hb : b = s.heap.objs.size
  ·subst hb; rw [cD] at q; cases q
   exact ⟨hz, its, r, hp⟩
  ·rw [bB hb] at q
   refine (I.hok b u q).stay (fun c v hc q' => k c v ?_ ?_ q') (fun c q' => by rw [bB (bG q' fr)]; exact q') fun c ys q' => by rw [bB (bG q' fr)]; exact q'
   ·rintro rfl
    rcases hc with rfl | hc
    ·rw [he.1] at q; cases q
    ·rw [he.1] at hc; cases hc
   ·rintro rfl
    rcases hc with rfl | hc
    ·rw [hi.1] at q; cases q
    ·rw [hi.1] at hc; cases hc
 ·have : b = e ∨ b = it := by simpa using hb
  rcases this with rfl | rfl
  ·exact ⟨he.2.2.2.1, he.2.1, he.2.2.2.2.1, he.2.2.2.2.2⟩
  ·exact ⟨hi.2.2.2.1, hi.2.1, hi.2.2.2.2.1, hi.2.2.2.2.2⟩
theorem aCu {P : Program} {w : World} {K : FG} {elts : List Expr} {k : Nat} {tp : Pos} (a e it : Addr) (hei : e ≠ it) : Turn P w K (.Tuple elts k tp) (Ite K a) [e, it] e (fun i h => (∃ old, IsEnum h e it i old) ∧ h.IsListIter it a i) where
 mem := by simp
 obj := fun i h st b hb => by
  obtain ⟨⟨old, he⟩, o, ho, c, d⟩ := st
  have : b = e ∨ b = it := by simpa using hb
  rcases this with rfl | rfl
  ·exact ⟨_, he, fun v z => by
    have z' : Data.fields _ = Data.cell v := z
    cases z'⟩
  ·exact ⟨o, ho, fun v z => by rw [d] at z; cases z⟩
 keep := fun i h h' st kk => by
  obtain ⟨⟨old, he⟩, hit⟩ := st
  exact ⟨⟨old, kk e (by simp) _ he⟩, hit.at fun o x => kk it (by simp) o x⟩
 item := by
  intro X hP hw hK hc i pins s σ H E I hf st hg
  subst hP hw hK
  obtain ⟨xs, x, hq, hx⟩ := hg
  obtain ⟨its, rv, p, hz⟩ := I.list hq
  obtain ⟨u, hu, ru⟩ := rv.get hx
  obtain ⟨⟨old, he⟩, hit⟩ := st
  have fe := hf e (by simp)
  have fi := hf it (by simp)
  refine wpAny_pyNext_enum_item he hit p.isList (x := u) (by simpa using hu) hei fun h' heo hit' ht hsz hk => ⟨_, rfl, ?_⟩
  refine wpAny_letOwnedTupleGo_enum heo fun h2 he2 hs2 => ?_
  have hs2 : Heap.SameBut e h' h2 := hs2
  have hel : e < s.heap.objs.size := Heap.lt_size he
  have hil : it < s.heap.objs.size := by obtain ⟨o, ho, _⟩ := hit; exact Heap.lt_size ho
  have hit2 : h2.IsListIter it a (i + 1) := hit'.at fun o y => (hs2.2 it hei.symm).trans y
  have I2 := aEr (h' := h2) (t' := s.toks + 1) (xs := [.int i, x]) (its := [.int i s.toks, u]) I fe fi (fun b o n1 n2 q => (hs2.2 b n1).trans (hk b o n1 n2 q)) ⟨_, he2⟩ (let ⟨o, ho, _⟩ := hit2; ⟨o, ho⟩) (.cons ⟨_, rfl⟩ (.cons ru .nil)) (by show 2 ≤ sizeLine; decide)
   ⟨_, (hs2.2 _ (Nat.ne_of_gt hel)).trans ht, rfl, _, rfl⟩
  refine ⟨.ref s.heap.objs.size, _, I2, rfl, ⟨s.heap.objs.size, x, I.fresh, rfl, fun ys hy => by rw [I.yH hy hq]; exact hx, rfl⟩, ⟨⟨u, by simpa using he2⟩, hit2⟩, fun b hb => ?_⟩
  have : b = e ∨ b = it := by simpa using hb
  rcases this with rfl | rfl
  ·rw [bB (Nat.ne_of_lt hel)]; exact fe.1
  ·rw [bB (Nat.ne_of_lt hil)]; exact fi.1
 done := by
  intro X hP hw hK hc i pins s σ H E I hf st hg
  subst hP hw hK
  obtain ⟨xs, hq, hx⟩ := hg
  obtain ⟨its, rv, p, hz⟩ := I.list hq
  obtain ⟨⟨old, he⟩, hit⟩ := st
  obtain ⟨f0, f1, f2, f3, f4, f5⟩ := hf it (by simp)
  have hl := rv.length
  exact wpAny_pyNext_enum_end (I.ok.hd hc) he hit p.isList (by simp; omega) fun h' eb => ⟨rfl, I.turned (t' := s.toks) (fun b o hb e => eb b o hb e) f0 f1 f3 f4 f5⟩
 self := fun _ _ _ _ _ st h => by
  obtain ⟨⟨old, he⟩, _⟩ := st
  exact wpAny_pyIter_enum he h
def aIp (K : FG) (ta : TA) : TI := fun σ H R => ta σ H fun vs H1 => ∃ a xs, vs = [.ref a] ∧ Rd H1 a (.lst xs) ∧ R (Ite K a) H1
theorem aG9 {a : Expr} {ta : TA} {p pos tp : Pos} {elts : List Expr} {k : Nat} (hg : Gl X "enumerate") (hm : X.mg "enumerate" = none) (ha : PA X [a] ta) (hs : starEach [a] X.env = [(false, eval a X.env)] := by rfl) : PI X (.Tuple elts k tp) (.Call (.Name "enumerate" p) [a] [] pos) (aIp X.K ta) := by
 intro pins s σ H R I h
 refine Call_ (iV I hg hm boot_enumerate (PyProof.Rows.callWith_type1 (thn (ha pos pins s σ H _ I h) fun us s1 ⟨vs, H1, I1, r1, q1⟩ => ?_) hs rfl))
 obtain ⟨l, xs, e, hr, q⟩ := q1
 subst e
 cases r1 with
 | cons r rr =>
  cases rr
  cases r
  obtain ⟨z, its, n, rv, e⟩ := hr.ok I1.hok
  refine call_enumerate_1 e fun h' he hit hsz hk => ?_
  refine wpAny_pyIter_enum he ?_
  have I2 : L2.Inv X pins σ H1 { s1 with heap := h' } := I1.kept (t' := s1.toks) hk
  refine ⟨s1.heap.objs.size + 1, [s1.heap.objs.size + 1, s1.heap.objs.size], _, _, H1, rfl, I2, aCu l _ _ (Nat.succ_ne_self _), ⟨⟨_, he⟩, hit⟩, fun b hb => ?_, q⟩
  have hb' : b = s1.heap.objs.size + 1 ∨ b = s1.heap.objs.size := by simpa using hb
  have hle : s1.heap.objs.size ≤ b := by
   rcases hb' with rfl | rfl
   ·exact Nat.le_succ _
   ·exact Nat.le_refl _
  exact I1.aFv hle (I1.hok.fresh hle)
end
section
variable {K : FG} {F H : Hp} {σ : L2.St}
def lM (ds : List D) : List D := ds.zipIdx.map fun p => .tup [.int (p.2 : Nat), p.1]
end
end VL
end
section
namespace VL
open PySem PySem.Spec PyProof.Rows L2
section
variable {X : Cx} {pins : Y8} {σ : L2.St} {H : Hp} {s : Shared}
end
section
variable {K : FG} {F H : Hp} {σ : L2.St}
def vL (x : D × Bool) : R (List D) := match x.1 with
 | .lst _ ds => if aL x then .ok (D.frzs ds) else .bad
 | _ => .bad
def rR (f : aQ) : iT := fun ρ => (f ρ).bind fun x => (vL x).bind fun ds => .ok (lM ds)
def aNe (f : aQ) : iT := fun ρ => (f ρ).bind fun x => vL x
theorem icy {F0 H0 : Hp} {x : D × Bool} {v : V} {fx : Y2} {ds : List D} (g : Grow F0 H0 F H) (o : Own K F H x.1 v fx) (k : x.2 = true → ∀ b ∈ fx, H0 b = none) (e : vL x = .ok ds) :
  ∃ a xs F', v = .ref a ∧ Grow F0 H0 F' H ∧ aW F F' ∧ (∀ b u, F' b = some u → F b = some u ∨ b ∈ fx) ∧ Rd F' a (.lst xs) ∧ aG K F' H ds xs [] := by
 unfold vL at e
 split at e
 ·rename_i w es hx
  by_cases hk : aL x = true
  ·rw [if_pos hk] at e; cases e
   have kf := mW hk o k
   have zo : ∀ b ∈ fx, F b = none := fun b hb => (Own.zone x.1 o b hb).1
   have of_ := Own.freeze (fp := fx) zo x.1 (fun b hb => hb) o
   rw [hx] at of_
   unfold D.frz Own at of_
   obtain ⟨a, xs, fq, ev, r, q⟩ := of_
   rcases q with ⟨q, _⟩ | ⟨_, q, q2, _⟩
   ·cases q
   ·subst q2
    refine ⟨a, xs, eX F H fx, ev, g.frz kf zo, eS zo, fun b u q => ?_, q, r⟩
    unfold eX at q
    split at q
    ·exact .inr (by assumption)
    ·exact .inl q
  ·rw [if_neg hk] at e; cases e
 ·cases e
theorem R.oG {α : Type} {x : R α} {P : α → Prop} (h : x.holds P) : ∃ a, x = .ok a ∧ P a := by
 cases x with
 | ok a => exact ⟨a, rfl, h⟩
 | exc _ => exact h.elim
 | bad => exact h.elim
theorem aCn {F : Hp} {ds : List D} {a : Addr} {xs : List V} (q : Rd F a (.lst xs)) (r : aG K F H ds xs []) : vH K F ds (Itl K a) := by
 have q : SqL K F a xs := .inl q
 refine ⟨fun i H' hs hl => ⟨xs, hs.seq q, by rw [← aG.length ds r]; exact hl⟩, fun i d hd F' H' s1 s2 => ?_⟩
 obtain ⟨u, f, q1, q2, q3⟩ := aG.get ds r hd
 refine ⟨⟨xs, u, (s1.trans s2).seq q, q1⟩, fun y H2 hy => ?_⟩
 obtain ⟨e, hy⟩ := hy
 subst e
 have ey := hy xs ((s1.trans s2).seq q)
 rw [q1] at ey; cases ey
 have : f = [] := List.sublist_nil.mp q3
 subst this
 exact ⟨F', Grow.refl s2, Own.keep s1 d (fun a ha => by cases ha) q2⟩
theorem aBn {F : Hp} {ds : List D} {a : Addr} {ys : List V} (q : Rd F a (.lst ys)) (rr : aG K F H ds ys []) : vH K F (lM ds) (Ite K a) := by
 refine ⟨fun i H' hs hl => ?_, fun i d hd F' H' s1 s2 => ?_⟩
 ·refine ⟨ys, .inl (aW.rd hs q), ?_⟩
  rw [← aG.length ds rr]
  unfold lM at hl
  simpa using hl
 ·unfold lM at hd
  rw [List.getElem?_map, List.getElem?_zipIdx] at hd
  cases ed : ds[i]? with
  | none => rw [ed] at hd; cases hd
  | some d0 =>
   rw [ed] at hd
   have hd : D.tup [.int ((0 + i : Nat) : Int), d0] = d := Option.some.inj hd
   subst hd
   obtain ⟨u, f, q1, q2, q3⟩ := aG.get ds rr ed
   have : f = [] := List.sublist_nil.mp q3
   subst this
   refine ⟨⟨ys, u, .inl (aW.rd (s1.trans s2) q), q1⟩, fun x H2 hy => ?_⟩
   obtain ⟨p, y, hp, ex, hy, eH⟩ := hy
   subst ex; subst eH
   have ey := hy ys (.inl (aW.rd (s1.trans s2) q))
   rw [q1] at ey; cases ey
   have g2 : Grow F' H' (upd F' p (.tup [.int (i : Int), u])) (upd H' p (.tup [.int (i : Int), u])) := Grow.both s2 hp
   refine ⟨_, g2, ?_⟩
   unfold Own
   refine ⟨rfl, p, [.int (i : Int), u], rfl, SqT.of cD, ?_⟩
   have o1 : Own K (upd F' p (.tup [.int (i : Int), u])) (upd H' p (.tup [.int (i : Int), u])) (.int ((0 + i : Nat) : Int)) (.int (i : Int)) [] := fY (by rw [Nat.zero_add]; rfl)
   exact aG.cons o1 (aG.one ((Own.keep s1 d0 (fun a ha => by cases ha) q2).grow g2))
theorem aJm {f : aQ} {R' : It → Hp → Prop} (h : iv K (rR f) σ H R') : aIp K (tU (tv K f) aCh) σ H R' := by
 obtain ⟨ρ, F, fps, S, h⟩ := h
 refine ⟨ρ, F, fps, S, R.aO (R.aP.mp h) fun x hx v F1 H1 fx g1 o1 n1 k1 => ?_⟩
 obtain ⟨ds, ed, hy⟩ := R.oG (R.aP.mp hx)
 obtain ⟨a, xs, Fa, ea, ga, sa, na, ra, oa⟩ := icy g1 o1 k1 ed
 subst ea
 exact ⟨a, xs, rfl, aW.rd ga.inn ra, hy _ Fa H1 ga (aBn (H := H1) ra oa)⟩
theorem aK4 {f : aQ} {R' : It → Hp → Prop} (h : iv K (aNe f) σ H R') : aFc K (tv K f) σ H R' := by
 obtain ⟨ρ, F, fps, S, h⟩ := h
 refine ⟨ρ, F, fps, S, R.aO (R.aP.mp h) fun x hx v F1 H1 fx g1 o1 n1 k1 => ?_⟩
 obtain ⟨ds, ed, hy⟩ := R.oG hx
 obtain ⟨a, xs, Fa, ea, ga, sa, na, ra, oa⟩ := icy g1 o1 k1 ed
 subst ea
 exact ⟨a, rfl, ⟨xs, .inl (aW.rd ga.inn ra)⟩, hy _ Fa H1 ga (aCn (H := H1) ra oa)⟩
def aBv (x : D × Bool) : R (List D) := match x.1 with
 | .lst _ ds => if aL x then .ok (D.frzs ds) else .bad
 | .tup ds => .ok ds
 | _ => .bad
def kA (f : aQ) : iT := fun ρ => (f ρ).bind aBv
theorem aLh {f : aQ} {R' : It → Hp → Prop} (h : iv K (kA f) σ H R') : aFc K (tv K f) σ H R' ∨ aLe K (tv K f) σ H R' := by
 obtain ⟨ρ, F, fps, S, h⟩ := h
 unfold kA at h
 obtain ⟨x, ex, hx⟩ := R.oG (R.aP.mp h)
 obtain ⟨ds, ed, hd⟩ := R.oG hx
 unfold aBv at ed
 split at ed
 ·rename_i o es hx'
  refine .inl (aK4 ⟨ρ, F, fps, S, ?_⟩)
  unfold aNe
  rw [ex]
  show (vL x).holds _
  unfold vL
  rw [hx']
  dsimp only
  rw [ed]; exact hd
 ·rename_i es hx'
  cases ed
  refine .inr (aJ8 ⟨ρ, F, fps, S, ?_⟩)
  unfold aI3
  rw [ex]
  show (match x.1 with | .tup ds => R.ok ds | _ => .bad).holds _
  rw [hx']; exact hd
 ·cases ed
end
end VL
end
section
namespace VL
open PySem PySem.Spec PyProof.Rows L2
mutual
def D.py : D → PyData
 | .non => .none | .bl b => .bool b | .int i => .int i | .str x => .str x
 | .tup ds => .tuple (D.pys ds)
 | .lst _ ds => .list (D.pys ds)
 | .ext _ _ => .none
def D.pys : List D → List PyData
 | [] => []
 | d :: ds => d.py :: D.pys ds
end
mutual
def D.plain : D → Bool
 | .tup ds => D.kY ds
 | .lst _ ds => D.kY ds
 | .ext _ _ => false
 | _ => true
def D.kY : List D → Bool
 | [] => true
 | d :: ds => d.plain && D.kY ds
end
section
variable {X : Cx} {pins : Y8} {σ : L2.St} {F H : Hp} {s : Shared}
mutual
theorem eV (I : L2.Inv X pins σ H s) (hs : aW F H) : ∀ (d : D) {v : V} {fp : Y2} {u : Value}, d.plain = true → Own X.K F H d v fp → RelV v u → ∃ as, Reads s.heap u d.py as
 | .non, v, fp, u, _, o, r => by unfold Own at o; rw [o.1] at r; cases r; exact ⟨_, .none⟩
 | .bl b, v, fp, u, _, o, r => by unfold Own at o; rw [o.1] at r; cases r; exact ⟨_, .bool b⟩
 | .int i, v, fp, u, _, o, r => by unfold Own at o; rw [o.1] at r; obtain ⟨t, rfl⟩ := r; exact ⟨_, .int i t⟩
 | .str x, v, fp, u, _, o, r => by unfold Own at o; rw [o.1] at r; obtain ⟨t, rfl⟩ := r; exact ⟨_, .str x t⟩
 | .ext _ _, _, _, _, hp, _, _ => by simp [D.plain] at hp
 | .tup ds, v, fp, u, hp, o, r => by
  unfold Own at o
  obtain ⟨_, a, xs, e, q, rr⟩ := o
  rw [e] at r; cases r
  obtain ⟨its, rv, ⟨ob, h1, h2, n, h3⟩, _⟩ := I.tuple (aW.sO hs q)
  obtain ⟨as, h4⟩ := lZ I hs ds (by simpa [D.plain] using hp) rr rv
  exact ⟨_, .tuple h1 h2 h3 (by simpa using h4)⟩
 | .lst w ds, v, fp, u, hp, o, r => by
  obtain ⟨a, xs, fq, e, q, rr, _⟩ := Own.lst hs o
  rw [e] at r; cases r
  obtain ⟨its, rv, ⟨ob, n, h1, h2, _, h3⟩, _⟩ := I.list q
  obtain ⟨as, h4⟩ := lZ I hs ds (by simpa [D.plain] using hp) rr rv
  exact ⟨_, .list h1 h2 h3 (by simpa using h4)⟩
theorem lZ (I : L2.Inv X pins σ H s) (hs : aW F H) : ∀ (ds : List D) {vs : List V} {fp : Y2} {us : Y1}, D.kY ds = true → aG X.K F H ds vs fp → Vals vs us → ∃ as, ReadsAll s.heap us (D.pys ds) as
 | [], vs, fp, us, _, o, r => by unfold aG at o; rw [o.1] at r; cases r; exact ⟨_, .nil⟩
 | d :: ds, vs, fp, us, hp, o, r => by
  simp only [D.kY, Bool.and_eq_true] at hp
  unfold aG at o
  obtain ⟨v, vr, f1, f2, e, o1, o2, _⟩ := o
  rw [e] at r
  cases r with
  | cons r1 r2 =>
   obtain ⟨a1, q1⟩ := eV I hs d hp.1 o1 r1
   obtain ⟨a2, q2⟩ := lZ I hs ds hp.2 o2 r2
   exact ⟨_, .cons q1 q2⟩
end
end
def eqD (x y : D) : Bool := PyData.eqv x.py y.py
def zE (x y : D) : Bool := x.plain && y.plain && (x.py.canLay0 && y.py.canLay0 && decide (min x.py.depth y.py.depth ≤ 100))
def aMa (K : FG) (neg : Bool) : R2 := fun v u H Q => ∃ F x y fx fy, aW F H ∧ Own K F H x v fx ∧ Own K F H y u fy ∧ zE x y = true ∧ Q (.bl (if neg then !eqD x y else eqD x y)) H
def kEq (neg : Bool) : D × Bool → D × Bool → R (D × Bool) := fun x y => if zE x.1 y.1 then .ok (.bl (if neg then !eqD x.1 y.1 else eqD x.1 y.1), true) else .bad
theorem yQ {K : FG} {neg : Bool} : Op2 K (kEq neg) (aMa K neg) := by
 intro F0 H0 F H x y v u fx fy Q gr o1 n1 k1 o2 n2 k2 h
 unfold kEq at h
 by_cases hc : zE x.1 y.1 = true
 ·rw [if_pos hc] at h
  exact ⟨F, x.1, y.1, fx, fy, gr.inn, o1, o2, hc, EPost.eN gr h rfl⟩
 ·rw [if_neg hc] at h; exact h.elim
def oQ (x : D) (ds : List D) : Bool := x.plain && D.kY ds && (x.py.canLay0 && PyData.canLayAll0 (D.pys ds) && decide (min (PyData.depthAll (D.pys ds)) x.py.depth ≤ 100))
def inD (x : D) (ds : List D) : Bool := (D.pys ds).any fun y => PyData.eqv y x.py
def aM0 (K : FG) (neg : Bool) : R2 := fun v u H Q => ∃ F x ds fx fy, aW F H ∧ Own K F H x v fx ∧ ((∃ o, Own K F H (.lst o ds) u fy) ∨ Own K F H (.tup ds) u fy) ∧ oQ x ds = true ∧ Q (.bl (if neg then !inD x ds else inD x ds)) H
def kIn (neg : Bool) : D × Bool → D × Bool → R (D × Bool) := fun x y => match y.1 with
 | .lst _ ds => if oQ x.1 ds then .ok (.bl (if neg then !inD x.1 ds else inD x.1 ds), true) else .bad
 | .tup ds => if oQ x.1 ds then .ok (.bl (if neg then !inD x.1 ds else inD x.1 ds), true) else .bad
 | _ => .bad
theorem aJ6 {K : FG} {neg : Bool} : Op2 K (kIn neg) (aM0 K neg) := by
 intro F0 H0 F H x y v u fx fy Q gr o1 n1 k1 o2 n2 k2 h
 obtain ⟨y, b⟩ := y
 cases y <;> try exact h.elim
 ·rename_i ds
  have h : (if oQ x.1 ds = true then R.ok (D.bl (if neg then !inD x.1 ds else inD x.1 ds), true) else .bad).holds (EPost K F0 H0 Q) := h
  by_cases hc : oQ x.1 ds = true
  ·rw [if_pos hc] at h
   exact ⟨F, x.1, ds, fx, fy, gr.inn, o1, .inr o2, hc, EPost.eN gr h rfl⟩
  ·rw [if_neg hc] at h; exact h.elim
 ·rename_i o ds
  have h : (if oQ x.1 ds = true then R.ok (D.bl (if neg then !inD x.1 ds else inD x.1 ds), true) else .bad).holds (EPost K F0 H0 Q) := h
  by_cases hc : oQ x.1 ds = true
  ·rw [if_pos hc] at h
   exact ⟨F, x.1, ds, fx, fy, gr.inn, o1, .inl ⟨o, o2⟩, hc, EPost.eN gr h rfl⟩
  ·rw [if_neg hc] at h; exact h.elim
section
variable {X : Cx} {k : Nat}
theorem uX (hr : Room k X.A) {n : Nat} (h : n ≤ 100) : X.A.units + 1 + n < cLine := by have := hr.un; omega
theorem aFh (hr : Room k X.A) : OpR X (compareOp .Eq) (aMa X.K false) := by
 intro pins s σ H v u vv uu Q I rx ry h
 obtain ⟨F, x, y, fx, fy, hs, o1, o2, hc, q⟩ := h
 unfold zE at hc
 simp only [Bool.and_eq_true, decide_eq_true_iff] at hc
 obtain ⟨_, r1⟩ := eV I hs x hc.1.1 o1 rx
 obtain ⟨_, r2⟩ := eV I hs y hc.1.2 o2 ry
 exact PySem.SeqAt.compareEq_reads r1 r2 hc.2.1.1 hc.2.1.2 (by have := uX hr hc.2.2; omega) ⟨.bl _, H, I, rfl, q⟩
theorem aLt (hr : Room k X.A) : OpR X (compareOp .NotEq) (aMa X.K true) := by
 intro pins s σ H v u vv uu Q I rx ry h
 obtain ⟨F, x, y, fx, fy, hs, o1, o2, hc, q⟩ := h
 unfold zE at hc
 simp only [Bool.and_eq_true, decide_eq_true_iff] at hc
 obtain ⟨_, r1⟩ := eV I hs x hc.1.1 o1 rx
 obtain ⟨_, r2⟩ := eV I hs y hc.1.2 o2 ry
 exact PySem.SeqAt.compareNe_reads r1 r2 hc.2.1.1 hc.2.1.2 (by have := uX hr hc.2.2; omega) ⟨.bl _, H, I, rfl, q⟩
theorem aCt (hr : Room k X.A) : OpR X (compareOp .NotIn) (aM0 X.K true) := by
 intro pins s σ H v u vv uu Q I rx ry h
 obtain ⟨F, x, ds, fx, fy, hs, o1, o2, hc, q⟩ := h
 unfold oQ at hc
 simp only [Bool.and_eq_true, decide_eq_true_iff] at hc
 obtain ⟨_, r1⟩ := eV I hs x hc.1.1 o1 rx
 have hu := uX hr hc.2.2
 rcases o2 with ⟨o, o2⟩ | o2
 ·obtain ⟨_, r2⟩ := eV I hs _ (by simpa [D.plain] using hc.1.2) o2 ry
  exact PySem.SeqAt.notIn_list_reads (by unfold D.py at r2; exact r2) r1 hc.2.1.2 hc.2.1.1 hu ⟨.bl _, H, I, rfl, q⟩
 ·obtain ⟨_, r2⟩ := eV I hs _ (by simpa [D.plain] using hc.1.2) o2 ry
  exact PySem.SeqAt.notIn_tuple_reads (by unfold D.py at r2; exact r2) r1 hc.2.1.2 hc.2.1.1 hu ⟨.bl _, H, I, rfl, q⟩
end
end VL
end
section
namespace VL
open PySem PySem.Spec PyProof.Rows L2
def zX (T : String) (d : D) : Bool := match d with
 | .non => false | .bl _ => T == "bool" || T == "int" | .int _ => T == "int" | .str _ => T == "str" | .tup _ => T == "tuple" | .lst _ _ => T == "list" | .ext _ _ => false
def mL : D → Bool
 | .ext _ _ => false | _ => true
def pL : List String := ["bool", "int", "str", "tuple", "list"]
section
variable {X : Cx}
theorem aLp {K : FG} {T : String} (hT : T ∈ pL) : PySem.W.kitOne K (.type "NoneType") (.type T) = some false ∧ PySem.W.kitOne K (.type "bool") (.type T) = some (T == "bool" || T == "int") ∧ PySem.W.kitOne K (.type "int") (.type T) = some (T == "int") ∧
  PySem.W.kitOne K (.type "str") (.type T) = some (T == "str") ∧ PySem.W.kitOne K (.type "tuple") (.type T) = some (T == "tuple") ∧ PySem.W.kitOne K (.type "list") (.type T) = some (T == "list") := by
 have h : T = "bool" ∨ T = "int" ∨ T = "str" ∨ T = "tuple" ∨ T = "list" := by simpa [pL] using hT
 rcases h with rfl | rfl | rfl | rfl | rfl <;> refine ⟨?_, ?_, ?_, ?_, ?_, ?_⟩ <;> first | rfl | decide +kernel | kernel_rfl
theorem aDr {T : String} (hT : T ∈ pL) : lT X (.builtin "isinstance") (fun vs H Q => ∃ F d v fp, aW F H ∧ vs = [v, .ty T] ∧ Own X.K F H d v fp ∧ mL d = true ∧ Q (.bl (zX T d)) H) := by
 intro pins s σ H vs us Q I r h
 obtain ⟨F, d, v, fp, hs, e, o, hne, q⟩ := h
 subst e
 obtain ⟨u, u2, rfl, r1, r2⟩ := r.two
 cases r2
 obtain ⟨k1, k2, k3, k4, k5, k6⟩ := aLp (K := X.K) hT
 have fin : ∀ b tk, zX T d = b → EP X pins σ Q (.bool b) { s with toks := tk } := fun b tk e => ⟨.bl b, H, I.tok _, rfl, e ▸ q⟩
 cases d with
 | non => unfold Own at o; rw [o.1] at r1; exact gO I r1 (.non) k1 fun tk => fin _ tk rfl
 | bl b => unfold Own at o; rw [o.1] at r1; exact gO I r1 (.bl b) k2 fun tk => fin _ tk rfl
 | int b => unfold Own at o; rw [o.1] at r1; exact gO I r1 (.int b) k3 fun tk => fin _ tk rfl
 | str b => unfold Own at o; rw [o.1] at r1; exact gO I r1 (.str b) k4 fun tk => fin _ tk rfl
 | tup ds =>
  unfold Own at o
  obtain ⟨_, a, xs, e, hy, _⟩ := o
  rw [e] at r1
  cases (show u = Value.ref a from r1)
  obtain ⟨its, rv, ⟨ob, h1, h2, _⟩, _⟩ := I.tuple (aW.sO hs hy)
  exact PySem.W.kia_one PySem.W.kitx_tuple I.kIn ⟨ob, h1, h2⟩ k5 (fun z => nomatch z) fun tk => fin _ tk rfl
 | ext _ _ => cases hne
 | lst w ds =>
  obtain ⟨a, xs, fq, e, q1, _⟩ := Own.aH7 hs o
  rw [e] at r1
  rcases q1 with q1 | ⟨ob, q1⟩
  ·exact gO I r1 (.lst q1) k6 fun tk => fin _ tk rfl
  ·exact gO I r1 (.frz q1) k6 fun tk => fin _ tk rfl
def iE (T : String) : D × Bool → R (D × Bool) := fun x => if mL x.1 then .ok (.bl (zX T x.1), true) else .bad
theorem gX {T : Str} {T' : String} {a : Expr} {f : aQ} {p q pos : Pos} (hT : T' ∈ pL) (ha : SE X a f) (hm : X.mg "isinstance" = none) (hm2 : X.mg T = none) (hv : bootBuiltins T = some (.type T')) (hg : Gl X "isinstance" := by rfl) (hg2 : Gl X T := by rfl) (hn : T ≠ "__name__" := by decide) (hd : (T == ("__debug__" : Str)) = false := by decide)
  (hs1 : starEach [a, .Name T q] X.env = (false, eval a X.env) :: starEach [.Name T q] X.env := by rfl) (hs2 : starEach [.Name T q] X.env = (false, eval (.Name T q) X.env) :: starEach [] X.env := by rfl)
  (hpl : (backTo pos (starEach [.Name T q] X.env)).any (·.1) = false := by rfl) : SE X (.Call (.Name "isinstance" p) [a, .Name T q] [] pos) (v1 (iE T') f) :=
 (vP (aDr hT) hg hm PyProof.Rows.boot_isinstance (jY ha (jY (aHg (v := .ty T') hg2 hm2 hv rfl hn hd) rH hs2) hs1) (by decide) (by decide) hs1 hpl).imp fun σ H Q h => by
  obtain ⟨ρ, F, fps, S, h⟩ := h
  refine ⟨ρ, F, fps, S, R.aO (R.aP.mp h) fun x hx v F1 H1 fx g1 o1 n1 k1 => ?_⟩
  unfold iE at hx
  by_cases hc : mL x.1 = true
  ·rw [if_pos hc] at hx
   exact ⟨F1, x.1, v, fx, g1.inn, rfl, o1, hc, EPost.eN g1 hx rfl⟩
  ·rw [if_neg hc] at hx; exact hx.elim
def bY : List D → Option (Y0)
 | [] => some []
 | .int i :: ds => (bY ds).map (i :: ·)
 | _ => none
theorem dZ {K : FG} {F H : Hp} : ∀ (ds : List D) {ns : Y0} {xs : List V} {fp : Y2}, bY ds = some ns → aG K F H ds xs fp → xs = ns.map V.int
 | [], ns, xs, fp, e, o => by unfold bY at e; cases e; unfold aG at o; exact o.1
 | d :: ds, ns, xs, fp, e, o => by
  cases d <;> try (unfold bY at e; cases e; done)
  rename_i i
  unfold bY at e
  cases q : bY ds with
  | none => rw [q] at e; cases e
  | some ms =>
   rw [q] at e
   have e : some (i :: ms) = some ns := e
   cases e
   unfold aG at o
   obtain ⟨v, r, f1, f2, e1, o1, o2, _⟩ := o
   unfold Own at o1
   rw [e1, o1.1, dZ ds q o2]; rfl
theorem aB8 (hc : X.calm = true) : lT X (.builtin "sum") (fun xs H Q => ∃ (p : Addr) (ns : Y0), xs = [.ref p] ∧ SqL X.K H p (ns.map V.int) ∧ Q (.int ns.sum) H) := by
 intro pins s σ H xs us Q I r h
 obtain ⟨p, ns, rfl, hq, q⟩ := h
 obtain ⟨u, rfl, ru⟩ := vals1 r
 cases ru
 obtain ⟨its, rv, pl, _⟩ := I.list hq
 have hi : IntsAre its ns := intsAre_of rv
 obtain ⟨ys, hx⟩ := hi.allInts.items
 have hl' : s.heap.IsList p (intItems ys) := hx ▸ pl.isList
 refine sum_intListG (I.ok.hd hc) hl' fun h' tk t' hk => ?_
 have e1 : ns = ys.toList.map (·.1) := by
  rw [← nums_intItems, ← hx]
  exact (show numsOf its.toArray.toList = ns from hi.numsOf).symm
 have e2 : preSum (numAt ys) ys.size = ns.sum := by
  rw [preSum_eq, List.take_of_length_le (by simp), e1]
 rw [e2]
 exact ⟨.int _, H, I.kept hk, ⟨_, rfl⟩, q⟩
def aH3 : List (D × Bool) → R (D × Bool)
 | [(.lst _ ds, _)] => (match bY ds with | some ns => .ok (.int ns.sum, true) | none => .bad) | _ => .bad
theorem aFz {K : FG} : OpA K aH3 (fun xs H Q => ∃ (p : Addr) (ns : Y0), xs = [.ref p] ∧ SqL K H p (ns.map V.int) ∧ Q (.int ns.sum) H) := by
 intro F0 H0 F H xs vs fa Q gr a n k h
 match xs, h, a with
 | [(.lst o ds, b)], h, a =>
  unfold Args at a
  obtain ⟨v, r, fp, f2, e, o1, n1, t, w⟩ := a
  unfold Args at t
  obtain ⟨p, ys, fq, e1, q1, r1, _⟩ := Own.lst gr.inn o1
  have h : (match bY ds with | some ns => R.ok (D.int ns.sum, true) | none => R.bad).holds (EPost K F0 H0 Q) := h
  cases q : bY ds with
  | none => rw [q] at h; exact h.elim
  | some ns =>
   rw [q] at h
   rw [dZ ds q r1] at q1
   exact ⟨p, ns, by rw [e, t.1, e1], q1, EPost.eN gr h rfl⟩
theorem aBw (hc : X.calm = true) : lT X (.builtin "min") (fun xs H Q => ∃ (p : Addr) (ns : Y0) (m : Int), xs = [.ref p] ∧ SqL X.K H p (ns.map V.int) ∧ ns.min? = some m ∧ Q (.int m) H) := by
 intro pins s σ H xs us Q I r h
 obtain ⟨p, ns, m, rfl, hq, hm, q⟩ := h
 obtain ⟨u, rfl, ru⟩ := vals1 r
 cases ru
 obtain ⟨its, rv, pl, _⟩ := I.list hq
 have hi : IntsAre its ns := intsAre_of rv
 obtain ⟨ys, hx⟩ := hi.allInts.items
 have hl' : s.heap.IsList p (intItems ys) := hx ▸ pl.isList
 have e1 : ns = ys.toList.map (·.1) := by
  rw [← nums_intItems, ← hx]
  exact (show numsOf its.toArray.toList = ns from hi.numsOf).symm
 have hne : 0 < ns.length := by
  cases ns with
  | nil => cases hm
  | cons _ _ => simp
 have hsz : 0 < ys.size := by
  have h3 := hne; rw [e1, List.length_map, Array.length_toList] at h3; exact h3
 refine min_intList (I.ok.hd hc) hl' hsz fun v h' tk hv hk => ?_
 obtain ⟨t, rfl⟩ := intItems_at hv
 obtain ⟨h1, h2⟩ := argBest_lt (numAt ys) (ys.size - 1)
 have hm2 : numAt ys (argBest (fun i j => decide (numAt ys i < numAt ys j)) (ys.size - 1)) = m := by
  have hmm := List.min?_eq_some_iff.mp hm
  refine Int.le_antisymm ?_ ?_
  ·obtain ⟨j, hj, ej⟩ := mem_getD (e1 ▸ hmm.1)
   rw [List.length_map, Array.length_toList] at hj
   rw [← ej, ← numAt_eq]
   exact h2 j (by omega)
  ·refine hmm.2 _ ?_
   rw [e1, numAt_eq]; exact getD_mem (by rw [List.length_map, Array.length_toList]; omega)
 rw [hm2]
 exact ⟨.int _, H, I.kept hk, ⟨_, rfl⟩, q⟩
def aGf : List (D × Bool) → R (D × Bool)
 | [(.lst _ ds, _)] => (match (bY ds).bind List.min? with | some m => .ok (.int m, true) | none => .bad)
 | _ => .bad
theorem aHj {K : FG} : OpA K aGf (fun xs H Q => ∃ (p : Addr) (ns : Y0) (m : Int), xs = [.ref p] ∧ SqL K H p (ns.map V.int) ∧ ns.min? = some m ∧ Q (.int m) H) := by
 intro F0 H0 F H xs vs fa Q gr a n k h
 match xs, h, a with
 | [(.lst o ds, b)], h, a =>
  unfold Args at a
  obtain ⟨v, r, fp, f2, e, o1, n1, t, w⟩ := a
  unfold Args at t
  obtain ⟨p, ys, fq, e1, q1, r1, _⟩ := Own.lst gr.inn o1
  have h : (match (bY ds).bind List.min? with | some m => R.ok (D.int m, true) | none => R.bad).holds (EPost K F0 H0 Q) := h
  cases q : bY ds with
  | none => rw [q] at h; exact h.elim
  | some ns =>
   rw [q] at h
   rw [dZ ds q r1] at q1
   dsimp only [Option.bind] at h
   cases qm : ns.min? with
   | none => rw [qm] at h; exact h.elim
   | some m => rw [qm] at h; exact ⟨p, ns, m, by rw [e, t.1, e1], q1, qm, EPost.eN gr h rfl⟩
def k2i (g : Int → Int → Int) : List (D × Bool) → R (D × Bool)
 | [(.int i, _), (.int j, _)] => .ok (.int (g i j), true) | _ => .bad
theorem aKx {K : FG} {g : Int → Int → Int} : OpA K (k2i g) (fun xs H Q => ∃ i j, xs = [.int i, .int j] ∧ Q (.int (g i j)) H) := by
 intro F0 H0 F H xs vs fa Q gr a n k h
 match xs, h, a with
 | [(.int i, b), (.int j, b')], h, a =>
  unfold Args at a
  obtain ⟨v, r, fp, f2, e, o1, n1, t, w⟩ := a
  unfold Args at t
  obtain ⟨v', r', fp', f2', e', o1', n1', t', w'⟩ := t
  unfold Args at t'
  unfold Own at o1 o1'
  exact ⟨i, j, by rw [e, e', t'.1, o1.1, o1'.1], EPost.eN gr h rfl⟩
end
end VL
end
section
namespace VL
open PySem PySem.Spec PyProof.Rows L2
section
variable {X : Cx} {W : XW} {e a b c : Expr} {es : List Expr} {st : Stmt} {pos : Pos}
def fits (i : Int) : Bool := decide (-(2 ^ 200) < i) && decide (i < 2 ^ 200)
theorem aE0 {i : Int} (h : fits i = true) : i.natAbs < 2 ^ 200 := by
 unfold fits at h
 rw [Bool.and_eq_true, decide_eq_true_iff, decide_eq_true_iff] at h
 have e : (2 : Int) ^ 200 = ((2 ^ 200 : Nat) : Int) := by norm_cast
 rw [e] at h
 omega
theorem xU {i : Int} (h : fits i = true) : i.natAbs.log2 < 200 := by
 by_cases h0 : i.natAbs = 0
 ·rw [h0]; decide
 ·exact (Nat.log2_lt h0).mpr (aE0 h)
def aMv (i j : Int) : Prop := 0 < j ∧ fits j = true
theorem aDz : OpR X (binaryOp .FloorDiv) (rI aMv fun i j => .int (i / j)) := opI fun i j _ _ _ _ _ hc q => by
 have h1 : (0 : Int) < j := hc.1
 exact floordiv_int (by omega) (by rw [Int.fdiv_eq_ediv_of_nonneg i (by omega)]; exact q) (.inl (PyProof.noPylong_of_log2 (Nat.lt_trans (xU hc.2) (by decide))))
abbrev tJ := kIc (fun _ j => decide (0 < j) && fits j) fun i j => .int (i / j)
theorem nZ {f g : aQ} (ha : SE X a f) (hb : SE X b g) : SE X (.BinOp a .FloorDiv b pos) (v2 tJ f g) := vY aDz (aAb (fun _ _ => rfl) fun i j h => by
 rw [Bool.and_eq_true, decide_eq_true_iff] at h; exact h) ha hb
theorem Op2.or {K : FG} {k k1 k2 : D × Bool → D × Bool → R (D × Bool)} {r1 r2 : R2} (h1 : Op2 K k1 r1) (h2 : Op2 K k2 r2) (hk : ∀ x y, k x y = k1 x y ∨ k x y = k2 x y) : Op2 K k (fun x y H Q => r1 x y H Q ∨ r2 x y H Q) := by
 intro F0 H0 F H x y v u fx fy Q gr o1 n1 q1 o2 n2 q2 h
 rcases hk x y with e | e
 ·rw [e] at h; exact .inl (h1 F0 H0 F H x y v u fx fy Q gr o1 n1 q1 o2 n2 q2 h)
 ·rw [e] at h; exact .inr (h2 F0 H0 F H x y v u fx fy Q gr o1 n1 q1 o2 n2 q2 h)
def bU : D × Bool → D × Bool → R (D × Bool) := fun x y => match x.1 with
 | .int _ => aNt x y | .lst _ _ => aJv x y | .tup _ => aDn x y | _ => .bad
theorem aFe (x y : D × Bool) : bU x y = aNt x y ∨ (bU x y = aJv x y ∨ bU x y = aDn x y) := by
 obtain ⟨x, bx⟩ := x
 cases x <;> first | exact .inl rfl | exact .inr (.inl rfl) | exact .inr (.inr rfl)
theorem Op2.eqv {K : FG} {k k1 k2 k3 : D × Bool → D × Bool → R (D × Bool)} {r1 r2 r3 : R2} (h1 : Op2 K k1 r1) (h2 : Op2 K k2 r2) (h3 : Op2 K k3 r3) (hk : ∀ x y, k x y = k1 x y ∨ (k x y = k2 x y ∨ k x y = k3 x y)) : Op2 K k (fun x y H Q => r1 x y H Q ∨ (r2 x y H Q ∨ r3 x y H Q)) := by
 intro F0 H0 F H x y v u fx fy Q gr o1 n1 q1 o2 n2 q2 h
 rcases hk x y with e | e | e
 ·rw [e] at h; exact .inl (h1 F0 H0 F H x y v u fx fy Q gr o1 n1 q1 o2 n2 q2 h)
 ·rw [e] at h; exact .inr (.inl (h2 F0 H0 F H x y v u fx fy Q gr o1 n1 q1 o2 n2 q2 h))
 ·rw [e] at h; exact .inr (.inr (h3 F0 H0 F H x y v u fx fy Q gr o1 n1 q1 o2 n2 q2 h))
theorem bO {f g : aQ} (ha : SE X a f) (hb : SE X b g) : SE X (.BinOp a .Add b pos) (v2 bU f g) :=
 vY (aJy.or (aFy.or aGx)) (Op2.eqv (aA8 fun _ _ => rfl) aGe aD3 aFe) ha hb
def aIq (i j : Int) : Prop := fits i = true ∧ fits j = true
theorem intBits_le {i : Int} (h : fits i = true) : Builtin.Int.intBits i ≤ 2 ^ 20 := by
 unfold Builtin.Int.intBits
 have := xU h
 split <;> omega
theorem aF7 : OpR X (binaryOp .Mult) (rI aIq fun i j => .int (i * j)) := opI fun i j _ _ _ _ _ hc q => mul_int q (.of_bits (intBits_le hc.1) (intBits_le hc.2))
abbrev aIv := kIc (fun i j => fits i && fits j) fun i j => .int (i * j)
theorem aEg {K : FG} : Op2 K aIv (rI aIq fun i j => .int (i * j)) := aAb (fun _ _ => rfl) fun i j h => by
 rw [Bool.and_eq_true] at h; exact h
def aI5 : D × Bool → D × Bool → R (D × Bool) := fun x y => match x.1, y.1 with
 | .lst true ds, .int k => if D.bK ds && decide (k < 1000000) && decide (-1000000 < k) && decide (ds.length * k.toNat ≤ 1000000) then .ok (.lst true (List.replicate k.toNat ds).flatten, true) else .bad
 | _, _ => .bad
theorem aEn {K : FG} : Op2 K aI5 aOc := by
 intro F0 H0 F H x y v u fx fy Q gr o1 n1 k1 o2 n2 k2 h
 obtain ⟨x, bx⟩ := x
 obtain ⟨y, by'⟩ := y
 cases x <;> try exact h.elim
 rename_i o ds
 cases o
 ·cases y <;> exact h.elim
 ·cases y <;> try exact h.elim
  rename_i k
  have h : (if (D.bK ds && decide (k < 1000000) && decide (-1000000 < k) && decide (ds.length * k.toNat ≤ 1000000)) = true then R.ok (D.lst true (List.replicate k.toNat ds).flatten, true) else R.bad).holds (EPost K F0 H0 Q) := h
  by_cases hc : (D.bK ds && decide (k < 1000000) && decide (-1000000 < k) && decide (ds.length * k.toNat ≤ 1000000)) = true
  ·rw [if_pos hc] at h
   simp only [Bool.and_eq_true, decide_eq_true_iff] at hc
   obtain ⟨a, xs, fq, e1, r1, q0, q1, _⟩ := Own.opened o1
   unfold Own at o2
   have := aG.dR ds hc.1.1.1 r1
   subst this
   refine ⟨a, k, xs, e1, o2.1, q1, by omega, by omega, ?_, fun p hp => EPost.aCy gr h hp (aG.rep r1 _)⟩
   rw [← aG.length ds r1]; exact gG hc.2
  ·rw [if_neg hc] at h; exact h.elim
def jW : D × Bool → D × Bool → R (D × Bool) := fun x y => match x.1 with
 | .int _ => aIv x y | .lst _ _ => aI5 x y | _ => .bad
theorem jC {f g : aQ} (ha : SE X a f) (hb : SE X b g) : SE X (.BinOp a .Mult b pos) (v2 jW f g) :=
 vY (aF7.or aLm) (Op2.or aEg aEn fun x y => by
  obtain ⟨x, bx⟩ := x
  cases x <;> first | exact .inl rfl | exact .inr rfl) ha hb
theorem aOk {k : Nat} {f g : aQ} (hr : Room k X.A) (ha : SE X a f) (hb : SE X b g) : SE X (.Compare a [.Eq] [b] pos) (v2 (kEq false) f g) := zF (aFh hr) yQ ha hb (iM _)
theorem tV {k : Nat} {f g : aQ} (hr : Room k X.A) (ha : SE X a f) (hb : SE X b g) : ST X (.Compare a [.Eq] [b] pos) (aV (v2 (kEq false) f g)) := kR (aFh hr) yQ ha hb (iM _)
theorem lP {k : Nat} {f g : aQ} (hr : Room k X.A) (ha : SE X a f) (hb : SE X b g) : ST X (.Compare a [.NotEq] [b] pos) (aV (v2 (kEq true) f g)) := kR (aLt hr) yQ ha hb (iM _)
theorem zN {k : Nat} {f g : aQ} (hr : Room k X.A) (ha : SE X a f) (hb : SE X b g) (hm : behindInMarks .NotIn b = false := by with_unfolding_all rfl) : ST X (.Compare a [.NotIn] [b] pos) (aV (v2 (kIn true) f g)) := kR (aCt hr) aJ6 ha hb hm
theorem aGg {f g : aQ} (ha : SE X a f) (hb : SE X b g) : SE X (.Compare a [.IsNot] [b] pos) (v2 (kJ true) f g) := zF aAj wZ ha hb (iM _)
theorem aL2 {f g : aQ} (ha : SE X a f) (hb : SE X b g) : ST X (.Compare a [.Is] [b] pos) (aV (v2 (kJ false) f g)) := kR aKw aG8 ha hb (iM _)
theorem pM {f g : aQ} (ha : SE X a f) (hb : SE X b g) : ST X (.Compare a [.IsNot] [b] pos) (aV (v2 (kJ true) f g)) := kR aAj wZ ha hb (iM _)
theorem aOe {f g : aQ} (ha : SE X a f) (hb : SE X b g) : SE X (.Compare a [.Gt] [b] pos) (v2 kGt f g) := zF aIo aIh ha hb (iM _)
theorem qA {f g : aQ} (ha : SE X a f) (hb : SE X b g) : ST X (.Compare a [.Lt] [b] pos) (aV (v2 kLt f g)) := kR aMx aNw ha hb (iM _)
theorem aDi {f g : aQ} (ha : SE X a f) (hb : SE X b g) : ST X (.Compare a [.Gt] [b] pos) (aV (v2 kGt f g)) := kR aIo aIh ha hb (iM _)
theorem eF (i : Nat) {x : Str} {f : aQ} {p ap cp pos' : Pos} (he : SE X e f) (hN : X.N[i]? = some x := by rfl) (hv : Vis X.env.scope x := by first | exact Or.inl rfl | exact Or.inr (Or.inl rfl) | exact Or.inr (Or.inr rfl)) (hd : (x == ("__debug__" : Str)) = false := by decide)
  (hcd : (x == ("__classdict__" : Str)) = false := by decide) (hs : swapsWith (.Call (.Attribute (.Name x p) "append" ap) [e] [] cp) none pos'.line X.env = pure false := by rfl)
  (hbase : attributeBase (.Name x p) "append" X.env (eval (.Name x p) X.env) = eval (.Name x p) X.env := by rfl)
  (hfew : ((backTo cp (starEach [e] X.env)).all (fun x => !x.1) && (backToKw cp (keywordEach [] X.env)).all (fun x => x.1.isSome)
   && decide (([e] : List Expr).length + ([] : List Keyword).length + (if ([] : List Keyword).isEmpty then 0 else 1) < 30)) = true := by rfl)
  (hline : (ap.endLine == cp.line) = true := by rfl) (hst : starEach [e] X.env = (false, eval e X.env) :: starEach [] X.env := by rfl) (hplain : (backTo cp (starEach [] X.env)).any (·.1) = false := by rfl) :
  SS X W (.Expr (.Call (.Attribute (.Name x p) "append" ap) [e] [] cp) pos') (cG i f) :=
 (pG (aIc PySem.F.plainAttrs_list PySem.F.slot_list_append PySem.F.type_list_append oR (mI hN hv hd hcd) (jY he rH hst) hbase hfew hline hst hplain) hs).imp fun _ _ _ h => aCi h
theorem aGy {elt iter tg : Expr} {ifs : List Expr} {scope : Scope} {f : iT} {N : List Str} {nt : Nat} {js : T0} {set : D → Env → Option Env} {g : TG} {tc : bZ} {te : aQ}
  (hc : X.calm = true) (hi : SI X tg iter f) (ht : Tgt X.K set g) (hkind : scope.kind = .function) (hcell : ∀ y ∈ scope.names, y.2 ≠ .cell) (hnames : ∀ y ∈ scope.names, y.2 = .local → scope.names.lookup y.1 = some .local)
  (hfr : ∀ y ∈ scope.names, y.2 = .free → X.env.kindOf y.1 = some .cell ∨ X.env.kindOf y.1 = some .free)
  (hlen : nt + js.length = N.length)
  (hjs : ∀ (k : Nat) (j : Nat), js[k]? = some j → ∃ x, N[nt + k]? = some x ∧ X.N[j]? = some x ∧ scope.names.lookup x = some .free)
  (hb : ∀ cl s3 H3 fp, PG (blk X scope cl N s3 H3 fp) tg g ∧ PTs (blk X scope cl N s3 H3 fp) ifs (tvT X.K tc) ∧ SE (blk X scope cl N s3 H3 fp) elt te)
  (hs : ∀ x, foldedSetIterable iter X.env x = pure x := by intro _; rfl) : SE X (.ListComp elt [⟨tg, iter, ifs, 0⟩] scope pos) (cB f nt js set tc te) :=
 (aHv hc hi hkind hcell hnames hfr hlen hjs hb hs).imp fun _ _ _ h => aBi ht h
def dD : bZ := fun _ => .ok true
theorem vT {Y : Cx} : PTs Y [] (tvT Y.K dD) := fun pins s σ H Q I h => aGb pins s σ H Q I (by
 obtain ⟨ρ, F, fps, S, h⟩ := h
 exact h F H (Grow.refl S.same))
theorem aOy {Y : Cx} {c : Expr} {t : bZ} (h : ST Y c t) : PTs Y [c] (tvT Y.K t) := aHl h
theorem fM {f : aQ} {p : Pos} (hm : X.mg "len" = none) (ha : SE X a f) (hg : Gl X "len" := by rfl) (hs : starEach [a] X.env = (false, eval a X.env) :: starEach [] X.env := by rfl) : SE X (.Call (.Name "len" p) [a] [] pos) (vCB iD (aD f aM)) :=
 aBe uU aGq hm PySem.boot_len (aC ha aI hs) hg (by decide) (by decide) hs
theorem aF8 {f : aQ} {p : Pos} (hm : X.mg "list" = none) (ha : SE X a f) (hg : Gl X "list" := by rfl) (hs : starEach [a] X.env = (false, eval a X.env) :: starEach [] X.env := by rfl) (hv : bootBuiltins "list" = some (.type "list") := by decide +kernel) : SE X (.Call (.Name "list" p) [a] [] pos) (vCB tH (aD f aM)) :=
 aKh uZ aC1 hm hv (aC ha aI hs) hg (by decide) (by decide) hs
theorem aK7 {f : aQ} {p : Pos} (hc : X.calm = true) (hm : X.mg "sum" = none) (ha : SE X a f) (hg : Gl X "sum" := by rfl) (hs : starEach [a] X.env = (false, eval a X.env) :: starEach [] X.env := by rfl) (hv : bootBuiltins "sum" = some (.builtin "sum") := by decide +kernel) : SE X (.Call (.Name "sum" p) [a] [] pos) (vCB aH3 (aD f aM)) :=
 aBe (aB8 hc) aFz hm hv (aC ha aI hs) hg (by decide) (by decide) hs
theorem aLf {f : aQ} {p : Pos} (hc : X.calm = true) (hm : X.mg "min" = none) (ha : SE X a f) (hg : Gl X "min" := by rfl) (hs : starEach [a] X.env = (false, eval a X.env) :: starEach [] X.env := by rfl) (hv : bootBuiltins "min" = some (.builtin "min") := by decide +kernel) : SE X (.Call (.Name "min" p) [a] [] pos) (vCB aGf (aD f aM)) :=
 aBe (aBw hc) aHj hm hv (aC ha aI hs) hg (by decide) (by decide) hs
theorem aHq {f g : aQ} {p : Pos} (hc : X.calm = true) (hm : X.mg "max" = none) (ha : SE X a f) (hb : SE X b g) (hg : Gl X "max" := by rfl) (hs : starEach [a, b] X.env = (false, eval a X.env) :: starEach [b] X.env := by rfl) (hs2 : starEach [b] X.env = (false, eval b X.env) :: starEach [] X.env := by rfl) (hv : bootBuiltins "max" = some (.builtin "max") := by decide +kernel)
  (hpl : (backTo pos (starEach [b] X.env)).any (·.1) = false := by rfl) : SE X (.Call (.Name "max" p) [a, b] [] pos) (vCB (k2i fun i j => if j > i then j else i) (aD f (aD g aM))) :=
 aBe (aBr hc) aKx hm hv (aC ha (aC hb aI hs2) hs) hg (by decide) (by decide) hs hpl
theorem _root_.L2.PI.or {tg it : Expr} {t t' : TI} (h : PI X tg it t) (h' : PI X tg it t') : PI X tg it (fun σ H R => t σ H R ∨ t' σ H R) := by
 intro pins s σ H R I q
 rcases q with q | q
 ·exact h pins s σ H R I q
 ·exact h' pins s σ H R I q
theorem iR {tg : Expr} {f : aQ} (h : SE X e f) : SI X tg e (kA f) := ((aGc h).or (aLl h)).imp fun _ _ _ h => aLh h
theorem oA {f : aQ} {p tp : Pos} {elts : List Expr} {k : Nat} (hm : X.mg "enumerate" = none) (ha : SE X a f) (hg : Gl X "enumerate" := by rfl) (hs : starEach [a] X.env = [(false, eval a X.env)] := by rfl) (hs1 : starEach [a] X.env = (false, eval a X.env) :: starEach [] X.env := by rfl) : SI X (.Tuple elts k tp) (.Call (.Name "enumerate" p) [a] [] pos) (rR f) :=
 (aG9 hg hm (jY ha rH hs1) hs).imp fun _ _ _ h => aJm h
end
end VL
end
section
namespace VL
open PySem PySem.Spec PyProof.Rows L2
structure FnAt (K : FG) (x : Str) (st : Stmt) : Prop where
 ex : ∃ (f : Addr) (fd : FuncData), PySem.W.nsIn K mainGlobals x = some (some (.ref f)) ∧ Fun K x x st f fd
theorem bD {K : FG} {x : Str} {st : Stmt} {f : Addr} {oc : Value} {od an : Option Addr} {osl : Array (Option Value)} {kV doc pm cdv ct : Value} (a : PySem.W.nsIn K mainGlobals x = some (some (.ref f))) (l : K.lookup f = some ⟨oc, od, .func (PySem.W.fnOf x x (iI st) (fF st) (aK st) .none kV doc pm an cdv ct), osl⟩)
  (c : PySem.W.codeIn K cdv x = true) (k : PySem.W.keepIn K (.ref f) = true) : FnAt K x st := ⟨f, _, a, aKo l c k⟩
section
variable {P : Program} {w : World} {K : FG} {mg : Y6} {base : Heap}
theorem cZ {x : Str} {st : Stmt} {N ps : List Str} {k n np : Nat} {body : aU} (F : FnAt K x st) (kb : K.In base) (nb : base.Ns mainGlobals mg) (S : FnScope N ps (aK st)) (hN : N.length = n) (hnp : ps.length = np) (hk : np ≤ n)
  (hb : ∀ (kV doc pm : Value) (an : Option Addr) (cdv ct : Value) (us : Y1), us.length = ps.length → bindArgs (PySem.W.fnOf x x (iI st) (fF st) (aK st) .none kV doc pm an cdv ct) ⟨us, []⟩ = pure (ps.zip us))
  (hbody : ∀ (f : Addr) (cdv : Value) (A : Around) (outer : List PySem.Env) (s : Shared) (H : Hp) (E : XK), Room k (A.deeper (envOfC x (aK st) s.heap.objs.size f cdv)) →
   SSs (lK (CX1 P w) P w K mg base N x (aK st) f cdv A outer s H E) (wOf K E) (fF st) body) : Kn P w K mg base (k + 1) x np (fnOf n body) := by
 obtain ⟨f, fd, hf, F⟩ := F.ex
 refine ⟨f, fd, ps, ?_, PySem.W.mg_of kb nb hf, F.kp, F.binds hb⟩
 obtain ⟨oc, od, kV, doc, pm, an, cdv, ct, osl, rfl, lk, hcd⟩ := F.ex
 refine aIx lk hcd S (fun vs H Q E h => h.1.trans hnp.symm) fun A outer s H vs Q E hr hsp => ?_
 exact ⟨_, hbody f cdv A outer s H E hr, aIl hN hk hsp⟩
end
def uF (scope sc : Scope) (N XN : List Str) (nt : Nat) (js : T0) : Bool :=
 (scope.kind == .function) && (scope.names.all fun y => y.2 != .cell) && (scope.names.all fun y => y.2 != .local || scope.names.lookup y.1 == some .local) &&
 (scope.names.all fun y => y.2 != .free || (sc.names.lookup y.1 == some .cell || sc.names.lookup y.1 == some .free)) && (nt + js.length == N.length) &&
 (js.zipIdx.all fun p => match N[nt + p.2]?, XN[p.1]? with | some x, some y => x == y && scope.names.lookup x == some .free | _, _ => false)
section
variable {X : Cx} {pos : Pos}
theorem pQ {elt iter tg : Expr} {ifs : List Expr} {scope : Scope} {f : iT} (sc : Scope) (XN N : List Str) (nt : Nat) (js : T0) {set : D → Env → Option Env} {g : TG} {tc : bZ} {te : aQ}
  (hc : X.calm = true) (hsc : X.env.scope = sc) (hXN : X.N = XN) (hi : SI X tg iter f) (ht : Tgt X.K set g) (hok : uF scope sc N XN nt js = true)
  (hb : ∀ cl s3 H3 fp, PG (blk X scope cl N s3 H3 fp) tg g ∧ PTs (blk X scope cl N s3 H3 fp) ifs (tvT X.K tc) ∧ SE (blk X scope cl N s3 H3 fp) elt te)
  (hs : ∀ x, foldedSetIterable iter X.env x = pure x := by intro _; rfl) : SE X (.ListComp elt [⟨tg, iter, ifs, 0⟩] scope pos) (cB f nt js set tc te) := by
 subst hsc; subst hXN
 unfold uF at hok
 simp only [Bool.and_eq_true, List.all_eq_true, Bool.or_eq_true, bne_iff_ne, beq_iff_eq, ne_eq] at hok
 obtain ⟨⟨⟨⟨⟨h1, h2⟩, h3⟩, h4⟩, h5⟩, h6⟩ := hok
 refine aGy hc hi ht h1 h2 (fun y hy e => (h3 y hy).resolve_left fun z => z e) (fun y hy e => (h4 y hy).resolve_left fun z => z e) h5 (fun k j e => ?_) hb hs
 have hm : (j, k) ∈ js.zipIdx := by
  rw [List.mem_iff_getElem?]
  exact ⟨k, by rw [List.getElem?_zipIdx, e]; simp⟩
 have := h6 (j, k) hm
 dsimp only at this
 split at this
 ·rename_i x y e1 e2
  rw [Bool.and_eq_true, beq_iff_eq, beq_iff_eq] at this
  exact ⟨x, e1, by rw [e2, this.1], this.2⟩
 ·cases this
theorem eA (i : Nat) {y : Str} {py spos : Pos} {W : XW} {elt iter tg : Expr} {ifs : List Expr} {scope : Scope} {f : iT} (nd : X.N.Nodup) (sc : Scope) (XN N : List Str) (nt : Nat) (js : T0) {set : D → Env → Option Env} {g : TG} {tc : bZ} {te : aQ}
  (hc : X.calm = true) (hsc : X.env.scope = sc) (hXN : X.N = XN) (hi : SI X tg iter f) (ht : Tgt X.K set g) (hok : uF scope sc N XN nt js = true)
  (hb : ∀ cl s3 H3 fp, PG (blk X scope cl N s3 H3 fp) tg g ∧ PTs (blk X scope cl N s3 H3 fp) ifs (tvT X.K tc) ∧ SE (blk X scope cl N s3 H3 fp) elt te)
  (hi0 : X.N[i]? = some y := by rfl) (hx : X.env.scope.names.lookup y = some .local := by rfl) (hsw : swapsWith (.ListComp elt [⟨tg, iter, ifs, 0⟩] scope pos) (some (.Name y py)) spos.line X.env = pure true := by rfl)
  (hs : ∀ x, foldedSetIterable iter X.env x = pure x := by intro _; rfl) : SS X W (.Assign [.Name y py] (.ListComp elt [⟨tg, iter, ifs, 0⟩] scope pos) spos) (aY i (xOf (cB f nt js set tc te))) := by
 subst hsc; subst hXN
 unfold uF at hok
 simp only [Bool.and_eq_true, List.all_eq_true, Bool.or_eq_true, bne_iff_ne, beq_iff_eq, ne_eq] at hok
 obtain ⟨⟨⟨⟨⟨h1, h2⟩, h3⟩, h4⟩, h5⟩, h6⟩ := hok
 refine (zG nd hi0 hx hsw hc hi h1 h2 (fun y hy e => (h3 y hy).resolve_left fun z => z e) (fun y hy e => (h4 y hy).resolve_left fun z => z e) h5 (fun k j e => ?_) hb hs).imp fun _ _ _ h => aBi ht (aIg (aEq h))
 have hm : (j, k) ∈ js.zipIdx := by
  rw [List.mem_iff_getElem?]
  exact ⟨k, by rw [List.getElem?_zipIdx, e]; simp⟩
 have := h6 (j, k) hm
 dsimp only at this
 split at this
 ·rename_i x y e1 e2
  rw [Bool.and_eq_true, beq_iff_eq, beq_iff_eq] at this
  exact ⟨x, e1, by rw [e2, this.1], this.2⟩
 ·cases this
end
end VL
end
section
namespace VL
open PySem PySem.Spec PyProof.Rows L2
section
variable {P : Program} {w : World} {K : FG} {mg : Y6} {h : Heap}
theorem aKa {x : Str} {st : Stmt} {N ps : List Str} {k n np : Nat} {body : aU} (F : FnAt K x st) (kb : K.In h) (nb : h.Ns mainGlobals mg) (S : FnScope N ps (aK st)) (hN : N.length = n) (hnp : ps.length = np) (hk : np ≤ n)
  (hb : ∀ (kV doc pm : Value) (an : Option Addr) (cdv ct : Value) (us : Y1), us.length = ps.length → bindArgs (PySem.W.fnOf x x (iI st) (fF st) (aK st) .none kV doc pm an cdv ct) ⟨us, []⟩ = pure (ps.zip us))
  (hbody : ∀ base : Heap, K.In base → base.Ns mainGlobals mg → ∀ (f : Addr) (cdv : Value) (A : Around) (outer : List PySem.Env) (s : Shared) (H : Hp) (E : XK), Room k (A.deeper (envOfC x (aK st) s.heap.objs.size f cdv)) →
   SSs (lK (CX1 P w) P w K mg base N x (aK st) f cdv A outer s H E) (wOf K E) (fF st) body) :
  ∃ (f : Addr) (fd : FuncData), mg x = some (.ref f) ∧ (∀ (s : Shared) (us : Y1), us.length = ps.length → BindsTo s fd ⟨us, []⟩ (ps.zip us)) ∧
   ∀ base : Heap, K.In base → base.Ns mainGlobals mg → FnOk P w K mg base (CX1 P w) (k + 1) f fd ps (spV K np (fnOf n body)) := by
 obtain ⟨f, fd, hf, F⟩ := F.ex
 obtain ⟨oc, od, kV, doc, pm, an, cdv, ct, osl, rfl, lk, hcd⟩ := F.ex
 refine ⟨f, _, PySem.W.mg_of kb nb hf, fun s us hl => .of_eq (hb kV doc pm an cdv ct us hl), fun base kb' nb' => ?_⟩
 refine aIx lk hcd S (fun vs H Q E h => h.1.trans hnp.symm) fun A outer s H vs Q E hr hsp => ?_
 exact ⟨_, hbody base kb' nb' f cdv A outer s H E hr, aIl hN hk hsp⟩
end
def aKz (o : Obj) : Bool := match o.data, o.cls with
 | .seq _ _, .type t => t == "list"
 | _, _ => false
def nE (K : FG) : Bool := K.all fun q => !aKz q.2
theorem aE2 : ∀ {K : FG} {a : Addr} {o : Obj}, K.lookup a = some o → (a, o) ∈ K
 | [], _, _, e => by cases e
 | (b, u) :: K, a, o, e => by
  rw [List.lookup_cons] at e
  cases q : a == b with
  | true =>
   rw [q] at e
   have hb : a = b := by simpa using q
   cases e; rw [hb]; exact List.mem_cons_self
  | false => rw [q] at e; exact List.mem_cons_of_mem _ (aE2 e)
theorem zC {K : FG} (h : nE K = true) {a : Addr} {o : Obj} (e : K.lookup a = some o) : aKz o = false := by
 unfold nE at h
 rw [List.all_eq_true] at h
 have := h (a, o) (aE2 e)
 simpa using this
theorem aOq {K : FG} (h : nE K = true) {H : Hp} {a : Addr} {xs : List V} (s : SqL K H a xs) : Rd H a (.lst xs) := by
 rcases s with s | ⟨o, its, n, e, c, d, e2, r⟩
 ·exact s
 ·have := zC h e
  unfold aKz at this
  rw [e2, c] at this
  have this : (("list" : String) == "list") = false := this
  simp at this
theorem nW {K : FG} {F H : Hp} : ∀ ns : Y0, aG K F H (ns.map D.int) (ns.map V.int) []
 | [] => ⟨rfl, rfl⟩
 | n :: ns => ⟨.int n, ns.map V.int, [], [], rfl, ⟨rfl, rfl⟩, nW ns, rfl⟩
theorem aF2 {K : FG} (hn : nE K = true) {fn : Fn} {ns : Y0} (hf : ∃ os, fn [.lst false (ns.map D.int)] = .ok (.bl true, os)) {H : Hp} {a : Addr} (s : SqL K H a (ns.map V.int)) : spV K 1 fn [.ref a] H (fun v _ => v = .bl true) fun _ _ _ => False := by
 obtain ⟨os, hf⟩ := hf
 refine ⟨rfl, H, [.lst false (ns.map D.int)], [[]], aW.refl _, ⟨rfl, rfl, fun i d e => ?_⟩, by simp, by simp, ?_⟩
 ·cases i with
  | zero =>
   have e : D.lst false (ns.map D.int) = d := by simpa using e
   subst e
   refine ⟨.ref a, [], rfl, rfl, ?_⟩
   unfold Own
   exact ⟨a, ns.map V.int, [], rfl, nW ns, .inr ⟨rfl, aOq hn s, rfl, rfl⟩⟩
  | succ i => simp at e
 ·rw [hf]
  intro r F' H' fps' fr _ _ _ _ o _ _
  unfold Own at o
  exact o.1
theorem aEj {P : Program} {w : World} {H : Hp} {s : Shared} {e : Value} {s' : Shared} (h : CX1 P w [] H s (fun _ _ _ => False) e s') : False := by
 obtain ⟨_, _, _, _, _, _, _, _, _, _, _, _, _, z⟩ := h
 exact z
end VL
end
section
namespace VL
open PySem PySem.Spec PyProof.Rows L2
section
variable {X : Cx} {W : XW} {e a b : Expr} {es : List Expr} {pos : Pos}
theorem aGv {CX : CXT} {k : Nat} {f : Addr} {fd : FuncData} {ps : List Str} {sp : Sp} {dvs : List V} {ds : Y1} {E : XK} {pins : Y8} {σ : L2.St} {H : Hp} {s : Shared} {Q : VK} {us : Y1} {vs : List V} (F : FnOk X.prog X.w X.K X.mg X.base CX k f fd ps sp) (hr : Room k X.A) (hb : Binds X.K fd ps ds) (hd : Vals dvs ds)
  (hx : ∀ e s', CX X.stack H s E e s' → X.xe e s') (I : L2.Inv X pins σ H s) (r : Vals vs us) (h : sp (vs ++ dvs) H Q E) : wpAny (model X.prog X.w) X.A (call (.ref f) us) (EP X pins σ Q) X.xe s := by
 have r2 : Vals (vs ++ dvs) (us ++ ds) := r.append hd
 have hl : (us ++ ds).length = ps.length := by rw [← r2.length]; exact F.len _ _ _ _ h
 refine wpAny_call (codeAny_mono (F.run X.A X.stack s H ⟨us, []⟩ (us ++ ds) (vs ++ dvs) Q E hr I.aO1 (hb s us I.kIn hl) r2 h) fun r s' hq => ?_)
 cases r with
 | error e => exact hx e s' hq
 | ok fl =>
  cases fl with
  | ret u => exact I.after hq
  | next => exact False.elim hq
  | brk => exact False.elim hq
  | cont => exact False.elim hq
theorem aDs {k n : Nat} {x : Str} {fn : Fn} {ta : TA} {p : Pos} (L : Lk X W) (F : Kn X.prog X.w X.K X.mg X.base k x n fn) (hr : Room k X.A) (ha : PA X (e :: es) ta) (hg : Gl X x := by rfl) (hdb : (x == ("__debug__" : Str)) = false := by decide)
  (he : starEach (e :: es) X.env = (false, eval e X.env) :: starEach es X.env := by rfl) (hpl : (backTo pos (starEach es X.env)).any (·.1) = false := by rfl) : PE X (.Call (.Name x p) (e :: es) [] pos) (aEt (spV X.K n fn) (wE X.K W) ta) := by
 obtain ⟨f, fd, ps, F, hm, hk, hb⟩ := F.ex
 intro pins s σ H Q I h
 refine wpAny_Call_Name_kw (pJ I hg hm ?_ hdb)
 refine PySem.W.callWith_K (h₀ := X.base) I.ok.mod.kin hk (thn (ha pos pins s σ H _ I h) fun us s1 ⟨vs, H1, I1, r, q⟩ => ⟨I1.kIn, ?_⟩) he hpl
 exact aGv F hr hb .nil (fun e s' hq => L.call pins σ H1 s1 e s' I1 hq) I1 r q
theorem eE {k n : Nat} {x : Str} {fn : Fn} {g : dC} {p : Pos} (L : Lk X W) (F : Kn X.prog X.w X.K X.mg X.base k x n fn) (hr : Room k X.A) (ha : SA X (e :: es) g) (hl : sI n g) (hg : Gl X x := by rfl) (hdb : (x == ("__debug__" : Str)) = false := by decide)
  (he : starEach (e :: es) X.env = (false, eval e X.env) :: starEach es X.env := by rfl) (hpl : (backTo pos (starEach es X.env)).any (·.1) = false := by rfl) : SX X W (.Call (.Name x p) (e :: es) [] pos) (dS fn g) :=
 (aDs L F hr ha hg hdb he hpl).imp fun _ _ _ h => aH6 hl h
end
section
variable {K : FG} {W : XW} {F H : Hp} {σ : L2.St} {ρ : Env} {D' : Ends}
end
section
variable {X : Cx} {W : XW} {e a : Expr} {es : List Expr} {pos : Pos}
end
end VL
end
section
namespace VL
open PySem PySem.Spec PyProof.Rows L2 PySem.W PySem.Calls PySem.Builtin.ObjectAttr PySem.Builtin PySem.Builtin.Getset_descriptor
section
variable {prog : Program} {w : World} {A : Around} {E : Y9} {s : Shared} {K : FG} {x C : Addr} {name : Str}
structure ExcF (K : FG) (C : Addr) : Prop where
 cls : (clsIn K C).isSome = true
 ga : findIn K (.ref C) "__getattribute__" = some (some (.builtin "BaseException.__getattribute__"))
 gn : findIn K (.ref C) "__getattr__" = some none
 fi : findIn K (.ref C) "__class__" = some (some (.builtin "object.__class__"))
 sp : specialIn K (.builtin "object.__class__") "__get__" = some (some (.builtin "getset_descriptor.__get__"))
 tk : takesIn K (.builtin "object.__class__") = some true
 mro : mroIn K C (.type "object") = some true
 mrb : mroIn K C (.type "BaseException") = some true
end
section
variable {X : Cx}
end
end VL
end
section
namespace VL
open PySem PySem.Spec PyProof.Rows L2 PySem.SeqAt
section
variable {X : Cx}
variable {o e : Expr} {ap cp : Pos}
end
end VL
end
section
namespace ST
open PySem PySem.SetTable
def adv (mask : Nat) (p : Probe) : Probe :=
 if p.more > 0 then { p with j := p.j + 1, more := p.more - 1 } else
 { p with j := (leap mask p.i p.perturb).1, more := runEnd mask (leap mask p.i p.perturb).1 - (leap mask p.i p.perturb).1, i := (leap mask p.i p.perturb).1, perturb := (leap mask p.i p.perturb).2 }
def start (mask i u : Nat) : Probe := { j := i, more := runEnd mask i - i, i, perturb := u, dummy := none }
def pos (mask : Nat) (h : Int) : Nat → Probe
 | 0 => start mask (bits h % (mask + 1)) (bits h)
 | k + 1 => adv mask (pos mask h k)
theorem sR (mask : Nat) (h : Int) : ∀ k, (pos mask h k).dummy = none
 | 0 => rfl
 | k + 1 => by
  show (adv mask (pos mask h k)).dummy = none
  unfold adv
  split <;> exact sR mask h k
def iter {α : Type} (f : α → α) : Nat → α → α
 | 0, x => x
 | n + 1, x => iter f n (f x)
theorem kM {α : Type} (f : α → α) : ∀ (n m : Nat) (x : α), iter f (n + m) x = iter f m (iter f n x)
 | 0, m, x => by rw [Nat.zero_add]; rfl
 | n + 1, m, x => by rw [Nat.succ_add]; exact kM f n m (f x)
theorem lI {α : Type} (f : α → α) (n : Nat) (x : α) : iter f (n + 1) x = f (iter f n x) := kM f n 1 x
theorem xO (mask : Nat) (h : Int) : ∀ k, pos mask h k = iter (adv mask) k (pos mask h 0)
 | 0 => rfl
 | k + 1 => by rw [lI, ← xO mask h k]; rfl
theorem xN {mask : Nat} : ∀ (m : Nat) (p : Probe), p.more = m → iter (adv mask) (m + 1) p = { p with j := (leap mask p.i p.perturb).1, more := runEnd mask (leap mask p.i p.perturb).1 - (leap mask p.i p.perturb).1, i := (leap mask p.i p.perturb).1, perturb := (leap mask p.i p.perturb).2 }
 | 0, p, e => by
  show adv mask p = _
  unfold adv
  rw [if_neg (by omega)]
 | m + 1, p, e => by
  have e1 : adv mask p = { p with j := p.j + 1, more := p.more - 1 } := by unfold adv; rw [if_pos (by omega)]
  show iter (adv mask) (m + 1) (adv mask p) = _
  rw [e1, xN m _ (by show p.more - 1 = m; omega)]
theorem turn {mask i u : Nat} : ∃ m, m ≤ 10 ∧ iter (adv mask) m (start mask i u) = start mask (leap mask i u).1 (leap mask i u).2 := by
 refine ⟨runEnd mask i - i + 1, ?_, ?_⟩
 ·unfold runEnd; split <;> omega
 ·exact xN (runEnd mask i - i) (start mask i u) rfl
def lp (mask : Nat) (x : Nat × Nat) : Nat × Nat := leap mask x.1 x.2
theorem wH {mask i u : Nat} : ∀ T, ∃ m, m ≤ 10 * T ∧ iter (adv mask) m (start mask i u) = start mask (iter (lp mask) T (i, u)).1 (iter (lp mask) T (i, u)).2
 | 0 => ⟨0, by omega, rfl⟩
 | T + 1 => by
  obtain ⟨m, hm, e⟩ := wH (mask := mask) (i := i) (u := u) T
  obtain ⟨m', hm', e'⟩ := turn (mask := mask) (i := (iter (lp mask) T (i, u)).1) (u := (iter (lp mask) T (i, u)).2)
  refine ⟨m + m', by omega, ?_⟩
  rw [kM, e, e', lI]; rfl
theorem aL8 {mask : Nat} : ∀ (T : Nat) (x : Nat × Nat), (iter (lp mask) T x).2 = x.2 / 32 ^ T
 | 0, x => by simp [iter]
 | T + 1, x => by
  rw [lI]
  show (iter (lp mask) T x).2 / 32 = _
  rw [aL8 T x, Nat.div_div_eq_div_mul, Nat.pow_succ]
def lc (mask x : Nat) : Nat := (x * 5 + 1) % (mask + 1)
theorem lX {mask : Nat} : ∀ (m x : Nat), iter (lp mask) m (x, 0) = (iter (lc mask) m x, 0)
 | 0, x => rfl
 | m + 1, x => by
  show iter (lp mask) m (lp mask (x, 0)) = _
  have : lp mask (x, 0) = (lc mask x, 0) := by simp [lp, leap, lc]
  rw [this, lX m]; rfl
theorem aAw (h : Int) : bits h < 2 ^ 64 := by unfold bits; omega
def hX (mask : Nat) : Prop := ∀ x, x ≤ mask → ∀ j, j ≤ mask → ∃ m, m ≤ mask ∧ iter (lc mask) m x = j
theorem aAp : hX 7 := by
 have : ∀ x : Fin 8, ∀ j : Fin 8, ∃ m : Fin 8, iter (lc 7) m.1 x.1 = j.1 := by decide +kernel
 intro x hx j hj
 obtain ⟨m, e⟩ := this ⟨x, by omega⟩ ⟨j, by omega⟩
 exact ⟨m.1, by have := m.2; omega, e⟩
theorem rC : hX 31 := by
 have : ∀ x : Fin 32, ∀ j : Fin 32, ∃ m : Fin 32, iter (lc 31) m.1 x.1 = j.1 := by decide +kernel
 intro x hx j hj
 obtain ⟨m, e⟩ := this ⟨x, by omega⟩ ⟨j, by omega⟩
 exact ⟨m.1, by have := m.2; omega, e⟩
theorem aI9 {mask : Nat} : ∀ (T : Nat) (x : Nat × Nat), x.1 ≤ mask → (iter (lp mask) T x).1 ≤ mask
 | 0, x, h => h
 | T + 1, x, h => by
  rw [lI]
  show (_ % (mask + 1)) ≤ mask
  have := Nat.mod_lt ((iter (lp mask) T x).1 * 5 + 1 + (iter (lp mask) T x).2 / 32) (show mask + 1 > 0 by omega)
  omega
theorem met {mask : Nat} (hc : hX mask) (h : Int) {j : Nat} (hj : j ≤ mask) : ∃ k, k ≤ 10 * (13 + mask) ∧ (pos mask h k).j = j := by
 have h0 : (bits h % (mask + 1), bits h).1 ≤ mask := by
  have := Nat.mod_lt (bits h) (show mask + 1 > 0 by omega)
  show bits h % (mask + 1) ≤ mask; omega
 have e13 : iter (lp mask) 13 (bits h % (mask + 1), bits h) = ((iter (lp mask) 13 (bits h % (mask + 1), bits h)).1, 0) := by
  refine Prod.ext rfl ?_
  rw [aL8]
  exact Nat.div_eq_of_lt (Nat.lt_of_lt_of_le (aAw h) (by decide))
 obtain ⟨m, hm, e⟩ := hc _ (aI9 13 _ h0) j hj
 obtain ⟨k, hk, ek⟩ := wH (mask := mask) (i := bits h % (mask + 1)) (u := bits h) (13 + m)
 refine ⟨k, by omega, ?_⟩
 rw [xO]
 show (iter (adv mask) k (start mask (bits h % (mask + 1)) (bits h))).j = j
 rw [ek, kM, e13, lX]
 exact e
theorem aKi {mask : Nat} (h : Int) : ∀ k, (pos mask h k).j + (pos mask h k).more ≤ mask ∧ (pos mask h k).i ≤ mask := by
 have hs : ∀ i u, i ≤ mask → (start mask i u).j + (start mask i u).more ≤ mask := fun i u hi => by
  show i + (runEnd mask i - i) ≤ mask
  unfold runEnd; split <;> omega
 intro k
 induction k with
 | zero =>
  have : bits h % (mask + 1) ≤ mask := by have := Nat.mod_lt (bits h) (show mask + 1 > 0 by omega); omega
  exact ⟨hs _ _ this, this⟩
 | succ k ih =>
  show (adv mask (pos mask h k)).j + (adv mask (pos mask h k)).more ≤ mask ∧ (adv mask (pos mask h k)).i ≤ mask
  unfold adv
  split
  ·exact ⟨by show (pos mask h k).j + 1 + ((pos mask h k).more - 1) ≤ mask; omega, ih.2⟩
  ·have : (leap mask (pos mask h k).i (pos mask h k).perturb).1 ≤ mask := by
    show (_ % (mask + 1)) ≤ mask
    have := Nat.mod_lt ((pos mask h k).i * 5 + 1 + (pos mask h k).perturb / 32) (show mask + 1 > 0 by omega)
    omega
   exact ⟨hs _ 0 this, this⟩
end ST
end
section
namespace ST
open PySem PySem.SetTable
def oK (xs : Array Nat) : Prop := ∀ (i k a b : Nat), xs[i]? = some a → xs[k]? = some b → i < k → a < b
theorem uJ {xs : Array Nat} {j : Nat} (hr : oK xs) : ∀ (fuel lo hi : Nat), lo ≤ hi → hi ≤ xs.size → hi - lo ≤ fuel → (∀ (i v : Nat), xs[i]? = some v → i < lo → v < j) → (∀ (i v : Nat), xs[i]? = some v → hi ≤ i → j ≤ v) →
  below.go xs j fuel lo hi ≤ xs.size ∧ (∀ (i v : Nat), xs[i]? = some v → i < below.go xs j fuel lo hi → v < j) ∧ ∀ (i v : Nat), xs[i]? = some v → below.go xs j fuel lo hi ≤ i → j ≤ v
 | 0, lo, hi, h1, h2, h3, h4, h5 => by
  have e : lo = hi := by omega
  subst e
  exact ⟨h2, h4, h5⟩
 | fuel + 1, lo, hi, h1, h2, h3, h4, h5 => by
  unfold below.go
  by_cases hl : lo < hi
  ·rw [if_pos hl]
   dsimp only
   have hm : (lo + hi) / 2 < xs.size := by omega
   have em : xs[(lo + hi) / 2]? = some xs[(lo + hi) / 2] := Array.getElem?_eq_getElem hm
   have eg : xs.getD ((lo + hi) / 2) j = xs[(lo + hi) / 2] := by simp [Array.getD, hm]
   rw [eg]
   by_cases hv : xs[(lo + hi) / 2] < j
   ·rw [if_pos hv]
    refine uJ hr fuel _ hi (by omega) h2 (by omega) (fun i v e hi' => ?_) h5
    by_cases hq : i = (lo + hi) / 2
    ·subst hq; rw [em] at e; cases e; exact hv
    ·have := hr i _ v _ e em (by omega); omega
   ·rw [if_neg hv]
    refine uJ hr fuel lo _ (by omega) (by omega) (by omega) h4 (fun i v e hi' => ?_)
    by_cases hq : i = (lo + hi) / 2
    ·subst hq; rw [em] at e; cases e; omega
    ·have := hr _ i _ v em e (by omega); omega
  ·rw [if_neg hl]
   have e : lo = hi := by omega
   subst e
   exact ⟨h2, h4, h5⟩
theorem eQ {xs : Array Nat} (hr : oK xs) (j : Nat) : below xs j ≤ xs.size ∧ (∀ (i v : Nat), xs[i]? = some v → i < below xs j → v < j) ∧ ∀ (i v : Nat), xs[i]? = some v → below xs j ≤ i → j ≤ v :=
 uJ hr xs.size 0 xs.size (Nat.zero_le _) (Nat.le_refl _) (by omega) (fun _ _ _ h => by omega) fun i v e h => by
  have := (Array.getElem?_eq_some_iff.mp e).1; omega
theorem below_at {xs : Array Nat} (hr : oK xs) {i j : Nat} (e : xs[i]? = some j) : below xs j = i := by
 obtain ⟨_, h2, h3⟩ := eQ hr j
 rcases Nat.lt_trichotomy i (below xs j) with q | q | q
 ·have := h2 i j e q; omega
 ·exact q.symm
 ·have hs := (Array.getElem?_eq_some_iff.mp e).1
  have eb : xs[below xs j]? = some (xs[below xs j]'(by omega)) := Array.getElem?_eq_getElem (by omega)
  have a1 := h3 _ _ eb (Nat.le_refl _)
  have a2 := hr _ _ _ _ eb e q
  omega
theorem lG {t : SetTable} (hr : oK t.place) {i j : Nat} (e : t.place[i]? = some j) : t.slot j = .live i := by
 unfold SetTable.slot
 dsimp only
 rw [below_at hr e, e]; simp
theorem qQ {t : SetTable} (hd : t.dummies = #[]) {j : Nat} (hn : ∀ i : Nat, t.place[i]? ≠ some j) : t.slot j = .empty := by
 unfold SetTable.slot
 dsimp only
 rw [if_neg (by simpa using hn _), hd]
 rfl
theorem gF {α : Type} {xs : Array α} {p : Nat} {x : α} (hp : p ≤ xs.size) (i : Nat) : (insertAt xs p x)[i]? = if i < p then xs[i]? else if i = p then some x else xs[i - 1]? := by
 have e : (insertAt xs p x).toList = xs.toList.take p ++ x :: xs.toList.drop p := by
  simp [insertAt, List.take_of_length_le]
 rw [← Array.getElem?_toList, e]
 have hl : (xs.toList.take p).length = p := by simp; omega
 by_cases h1 : i < p
 ·rw [if_pos h1, List.getElem?_append_left (by omega), List.getElem?_take, if_pos h1, Array.getElem?_toList]
 ·rw [if_neg h1, List.getElem?_append_right (by omega), hl]
  by_cases h2 : i = p
  ·rw [if_pos h2, h2, Nat.sub_self]; rfl
  ·rw [if_neg h2]
   obtain ⟨k, rfl⟩ : ∃ k, i = p + 1 + k := ⟨i - p - 1, by omega⟩
   rw [show p + 1 + k - p = k + 1 by omega, List.getElem?_cons_succ, List.getElem?_drop, Array.getElem?_toList]
   congr 1; omega
theorem nF {α : Type} {xs : Array α} {p : Nat} {x : α} (hp : p ≤ xs.size) : (insertAt xs p x).size = xs.size + 1 := by
 simp [insertAt]; omega
theorem aEp {xs : Array Nat} (hr : oK xs) {j : Nat} (hn : ∀ i : Nat, xs[i]? ≠ some j) : oK (insertAt xs (below xs j) j) := by
 obtain ⟨h1, h2, h3⟩ := eQ hr j
 intro i k a b ea eb hik
 rw [gF h1] at ea eb
 have ne : ∀ (i v : Nat), xs[i]? = some v → v ≠ j := fun i v e z => hn i (z ▸ e)
 split at ea
 ·split at eb
  ·exact hr _ _ _ _ ea eb hik
  ·split at eb
   ·cases eb; exact h2 _ _ ea (by omega)
   ·exact hr _ _ _ _ ea eb (by omega)
 ·split at ea
  ·cases ea
   split at eb
   ·omega
   ·split at eb
    ·omega
    ·have a1 := h3 _ _ eb (by omega); have a2 := ne _ _ eb; omega
  ·split at eb
   ·omega
   ·split at eb
    ·omega
    ·exact hr _ _ _ _ ea eb (by omega)
theorem aFw {α : Type} {xs : Array α} {p : Nat} {x : α} (hp : p ≤ xs.size) {y : α} : (∃ i : Nat, (insertAt xs p x)[i]? = some y) ↔ y = x ∨ ∃ i : Nat, xs[i]? = some y := by
 constructor
 ·rintro ⟨i, e⟩
  rw [gF hp] at e
  split at e
  ·exact .inr ⟨_, e⟩
  ·split at e
   ·cases e; exact .inl rfl
   ·exact .inr ⟨_, e⟩
 ·rintro (rfl | ⟨i, e⟩)
  ·exact ⟨p, by rw [gF hp, if_neg (by omega), if_pos rfl]⟩
  ·by_cases h : i < p
   ·exact ⟨i, by rw [gF hp, if_pos h]; exact e⟩
   ·exact ⟨i + 1, by rw [gF hp, if_neg (by omega), if_neg (by omega)]; exact e⟩
theorem qS {t : SetTable} {f : Nat → Int} {h : Int} : ∀ (d m fuel : Nat), d < fuel → (∀ k, m ≤ k → k < m + d → ∃ i, t.slot (pos t.mask h k).j = .live i ∧ (f i == h) = false) →
  probe.go t f h fuel (pos t.mask h m) = probe.go t f h (fuel - d) (pos t.mask h (m + d))
 | 0, m, fuel, _, _ => rfl
 | d + 1, m, 0, hf, _ => by omega
 | d + 1, m, fuel + 1, hf, hk => by
  obtain ⟨i, e1, e2⟩ := hk m (Nat.le_refl _) (by omega)
  have := qS d (m + 1) fuel (by omega) fun k h1 h2 => hk k (by omega) (by omega)
  have e : probe.go t f h (fuel + 1) (pos t.mask h m) = probe.go t f h fuel (pos t.mask h (m + 1)) := by
   show (match t.slot (pos t.mask h m).j with | .empty => some (Met.empty (pos t.mask h m).j (pos t.mask h m).dummy) | .dummy => probe.go t f h fuel (t.advance { pos t.mask h m with dummy := some (pos t.mask h m).j }) | .live i => if f i == h then some (.candidate (pos t.mask h m).j i (t.advance (pos t.mask h m))) else probe.go t f h fuel (t.advance (pos t.mask h m))) = _
   rw [e1]
   dsimp only
   rw [e2, if_neg (by simp)]; rfl
  rw [e, this, show fuel + 1 - (d + 1) = fuel - d by omega, show m + 1 + d = m + (d + 1) by omega]
theorem xT {t : SetTable} {f : Nat → Int} {h : Int} {m fuel : Nat} (hf : 0 < fuel) (e : t.slot (pos t.mask h m).j = .empty) : probe.go t f h fuel (pos t.mask h m) = some (.empty (pos t.mask h m).j none) := by
 obtain ⟨n, rfl⟩ : ∃ n, fuel = n + 1 := ⟨fuel - 1, by omega⟩
 show (match t.slot (pos t.mask h m).j with | .empty => some (Met.empty (pos t.mask h m).j (pos t.mask h m).dummy) | .dummy => probe.go t f h n (t.advance { pos t.mask h m with dummy := some (pos t.mask h m).j }) | .live i => if f i == h then some (.candidate (pos t.mask h m).j i (t.advance (pos t.mask h m))) else probe.go t f h n (t.advance (pos t.mask h m))) = _
 rw [e]
 dsimp only
 rw [sR]
theorem aGw {t : SetTable} {f : Nat → Int} {h : Int} {m fuel i : Nat} (hf : 0 < fuel) (e : t.slot (pos t.mask h m).j = .live i) (eh : (f i == h) = true) : probe.go t f h fuel (pos t.mask h m) = some (.candidate (pos t.mask h m).j i (pos t.mask h (m + 1))) := by
 obtain ⟨n, rfl⟩ : ∃ n, fuel = n + 1 := ⟨fuel - 1, by omega⟩
 show (match t.slot (pos t.mask h m).j with | .empty => some (Met.empty (pos t.mask h m).j (pos t.mask h m).dummy) | .dummy => probe.go t f h n (t.advance { pos t.mask h m with dummy := some (pos t.mask h m).j }) | .live i => if f i == h then some (.candidate (pos t.mask h m).j i (t.advance (pos t.mask h m))) else probe.go t f h n (t.advance (pos t.mask h m))) = _
 rw [e]
 dsimp only
 rw [eh, if_pos rfl]; rfl
end ST
end
section
namespace ST
open PySem PySem.SetTable
def Occ (xs : Array Nat) (j : Nat) : Prop := ∃ i : Nat, xs[i]? = some j
def Reach (mask : Nat) (xs : Array Nat) (h : Int) (j : Nat) : Prop := ∃ k, (pos mask h k).j = j ∧ ∀ k', k' < k → Occ xs (pos mask h k').j
structure TOk (es : Y3) (t : SetTable) : Prop where
 cov : hX t.mask
 rise : oK t.place
 dum : t.dummies = #[]
 size : t.place.size = es.size
 fill : es.size ≤ t.mask
 reach : ∀ (i : Nat) (e : Int × Value) (j : Nat), es[i]? = some e → t.place[i]? = some j → Reach t.mask t.place e.1 j
theorem exists_first {P : Nat → Prop} : ∀ (N : Nat), P N → ∃ K, K ≤ N ∧ P K ∧ ∀ k, k < K → ¬ P k := by
 intro N
 induction N using Nat.strongRecOn with
 | _ N ih =>
  intro h
  by_cases q : ∃ k, k < N ∧ P k
  ·obtain ⟨k, hk, hp⟩ := q
   obtain ⟨K, h1, h2, h3⟩ := ih k hk hp
   exact ⟨K, by omega, h2, h3⟩
  ·exact ⟨N, Nat.le_refl _, h, fun k hk hp => q ⟨k, hk, hp⟩⟩
theorem aDt {xs : Array Nat} (hr : oK xs) : ∀ (j : Nat), (∀ k, k ≤ j → Occ xs k) → ∃ i, j ≤ i ∧ xs[i]? = some j
 | 0, h => by obtain ⟨i, e⟩ := h 0 (Nat.le_refl _); exact ⟨i, Nat.zero_le _, e⟩
 | j + 1, h => by
  obtain ⟨i, hi, e⟩ := aDt hr j fun k hk => h k (by omega)
  obtain ⟨i', e'⟩ := h (j + 1) (Nat.le_refl _)
  have : i < i' := by
   rcases Nat.lt_trichotomy i i' with q | q | q
   ·exact q
   ·subst q; rw [e] at e'; cases e'
   ·have := hr _ _ _ _ e' e q; omega
  exact ⟨i', by omega, e'⟩
theorem zL {mask : Nat} {xs : Array Nat} (hc : hX mask) (hr : oK xs) (hs : xs.size ≤ mask) (h : Int) : ∃ K, K ≤ 10 * (13 + mask) ∧ ¬ Occ xs (pos mask h K).j ∧ ∀ k, k < K → Occ xs (pos mask h k).j := by
 have : ∃ j, j ≤ mask ∧ ¬ Occ xs j := by
  refine Classical.byContradiction fun q => ?_
  obtain ⟨i, hi, e⟩ := aDt hr mask fun k hk => Classical.byContradiction fun z => q ⟨k, hk, z⟩
  have := (Array.getElem?_eq_some_iff.mp e).1
  omega
 obtain ⟨j, hj, hn⟩ := this
 obtain ⟨k, hk, e⟩ := met hc h hj
 obtain ⟨K, h1, h2, h3⟩ := exists_first (P := fun k => ¬ Occ xs (pos mask h k).j) k (by rw [e]; exact hn)
 exact ⟨K, by omega, h2, fun k hk => Classical.byContradiction (h3 k hk)⟩
theorem TOk.free {es : Y3} {t : SetTable} (o : TOk es t) (h : Int) : ∃ K, K ≤ 10 * (13 + t.mask) ∧ ¬ Occ t.place (pos t.mask h K).j ∧ ∀ k, k < K → Occ t.place (pos t.mask h k).j :=
 zL o.cov o.rise (by rw [o.size]; exact o.fill) h
theorem Reach.mono {mask : Nat} {xs ys : Array Nat} {h : Int} {j : Nat} (r : Reach mask xs h j) (hs : ∀ j, Occ xs j → Occ ys j) : Reach mask ys h j := by
 obtain ⟨k, e, q⟩ := r
 exact ⟨k, e, fun k' hk => hs _ (q k' hk)⟩
theorem TOk.put {es : Y3} {t : SetTable} (o : TOk es t) {h : Int} {x : Value} {K : Nat} (hn : ¬ Occ t.place (pos t.mask h K).j) (hk : ∀ k, k < K → Occ t.place (pos t.mask h k).j) (hf : es.size + 1 ≤ t.mask) :
  TOk (insertAt es (t.put (pos t.mask h K).j).2 (h, x)) (t.put (pos t.mask h K).j).1 ∧ (t.put (pos t.mask h K).j).2 ≤ es.size := by
 obtain ⟨b1, b2, b3⟩ := eQ o.rise (pos t.mask h K).j
 have hp : below t.place (pos t.mask h K).j ≤ es.size := by rw [← o.size]; exact b1
 have sub : ∀ j, Occ t.place j → Occ (insertAt t.place (below t.place (pos t.mask h K).j) (pos t.mask h K).j) j := fun j hj => (aFw b1).mpr (.inr hj)
 refine ⟨⟨o.cov, aEp o.rise fun i e => hn ⟨i, e⟩, ?_, ?_, ?_, ?_⟩, hp⟩
 ·show (if has t.dummies (pos t.mask h K).j then eraseAt t.dummies (below t.dummies (pos t.mask h K).j) else t.dummies) = #[]
  rw [o.dum]; rfl
 ·show (insertAt t.place (below t.place (pos t.mask h K).j) (pos t.mask h K).j).size = (insertAt es (below t.place (pos t.mask h K).j) (h, x)).size
  rw [nF b1, nF hp, o.size]
 ·show (insertAt es (below t.place (pos t.mask h K).j) (h, x)).size ≤ t.mask
  rw [nF hp]; exact hf
 ·intro i e j e1 e2
  have e1 : (insertAt es (below t.place (pos t.mask h K).j) (h, x))[i]? = some e := e1
  have e2 : (insertAt t.place (below t.place (pos t.mask h K).j) (pos t.mask h K).j)[i]? = some j := e2
  rw [gF hp] at e1
  rw [gF b1] at e2
  show Reach t.mask (insertAt t.place (below t.place (pos t.mask h K).j) (pos t.mask h K).j) e.1 j
  by_cases q1 : i < below t.place (pos t.mask h K).j
  ·rw [if_pos q1] at e1 e2
   exact (o.reach i e j e1 e2).mono sub
  ·rw [if_neg q1] at e1 e2
   by_cases q2 : i = below t.place (pos t.mask h K).j
   ·rw [if_pos q2] at e1 e2
    cases e1; cases e2
    exact ⟨K, rfl, fun k' hk' => sub _ (hk k' hk')⟩
   ·rw [if_neg q2] at e1 e2
    exact (o.reach (i - 1) e j e1 e2).mono sub
def At (owner : Array (Option Nat)) (j k : Nat) : Prop := owner[j]? = some (some k)
structure Lay (mask : Nat) (hs : Y0) (owner : Array (Option Nat)) (n : Nat) : Prop where
 size : owner.size = mask + 1
 all : ∀ k, k < n → ∃ j, At owner j k
 one : ∀ j j' k, At owner j k → At owner j' k → j = j'
 lt : ∀ j k, At owner j k → k < n
 reach : ∀ j k h, At owner j k → hs[k]? = some h → ∃ q, (pos mask h q).j = j ∧ ∀ q', q' < q → ∃ k', At owner (pos mask h q').j k'
theorem pH {mask : Nat} {h : Int} {b i u : Nat} (e : pos mask h b = start mask i u) : ∀ k, k ≤ runEnd mask i - i → pos mask h (b + k) = { start mask i u with j := i + k, more := runEnd mask i - i - k }
 | 0, _ => by rw [Nat.add_zero, e]; rfl
 | k + 1, hk => by
  have ih := pH e k (by omega)
  show adv mask (pos mask h (b + k)) = _
  rw [ih]
  unfold adv
  rw [if_pos (by show runEnd mask i - i - k > 0; omega)]
  show ({ j := i + k + 1, more := runEnd mask i - i - k - 1, i := i, perturb := u, dummy := none } : Probe) = { j := i + (k + 1), more := runEnd mask i - i - (k + 1), i := i, perturb := u, dummy := none }
  congr 1
theorem aB3 {mask : Nat} {h : Int} {b i u : Nat} (e : pos mask h b = start mask i u) : pos mask h (b + (runEnd mask i - i + 1)) = start mask (leap mask i u).1 (leap mask i u).2 := by
 have := pH e (runEnd mask i - i) (Nat.le_refl _)
 show adv mask (pos mask h (b + (runEnd mask i - i))) = _
 rw [this]
 unfold adv
 rw [if_neg (by show ¬ (runEnd mask i - i - (runEnd mask i - i) > 0); omega)]
 rfl
theorem sP {mask : Nat} {h : Int} {owner : Array (Option Nat)} (hsz : owner.size = mask + 1) : ∀ (fuel b i u : Nat), i ≤ mask → pos mask h b = start mask i u → (∀ q, q < b → ∃ k, At owner (pos mask h q).j k) →
  (∃ T, T < fuel ∧ ¬ ∃ k, At owner (iter (lp mask) T (i, u)).1 k) → ∃ K, layClean.free mask owner fuel i u = some (pos mask h K).j ∧ (¬ ∃ k, At owner (pos mask h K).j k) ∧ ∀ q, q < K → ∃ k, At owner (pos mask h q).j k
 | 0, b, i, u, _, _, _, ⟨T, hT, _⟩ => by omega
 | fuel + 1, b, i, u, hi, e, hb, ⟨T, hT, hn⟩ => by
  have non : ∀ j, j ≤ mask → ((owner.getD j (some 0)).isNone = true ↔ ¬ ∃ k, At owner j k) := fun j hj => by
   have hlt : j < owner.size := by omega
   have eg : owner.getD j (some 0) = owner[j] := by simp [Array.getD, hlt]
   rw [eg]
   constructor
   ·rintro h1 ⟨k, h2⟩
    unfold At at h2
    rw [Array.getElem?_eq_getElem hlt] at h2
    rw [Option.some.inj h2] at h1; cases h1
   ·intro h1
    cases hq : owner[j] with
    | none => rfl
    | some k => exact absurd ⟨k, by unfold At; rw [Array.getElem?_eq_getElem hlt, hq]⟩ h1
  have re : i ≤ runEnd mask i ∧ runEnd mask i ≤ mask := by unfold runEnd; split <;> omega
  unfold layClean.free
  cases hf : (List.range (runEnd mask i + 1 - i)).find? fun k => (owner.getD (i + k) (some 0)).isNone with
  | some k =>
   obtain ⟨h1, h2, h3⟩ := List.find?_range_eq_some.mp hf
   have h2 := List.mem_range.mp h2
   have ej : ∀ q, q ≤ k → (pos mask h (b + q)).j = i + q := fun q hq => by rw [pH e q (by omega)]
   refine ⟨b + k, ?_, ?_, fun q hq => ?_⟩
   ·dsimp only; rw [ej k (Nat.le_refl _)]
   ·rw [ej k (Nat.le_refl _)]; exact (non _ (by omega)).mp h1
   ·by_cases hqb : q < b
    ·exact hb q hqb
    ·obtain ⟨d, rfl⟩ : ∃ d, q = b + d := ⟨q - b, by omega⟩
     rw [ej d (by omega)]
     refine Classical.byContradiction fun z => ?_
     have := (non (i + d) (by omega)).mpr z
     have h4 := h3 d (by omega)
     rw [this] at h4; cases h4
  | none =>
   dsimp only
   have hall : ∀ d, d ≤ runEnd mask i - i → ∃ k, At owner (i + d) k := fun d hd => by
    refine Classical.byContradiction fun z => ?_
    have h1 := (non (i + d) (by omega)).mpr z
    have h2 := List.find?_eq_none.mp hf d (List.mem_range.mpr (by omega))
    exact h2 h1
   have hT0 : T ≠ 0 := fun z => by
    subst z
    exact hn (hall 0 (Nat.zero_le _))
   obtain ⟨T', rfl⟩ : ∃ T', T = T' + 1 := ⟨T - 1, by omega⟩
   refine sP hsz fuel (b + (runEnd mask i - i + 1)) _ _ ?_ (aB3 e) (fun q hq => ?_) ⟨T', by omega, hn⟩
   ·show (_ % (mask + 1)) ≤ mask
    have := Nat.mod_lt (i * 5 + 1 + u / 32) (show mask + 1 > 0 by omega)
    omega
   ·by_cases hqb : q < b
    ·exact hb q hqb
    ·obtain ⟨d, rfl⟩ : ∃ d, q = b + d := ⟨q - b, by omega⟩
     rw [pH e d (by omega)]
     exact hall d (by omega)
end ST
end
section
namespace ST
open PySem PySem.SetTable
theorem aEc {mask : Nat} (hc : hX mask) (h : Int) {j : Nat} (hj : j ≤ mask) : ∃ T, T ≤ 13 + mask ∧ (iter (lp mask) T (bits h % (mask + 1), bits h)).1 = j := by
 have h0 : (bits h % (mask + 1), bits h).1 ≤ mask := by
  have := Nat.mod_lt (bits h) (show mask + 1 > 0 by omega)
  show bits h % (mask + 1) ≤ mask; omega
 have e13 : iter (lp mask) 13 (bits h % (mask + 1), bits h) = ((iter (lp mask) 13 (bits h % (mask + 1), bits h)).1, 0) := by
  refine Prod.ext rfl ?_
  rw [aL8]
  exact Nat.div_eq_of_lt (Nat.lt_of_lt_of_le (aAw h) (by decide))
 obtain ⟨m, hm, e⟩ := hc _ (aI9 13 _ h0) j hj
 refine ⟨13 + m, by omega, ?_⟩
 rw [kM, e13, lX]
 exact e
theorem Lay.room {mask : Nat} {hs : Y0} {owner : Array (Option Nat)} {n : Nat} (o : Lay mask hs owner n) (hn : n ≤ mask) : ∃ j, j ≤ mask ∧ ¬ ∃ k, At owner j k := by
 refine Classical.byContradiction fun q => ?_
 have all : ∀ j, j ≤ mask → ∃ k, At owner j k := fun j hj => Classical.byContradiction fun z => q ⟨j, hj, z⟩
 have hex : ∀ j, ∃ k, j ≤ mask → At owner j k := fun j => by
  by_cases hj : j ≤ mask
  ·obtain ⟨k, e⟩ := all j hj; exact ⟨k, fun _ => e⟩
  ·exact ⟨0, fun z => absurd z hj⟩
 obtain ⟨f, hf⟩ : ∃ f : Nat → Nat, ∀ j, j ≤ mask → At owner j (f j) := ⟨fun j => Classical.choose (hex j), fun j => Classical.choose_spec (hex j)⟩
 have nd : ((List.range (mask + 1)).map f).Nodup := by
  refine List.pairwise_map.mpr ((List.nodup_range (n := mask + 1)).imp_of_mem fun {a b} ha hb hab z => ?_)
  have ha := hf a (by have := List.mem_range.mp ha; omega)
  have hb := hf b (by have := List.mem_range.mp hb; omega)
  rw [z] at ha
  exact hab (o.one _ _ _ ha hb)
 have sub : ((List.range (mask + 1)).map f) ⊆ List.range n := fun k hk => by
  obtain ⟨j, hj, rfl⟩ := List.mem_map.mp hk
  exact List.mem_range.mpr (o.lt _ _ (hf j (by have := List.mem_range.mp hj; omega)))
 have := nd.length_le_of_subset sub
 simp at this
 omega
theorem aD6 {mask : Nat} {hs : Y0} {owner : Array (Option Nat)} {n : Nat} {h : Int} (hc : hX mask) (o : Lay mask hs owner n) (hn : n ≤ mask) (he : hs[n]? = some h) :
  ∃ j, layClean.free mask owner (turns mask) (bits h % (mask + 1)) (bits h) = some j ∧ Lay mask hs (owner.setIfInBounds j (some n)) (n + 1) := by
 obtain ⟨j0, hj0, hn0⟩ := o.room hn
 obtain ⟨T, hT, eT⟩ := aEc hc h hj0
 have hi : bits h % (mask + 1) ≤ mask := by have := Nat.mod_lt (bits h) (show mask + 1 > 0 by omega); omega
 obtain ⟨K, e, hK, hq⟩ := sP (h := h) o.size (turns mask) 0 _ _ hi rfl (fun q hq => by omega) ⟨T, by unfold turns; omega, by rw [eT]; exact hn0⟩
 have hJ : (pos mask h K).j < owner.size := by rw [o.size]; have := (aKi (mask := mask) h K).1; omega
 have at' : ∀ j k, At (owner.setIfInBounds (pos mask h K).j (some n)) j k ↔ (j = (pos mask h K).j ∧ k = n) ∨ (j ≠ (pos mask h K).j ∧ At owner j k) := fun j k => by
  unfold At
  rw [Array.getElem?_setIfInBounds]
  by_cases q : (pos mask h K).j = j
  ·rw [if_pos q, if_pos hJ]
   constructor
   ·intro z; cases z; exact .inl ⟨q.symm, rfl⟩
   ·rintro (⟨_, rfl⟩ | ⟨z, _⟩)
    ·rfl
    ·exact absurd q.symm z
  ·rw [if_neg q]
   constructor
   ·intro z; exact .inr ⟨fun y => q y.symm, z⟩
   ·rintro (⟨z, _⟩ | ⟨_, z⟩)
    ·exact absurd z.symm q
    ·exact z
 have keep : ∀ j k, At owner j k → At (owner.setIfInBounds (pos mask h K).j (some n)) j k := fun j k z => (at' j k).mpr (.inr ⟨fun y => hK ⟨k, y ▸ z⟩, z⟩)
 refine ⟨_, e, ⟨by rw [Array.size_setIfInBounds]; exact o.size, fun k hk => ?_, fun j j' k h1 h2 => ?_, fun j k h1 => ?_, fun j k h' h1 h2 => ?_⟩⟩
 ·by_cases q : k = n
  ·exact ⟨_, (at' _ _).mpr (.inl ⟨rfl, q⟩)⟩
  ·obtain ⟨j, z⟩ := o.all k (by omega)
   exact ⟨j, keep _ _ z⟩
 ·rcases (at' _ _).mp h1 with ⟨a1, a2⟩ | ⟨a1, a2⟩
  ·rcases (at' _ _).mp h2 with ⟨b1, b2⟩ | ⟨b1, b2⟩
   ·rw [a1, b1]
   ·have := o.lt _ _ b2; omega
  ·rcases (at' _ _).mp h2 with ⟨b1, b2⟩ | ⟨b1, b2⟩
   ·have := o.lt _ _ a2; omega
   ·exact o.one _ _ _ a2 b2
 ·rcases (at' _ _).mp h1 with ⟨a1, a2⟩ | ⟨a1, a2⟩
  ·omega
  ·have := o.lt _ _ a2; omega
 ·rcases (at' _ _).mp h1 with ⟨a1, a2⟩ | ⟨a1, a2⟩
  ·subst a2
   rw [he] at h2; cases h2
   refine ⟨K, a1.symm, fun q' hq' => ?_⟩
   obtain ⟨k', z⟩ := hq q' hq'
   exact ⟨k', keep _ _ z⟩
  ·obtain ⟨q, e1, e2⟩ := o.reach j k h' a2 h2
   refine ⟨q, e1, fun q' hq' => ?_⟩
   obtain ⟨k', z⟩ := e2 q' hq'
   exact ⟨k', keep _ _ z⟩
def aGd (mask : Nat) : Option (Array (Option Nat) × Nat) → Int → Option (Array (Option Nat) × Nat) := fun acc h => do
  let (owner, k) ← acc
  let j ← layClean.free mask owner (turns mask) (bits h % (mask + 1)) (bits h)
  pure (owner.setIfInBounds j (some k), k + 1)
theorem xQ {mask : Nat} {hs : Y0} (hc : hX mask) (hl : hs.length ≤ mask) : ∀ (rest pre : Y0) (owner : Array (Option Nat)), hs = pre ++ rest → Lay mask hs owner pre.length →
  ∃ owner', rest.foldl (aGd mask) (some (owner, pre.length)) = some (owner', hs.length) ∧ Lay mask hs owner' hs.length
 | [], pre, owner, e, o => by
  rw [List.append_nil] at e
  subst e
  exact ⟨owner, rfl, o⟩
 | h :: rest, pre, owner, e, o => by
  have hn : pre.length ≤ mask := by rw [e] at hl; simp at hl; omega
  have he : hs[pre.length]? = some h := by rw [e]; simp
  obtain ⟨j, e1, o1⟩ := aD6 hc o hn he
  obtain ⟨owner', e2, o2⟩ := xQ hc hl rest (pre ++ [h]) (owner.setIfInBounds j (some pre.length)) (by rw [e]; simp) (by simpa using o1)
  refine ⟨owner', ?_, o2⟩
  rw [List.foldl_cons]
  have : aGd mask (some (owner, pre.length)) h = some (owner.setIfInBounds j (some pre.length), (pre ++ [h]).length) := by
   show (layClean.free mask owner (turns mask) (bits h % (mask + 1)) (bits h)).bind _ = _
   rw [e1]; simp
  rw [this]; exact e2
theorem tZ {mask : Nat} {hashes : Array Int} (hc : hX mask) (hl : hashes.size ≤ mask) : ∃ owner, layClean mask hashes = some owner ∧ Lay mask hashes.toList owner hashes.size := by
 have o0 : Lay mask hashes.toList (Array.replicate (mask + 1) none) ([] : Y0).length := by
  have no : ∀ j k, ¬ At (Array.replicate (mask + 1) none) j k := fun j k z => by
   unfold At at z
   rw [Array.getElem?_replicate] at z
   split at z <;> cases z
  exact ⟨by simp, fun k hk => by simp at hk, fun j j' k z _ => absurd z (no j k), fun j k z => absurd z (no j k), fun j k h z _ => absurd z (no j k)⟩
 obtain ⟨owner, e, o⟩ := xQ (hs := hashes.toList) hc (by simpa using hl) hashes.toList [] _ rfl o0
 refine ⟨owner, ?_, by simpa using o⟩
 have : layClean mask hashes = ((hashes.foldl (aGd mask) (some (Array.replicate (mask + 1) none, 0))).map (·.1)) := rfl
 rw [this, ← Array.foldl_toList]
 show Option.map _ (List.foldl (aGd mask) (some (Array.replicate (mask + 1) none, ([] : Y0).length)) hashes.toList) = _
 rw [e]; rfl
end ST
end
section
namespace ST
open PySem PySem.SetTable
def eL (mask : Nat) (owner : Array (Option Nat)) : List (Nat × Nat) := (List.range (mask + 1)).filterMap fun j => (owner.getD j none).map (j, ·)
theorem hZ {mask : Nat} {hs : Y0} {owner : Array (Option Nat)} {n : Nat} (o : Lay mask hs owner n) {j k : Nat} : (j, k) ∈ eL mask owner ↔ At owner j k := by
 unfold eL
 rw [List.mem_filterMap]
 constructor
 ·rintro ⟨a, ha, e⟩
  have ha := List.mem_range.mp ha
  have hlt : a < owner.size := by rw [o.size]; exact ha
  have eg : owner.getD a none = owner[a] := by simp [Array.getD, hlt]
  rw [eg] at e
  cases hq : owner[a] with
  | none => rw [hq] at e; cases e
  | some k' =>
   rw [hq] at e
   cases e
   unfold At; rw [Array.getElem?_eq_getElem hlt, hq]
 ·intro e
  have hlt := (Array.getElem?_eq_some_iff.mp e).1
  refine ⟨j, List.mem_range.mpr (by rw [← o.size]; exact hlt), ?_⟩
  have eg : owner.getD j none = owner[j] := by simp [Array.getD, hlt]
  have : owner[j] = some k := by
   have := e; unfold At at this; rw [Array.getElem?_eq_getElem hlt] at this; exact Option.some.inj this
  rw [eg, this]; rfl
theorem aA9 {mask : Nat} {owner : Array (Option Nat)} : (eL mask owner).Pairwise fun a b => a.1 < b.1 := by
 refine List.Pairwise.filterMap (S := fun a b : Nat × Nat => a.1 < b.1) _ (fun a a' h b hb b' hb' => ?_) (List.pairwise_lt_range (n := mask + 1))
 obtain ⟨x, _, rfl⟩ := Option.map_eq_some_iff.mp hb
 obtain ⟨y, _, rfl⟩ := Option.map_eq_some_iff.mp hb'
 exact h
theorem pW {mask : Nat} {hs : Y0} {owner : Array (Option Nat)} {n : Nat} (o : Lay mask hs owner n) : ((eL mask owner).map (·.2)).Perm (List.range n) := by
 refine (List.perm_ext_iff_of_nodup ?_ List.nodup_range).mpr fun k => ?_
 ·refine List.pairwise_map.mpr ((aA9 (mask := mask) (owner := owner)).imp_of_mem fun {a b} ha hb hab z => ?_)
  have ha := (hZ o (j := a.1) (k := a.2)).mp ha
  have hb := (hZ o (j := b.1) (k := b.2)).mp hb
  have z : a.2 = b.2 := z
  rw [z] at ha
  have := o.one _ _ _ ha hb
  omega
 ·rw [List.mem_range]
  constructor
  ·intro h
   obtain ⟨⟨j, k'⟩, h1, rfl⟩ := List.mem_map.mp h
   exact o.lt _ _ ((hZ o).mp h1)
  ·intro h
   obtain ⟨j, z⟩ := o.all k h
   exact List.mem_map.mpr ⟨(j, k), (hZ o).mpr z, rfl⟩
theorem zA {α : Type} {es : Array α} : ∀ {ks : T0}, (∀ k ∈ ks, k < es.size) → ∀ i : Nat, (ks.filterMap (fun k => es[k]?))[i]? = (ks[i]?).bind (fun k => es[k]?)
 | [], _, i => by simp
 | k :: ks, h, i => by
  have hk := h k List.mem_cons_self
  have e : es[k]? = some es[k] := Array.getElem?_eq_getElem hk
  rw [List.filterMap_cons_some e]
  cases i with
  | zero => simp [e]
  | succ i => simpa using zA (fun k hk => h k (List.mem_cons_of_mem _ hk)) i
theorem xZ {α : Type} (es : Array α) : (List.range es.size).filterMap (es[·]?) = es.toList := by
 refine List.ext_getElem? fun i => ?_
 rw [zA (fun k hk => List.mem_range.mp hk) i]
 by_cases h : i < es.size
 ·rw [List.getElem?_range h, Array.getElem?_toList]; rfl
 ·rw [List.getElem?_eq_none (by simp; omega), List.getElem?_eq_none (by simp; omega)]; rfl
theorem wC {es : Y3} {t : SetTable} {wanted : Nat} (hc : hX (sizeAbove wanted - 1)) (hs : es.size ≤ sizeAbove wanted - 1) :
  ∃ t' order, t.relaid (es.map (·.1)) wanted = some (t', order) ∧ TOk (order.filterMap (es[·]?)) t' ∧ (order.filterMap (es[·]?)).toList.Perm es.toList ∧ t'.led = t.led ∧ t'.plain = t.plain ∧ t'.mask = sizeAbove wanted - 1 := by
 obtain ⟨owner, e, o⟩ := tZ (mask := sizeAbove wanted - 1) (hashes := es.map (·.1)) hc (by simpa using hs)
 rw [Array.size_map] at o
 have perm := pW o
 have hlt : ∀ k ∈ (eL (sizeAbove wanted - 1) owner).map (·.2), k < es.size := fun k hk => List.mem_range.mp (perm.subset hk)
 have hlen : (eL (sizeAbove wanted - 1) owner).length = es.size := by have := perm.length_eq; simpa using this
 refine ⟨{ mask := sizeAbove wanted - 1, place := ((eL (sizeAbove wanted - 1) owner).map (·.1)).toArray, dummies := #[], finger := t.finger, led := t.led, moves := t.movedTo (sizeAbove wanted - 1), plain := t.plain }, ((eL (sizeAbove wanted - 1) owner).map (·.2)).toArray, ?_, ?_, ?_, rfl, rfl, rfl⟩
 ·unfold SetTable.relaid SetTable.laid
  rw [e]; rfl
 ·have efm : (((eL (sizeAbove wanted - 1) owner).map (·.2)).toArray.filterMap (es[·]?)).toList = ((eL (sizeAbove wanted - 1) owner).map (·.2)).filterMap (es[·]?) := by simp
  have hsz : (((eL (sizeAbove wanted - 1) owner).map (·.2)).toArray.filterMap (es[·]?)).size = es.size := by
   rw [← Array.length_toList, efm, (perm.filterMap (es[·]?)).length_eq, xZ]; simp
  have occ : ∀ j, Occ ((eL (sizeAbove wanted - 1) owner).map (·.1)).toArray j ↔ ∃ k, At owner j k := fun j => by
   constructor
   ·rintro ⟨i, ei⟩
    rw [List.getElem?_toArray, List.getElem?_map] at ei
    obtain ⟨⟨j', k⟩, e1, rfl⟩ := Option.map_eq_some_iff.mp ei
    exact ⟨k, (hZ o).mp (List.mem_of_getElem? e1)⟩
   ·rintro ⟨k, z⟩
    obtain ⟨i, hi⟩ := List.mem_iff_getElem?.mp ((hZ o).mpr z)
    exact ⟨i, by rw [List.getElem?_toArray, List.getElem?_map, hi]; rfl⟩
  refine ⟨hc, ?_, rfl, ?_, by rw [hsz]; exact hs, ?_⟩
  ·intro i k a b ea eb hik
   rw [List.getElem?_toArray, List.getElem?_map] at ea eb
   obtain ⟨x, e1, rfl⟩ := Option.map_eq_some_iff.mp ea
   obtain ⟨y, e2, rfl⟩ := Option.map_eq_some_iff.mp eb
   obtain ⟨h1, e1⟩ := List.getElem?_eq_some_iff.mp e1
   obtain ⟨h2, e2⟩ := List.getElem?_eq_some_iff.mp e2
   have := List.pairwise_iff_getElem.mp (aA9 (mask := sizeAbove wanted - 1) (owner := owner)) i k h1 h2 hik
   rw [e1, e2] at this; exact this
  ·rw [hsz]; simp [hlen]
  ·intro i en j e1 e2
   rw [← Array.getElem?_toList, efm, zA hlt] at e1
   obtain ⟨k, e3, e4⟩ := Option.bind_eq_some_iff.mp e1
   have e2 : ((eL (sizeAbove wanted - 1) owner).map (·.1)).toArray[i]? = some j := e2
   rw [List.getElem?_toArray, List.getElem?_map] at e2
   rw [List.getElem?_map] at e3
   obtain ⟨x, e5, rfl⟩ := Option.map_eq_some_iff.mp e2
   rw [e5] at e3
   cases e3
   have za := (hZ o (j := x.1) (k := x.2)).mp (List.mem_of_getElem? e5)
   have e4 : es[x.2]? = some en := e4
   obtain ⟨q, q1, q2⟩ := o.reach x.1 x.2 en.1 za (by simp [e4])
   exact ⟨q, q1, fun q' hq' => (occ _).mpr (q2 q' hq')⟩
 ·have efm : (((eL (sizeAbove wanted - 1) owner).map (·.2)).toArray.filterMap (es[·]?)).toList = ((eL (sizeAbove wanted - 1) owner).map (·.2)).filterMap (es[·]?) := by simp
  rw [efm]
  have := perm.filterMap (es[·]?)
  rw [xZ] at this
  exact this
end ST
end
section
namespace ST
open PySem PySem.SetTable
section
variable {prog : Program} {w : World} {K : Type} [DecidableEq K] {knd : KeyKind prog w K} {A : Around} {E : Y9} {s : Shared}
theorem qF (n : Nat) {v : Value} (h : carriedByValue v = true) : ofAClassStatement n v = pure false := by
 cases v with
 | ref a => simp [carriedByValue] at h
 | _ => first | rfl | (cases n <;> rfl)
theorem aFq {ks : List K} {a : Addr} {Q : Bool → Shared → Prop} (hk : IsTupleKey knd s.heap ks a) (h : Q false s) : wpAny (model prog w) A (ofAClassStatement 8 (.ref a)) Q E s := by
 have hT := hk.typeIs
 obtain ⟨o, items, n, ho, hc, hd, hi⟩ := hk
 unfold ofAClassStatement
 refine wpAny_bind (wpAny_typeOf hT ?_)
 dsimp only
 rw [if_pos (by decide)]
 refine wpAny_bind (wpAny_pure ?_)
 rw [if_neg (by simp)]
 refine wpAny_bind (wpAny_seqItems ho hd ?_)
 dsimp only
 refine wpAny_bind ?_
 show wpAny _ _ (forIn items _ _) _ _ s
 rw [← Array.forIn_toList]
 refine wpAny_forIn_list _ (fun rest r s' => r.1 = none ∧ s' = s ∧ ∀ v ∈ rest, carriedByValue v = true) _ ?_ ?_ _ _ ⟨rfl, rfl, hi.byValue⟩
 ·rintro v rest r s' ⟨hr, rfl, hall⟩
  rw [qF _ (hall v List.mem_cons_self)]
  refine wpAny_bind (wpAny_pure ?_)
  rw [if_neg (by simp)]
  exact wpAny_pure ⟨rfl, rfl, fun u hu' => hall u (List.mem_cons_of_mem _ hu')⟩
 ·rintro ⟨r1, r2⟩ s' ⟨hr, rfl, _⟩
  simp only at hr
  subst hr
  exact wpAny_pure h
theorem aJk {ks : List K} {a : Addr} {ys : Y1} {Q : Bool → Shared → Prop} (hk : IsTupleKey knd s.heap ks a) (hy : ∀ y ∈ ys, ∃ ks' b, y = .ref b ∧ IsTupleKey knd s.heap ks' b) (h : Q false s) : wpAny (model prog w) A (searchCouldBeSeen (.ref a) ys) Q E s := by
 unfold searchCouldBeSeen
 refine wpAny_bind ?_
 refine wpAny_forIn_list _ (fun rest r s' => r.1 = none ∧ s' = s ∧ ∀ y ∈ rest, ∃ ks' b, y = Value.ref b ∧ IsTupleKey knd s.heap ks' b) _ ?_ ?_ _ _ ⟨rfl, rfl, hy⟩
 ·rintro v rest r s' ⟨hr, rfl, hall⟩
  obtain ⟨ks', b, rfl, hb⟩ := hall v List.mem_cons_self
  have tl : ∀ y ∈ rest, ∃ ks' b, y = Value.ref b ∧ IsTupleKey knd s'.heap ks' b := fun u hu' => hall u (List.mem_cons_of_mem _ hu')
  dsimp only
  by_cases hab : (a == b || (carriedByValue (.ref a) && carriedByValue (.ref b))) = true
  ·rw [if_pos hab]
   exact wpAny_pure ⟨rfl, rfl, tl⟩
  ·rw [if_neg hab]
   refine wpAny_bind (wpAny_eqIsQuiet_tuple hk ?_)
   rw [if_neg (by simp)]
   refine wpAny_bind (wpAny_eqIsQuiet_tuple hb ?_)
   rw [if_neg (by simp)]
   refine wpAny_bind (aFq hk ?_)
   rw [if_neg (by simp)]
   refine wpAny_bind (aFq hb ?_)
   rw [if_neg (by simp)]
   exact wpAny_pure ⟨rfl, rfl, tl⟩
 ·rintro ⟨r1, r2⟩ s' ⟨hr, rfl, _⟩
  simp only at hr
  subst hr
  exact wpAny_pure h
end
end ST
end
section
namespace ST
open PySem PySem.SetTable
section
variable {prog : Program} {w : World} {K : Type} [DecidableEq K] (knd : KeyKind prog w K)
structure TS (h : Heap) (es : Y3) (t : SetTable) (kas : List (List K × Addr)) : Prop where
 ok : TOk es t
 ents : es.toList = kas.map fun p => (tupleKeyHash knd p.1, Value.ref p.2)
 keys : ∀ p ∈ kas, IsTupleKey knd h p.1 p.2
 nd : (kas.map (·.1)).Nodup
end
section
variable {prog : Program} {w : World} {K : Type} [DecidableEq K] {knd : KeyKind prog w K} {A : Around} {E : Y9} {s : Shared}
theorem TS.at {h : Heap} {es : Y3} {t : SetTable} {kas : List (List K × Addr)} (T : TS knd h es t kas) (i : Nat) : es[i]? = (kas[i]?).map fun p => (tupleKeyHash knd p.1, Value.ref p.2) := by
 rw [← Array.getElem?_toList, T.ents, List.getElem?_map]
theorem TS.len {h : Heap} {es : Y3} {t : SetTable} {kas : List (List K × Addr)} (T : TS knd h es t kas) : es.size = kas.length := by
 rw [← Array.length_toList, T.ents, List.length_map]
theorem TS.fits {h : Heap} {es : Y3} {t : SetTable} {kas : List (List K × Addr)} (T : TS knd h es t kas) : t.fits es.size = true := by
 unfold SetTable.fits SetTable.fill
 rw [T.ok.size, T.ok.dum]
 simp [T.ok.fill]
theorem aCl {S x : Addr} {o : Obj} {es : Y3} {ep : Nat} {t : SetTable} {kas : List (List K × Addr)} {ks : List K} {N : Nat} {Q : SetFound → Shared → Prop}
  (ho : s.heap.get? S = some o) (hd : o.data = .set es ep t) (T : TS knd s.heap es t kas) (hx : IsTupleKey knd s.heap ks x) (hu : A.units < cLine) (hg : t.gaveWay = false) (hN : N ≤ 10 * (13 + t.mask))
  (hf : ¬ Occ t.place (pos t.mask (tupleKeyHash knd ks) N).j) (hb : ∀ k, k < N → Occ t.place (pos t.mask (tupleKeyHash knd ks) k).j)
  (hq : Q (if ks ∈ kas.map (·.1) then .there none else .free (pos t.mask (tupleKeyHash knd ks) N).j false) s) :
  ∀ (d m fuel : Nat) (stand : Option Probe), m + d = N → d < fuel → stand.getD (t.probeStart (tupleKeyHash knd ks)) = pos t.mask (tupleKeyHash knd ks) m →
   (∀ (i : Nat) (p : List K × Addr) (j : Nat), kas[i]? = some p → p.1 = ks → t.place[i]? = some j → ∃ k, m ≤ k ∧ k < N ∧ (pos t.mask (tupleKeyHash knd ks) k).j = j) →
   wpAny (model prog w) A (setSearchFrom S (.ref x) (tupleKeyHash knd ks) true fuel stand) Q E s := by
 intro d
 induction d using Nat.strongRecOn with
 | _ d ih =>
  intro m fuel stand hm hfu hst hkey
  obtain ⟨fuel, rfl⟩ : ∃ n, fuel = n + 1 := ⟨fuel - 1, by omega⟩
  unfold setSearchFrom
  refine wpAny_bind (wpAny_setState_of ho hd T.fits ?_)
  dsimp only
  rw [hg, if_neg (by simp), hst]
  obtain ⟨k, hkN, ⟨hmk, hstop⟩, hfirst⟩ := exists_first (P := fun k => m ≤ k ∧ (k = N ∨ ∃ (i : Nat) (p : List K × Addr), t.place[i]? = some (pos t.mask (tupleKeyHash knd ks) k).j ∧ kas[i]? = some p ∧ tupleKeyHash knd p.1 = tupleKeyHash knd ks)) N ⟨by omega, .inl rfl⟩
  have kasAt : ∀ (i j : Nat), t.place[i]? = some j → ∃ p, kas[i]? = some p := fun i j e => by
   have h1 := (Array.getElem?_eq_some_iff.mp e).1
   rw [T.ok.size, T.len] at h1
   exact ⟨_, List.getElem?_eq_getElem h1⟩
  have jump : ∀ f : Nat → Int, (∀ i, f i = (es[i]?.map (·.1)).getD 0) → t.probe f (tupleKeyHash knd ks) (pos t.mask (tupleKeyHash knd ks) m) = probe.go t f (tupleKeyHash knd ks) (10 * turns t.mask - (k - m)) (pos t.mask (tupleKeyHash knd ks) k) := fun f hf' => by
   have := qS (t := t) (f := f) (h := tupleKeyHash knd ks) (k - m) m (10 * turns t.mask) (by unfold turns; omega) fun k' h1 h2 => by
    obtain ⟨i, e⟩ := hb k' (by omega)
    refine ⟨i, lG T.ok.rise e, ?_⟩
    obtain ⟨p, ep⟩ := kasAt i _ e
    rw [hf' i, T.at i, ep]
    refine Bool.eq_false_iff.mpr fun z => hfirst k' (by omega) ⟨h1, .inr ⟨i, p, e, ep, by simpa using z⟩⟩
   rw [show m + (k - m) = k by omega] at this
   exact this
  have fpos : 0 < 10 * turns t.mask - (k - m) := by unfold turns; omega
  by_cases hcand : ∃ (i : Nat) (p : List K × Addr), t.place[i]? = some (pos t.mask (tupleKeyHash knd ks) k).j ∧ kas[i]? = some p ∧ tupleKeyHash knd p.1 = tupleKeyHash knd ks
  ·obtain ⟨i, p, e1, e2, e3⟩ := hcand
   have hkN' : k < N := by
    rcases Nat.lt_or_ge k N with q | q
    ·exact q
    ·have : k = N := by omega
     subst this
     exact absurd ⟨i, e1⟩ hf
   have pr : ∀ f : Nat → Int, (∀ i, f i = (es[i]?.map (·.1)).getD 0) → t.probe f (tupleKeyHash knd ks) (pos t.mask (tupleKeyHash knd ks) m) = some (.candidate (pos t.mask (tupleKeyHash knd ks) k).j i (pos t.mask (tupleKeyHash knd ks) (k + 1))) := fun f hf' => by
    rw [jump f hf']
    refine aGw fpos (lG T.ok.rise e1) ?_
    rw [hf' i, T.at i, e2]
    simpa using e3
   rw [pr]
   rotate_left
   ·intro i; rfl
   dsimp only
   have ei : es[i]? = some (tupleKeyHash knd p.1, Value.ref p.2) := by rw [T.at i, e2]; rfl
   have hp := T.keys p (List.mem_of_getElem? e2)
   have rest : wpAny (model prog w) A (do
     let some (_, y) := es[i]? | unsupported "internal:set-entry"
     let equal ← holding [y] (eqBool y (.ref x))
     let (es', _, t') ← setState S
     if true && equal then return SetFound.there none
     let some same := t'.sameMemory t.moves t.mask | unsupported "set.changed-during-lookup:is-the-new-block-at-the-old-address"
     let still ← match (if same then t'.slot (pos t.mask (tupleKeyHash knd ks) k).j else .empty) with
      | .live i' => match es'[i']? with
       | some (_, y') => do pure (if ← isSame y' y then some i' else none)
       | none => pure none
      | _ => pure none
     match still with
     | none => rule "set.search.anew"; setSearchFrom S (.ref x) (tupleKeyHash knd ks) true fuel none
     | some i' => if equal then return SetFound.there (some i') else setSearchFrom S (.ref x) (tupleKeyHash knd ks) true fuel (some (pos t.mask (tupleKeyHash knd ks) (k + 1)))) Q E s := by
    rw [ei]
    dsimp only
    refine wpAny_bind (wpAny_holding (wpAny_eqBool_tuple hu hp hx ?_))
    refine wpAny_bind (wpAny_setState_of ho hd T.fits ?_)
    dsimp only
    by_cases heq : p.1 = ks
    ·rw [decide_eq_true heq, if_pos (by simp)]
     have : ks ∈ kas.map (·.1) := List.mem_map.mpr ⟨p, List.mem_of_getElem? e2, heq⟩
     rw [if_pos this] at hq
     exact wpAny_pure hq
    ·rw [decide_eq_false heq, if_neg (by simp)]
     have hsm : t.sameMemory t.moves t.mask = some true := by simp [SetTable.sameMemory]
     rw [hsm]
     dsimp only
     rw [if_pos rfl, lG T.ok.rise e1]
     dsimp only
     rw [ei]
     dsimp only
     have his : isSame (.ref p.2) (.ref p.2) = pure true := by simp [isSame]
     rw [his]
     refine wpAny_bind (wpAny_pure ?_)
     rw [if_pos rfl]
     refine wpAny_bind (wpAny_pure ?_)
     show wpAny _ _ (if false = true then _ else _) _ _ _
     rw [if_neg (by simp)]
     refine ih (N - (k + 1)) (by omega) (k + 1) fuel _ (by omega) (by omega) rfl fun i' p' j' h1 h2 h3 => ?_
     obtain ⟨k', a1, a2, a3⟩ := hkey i' p' j' h1 h2 h3
     refine ⟨k', ?_, a2, a3⟩
     rcases Nat.lt_trichotomy k' k with z | z | z
     ·exact absurd ⟨a1, .inr ⟨i', p', by rw [a3]; exact h3, h1, by rw [h2]⟩⟩ (hfirst k' z)
     ·subst z
      rw [← a3] at h3
      have : i = i' := by
       rcases Nat.lt_trichotomy i i' with y | y | y
       ·have := T.ok.rise _ _ _ _ e1 h3 y; omega
       ·exact y
       ·have := T.ok.rise _ _ _ _ h3 e1 y; omega
      subst this
      rw [e2] at h1; cases h1
      exact absurd h2 heq
     ·omega
   cases hl : t.led with
   | true =>
    rw [if_neg (by simp)]
    exact rest
   | false =>
    rw [if_pos (by simp)]
    refine wpAny_bind (aJk hx (fun y hy => ?_) ?_)
    ·obtain ⟨e, he, rfl⟩ := List.mem_map.mp hy
     have he : e ∈ es := (Array.mem_filter.mp (Array.mem_toList_iff.mp he)).1
     have he : e ∈ es.toList := Array.mem_toList_iff.mpr he
     rw [T.ents] at he
     obtain ⟨p', hp', rfl⟩ := List.mem_map.mp he
     exact ⟨p'.1, p'.2, rfl, T.keys p' hp'⟩
    ·rw [if_neg (by simp)]
     exact rest
  ·have hkN' : k = N := by
    rcases hstop with q | q
    ·exact q
    ·exact absurd q hcand
   subst hkN'
   have pr : ∀ f : Nat → Int, (∀ i, f i = (es[i]?.map (·.1)).getD 0) → t.probe f (tupleKeyHash knd ks) (pos t.mask (tupleKeyHash knd ks) m) = some (.empty (pos t.mask (tupleKeyHash knd ks) k).j none) := fun f hf' => by
    rw [jump f hf']
    exact xT fpos (qQ T.ok.dum fun i e => hf ⟨i, e⟩)
   rw [pr]
   rotate_left
   ·intro i; rfl
   dsimp only
   have : ¬ ks ∈ kas.map (·.1) := fun z => by
    obtain ⟨p, hp, rfl⟩ := List.mem_map.mp z
    obtain ⟨i, hi⟩ := List.mem_iff_getElem?.mp hp
    have hlt : i < t.place.size := by rw [T.ok.size, T.len]; exact (List.getElem?_eq_some_iff.mp hi).1
    obtain ⟨k', a1, a2, a3⟩ := hkey i p _ hi rfl (Array.getElem?_eq_getElem hlt)
    exact hfirst k' a2 ⟨a1, .inr ⟨i, p, by rw [a3]; exact Array.getElem?_eq_getElem hlt, hi, rfl⟩⟩
   rw [if_neg this] at hq
   exact wpAny_pure hq
end
end ST
end
section
namespace ST
open PySem PySem.SetTable
section
variable {prog : Program} {w : World} {A : Around} {E : Y9} {s : Shared}
theorem hbv {ks : Y0} {a : Addr} {Q : Bool → Shared → Prop} (hk : IsTupleKey (intKind prog w) s.heap ks a) (h : Q true s) : wpAny (model prog w) A (hashByValue 8 (.ref a)) Q E s := by
 have hT := hk.typeIs
 obtain ⟨o, items, n, ho, hc, hd, hi⟩ := hk
 have hall : ∀ v ∈ items.toList, hashByValue 7 v = pure true := by
  clear ho hd hc h
  generalize items.toList = l at hi
  induction hi with
  | nil => intro v hv; simp at hv
  | @cons k v' ks vs h1 _ ih =>
   intro v hv
   rcases List.mem_cons.mp hv with rfl | hv
   ·obtain ⟨t, rfl⟩ := Value.isInt_shape h1; rfl
   ·exact ih v hv
 unfold hashByValue
 refine wpAny_bind (wpAny_specialOf hT F.slot_tuple_hash.lookup ?_)
 show wpAny _ _ (seqItems? (.ref a) >>= _) _ _ s
 refine wpAny_bind (wpAny_seqItems ho hd ?_)
 refine wpAny_bind ?_
 show wpAny _ _ (forIn items _ _) _ _ s
 rw [← Array.forIn_toList]
 refine wpAny_forIn_list _ (fun rest r s' => r.1 = none ∧ s' = s ∧ ∀ v ∈ rest, hashByValue 7 v = pure true) _ ?_ ?_ _ _ ⟨rfl, rfl, hall⟩
 ·rintro v rest r s' ⟨hr, rfl, hall⟩
  rw [hall v List.mem_cons_self]
  refine wpAny_bind (wpAny_pure ?_)
  rw [if_neg (by simp)]
  exact wpAny_pure ⟨rfl, rfl, fun u hu' => hall u (List.mem_cons_of_mem _ hu')⟩
 ·rintro ⟨r1, r2⟩ s' ⟨hr, rfl, _⟩
  simp only at hr
  subst hr
  exact wpAny_pure h
theorem pN {h h' : Heap} {ks : Y0} {a S : Addr} {o : Obj} {es : Y3} {ep : Nat} {t : SetTable} (x : IsTupleKey (intKind prog w) h ks a) (ho : h.get? S = some o) (hd : o.data = .set es ep t) (hs : Heap.SameBut S h h') : IsTupleKey (intKind prog w) h' ks a := by
 obtain ⟨o', items, n, ho', hc, hd', hi⟩ := x
 have hne : a ≠ S := by
  rintro rfl
  obtain rfl : o' = o := Option.some.inj (ho'.symm.trans ho)
  rw [hd] at hd'; exact nomatch hd'
 exact ⟨o', items, n, (hs.2 a hne).trans ho', hc, hd', hi⟩
def iZ (prog : Program) (w : World) (h : Heap) (S : Addr) (kas : Y7) : Prop :=
 ∃ o es ep t, h.get? S = some o ∧ o.ExactSet ∧ o.data = .set es ep t ∧ TS (intKind prog w) h es t kas ∧ t.plain = true ∧ t.led = !(w.params.followText "set-order") ∧ ((t.mask = 7 ∧ kas.length ≤ 4) ∨ (t.mask = 31 ∧ kas.length ≤ 18))
theorem TS.heap {h h' : Heap} {es : Y3} {t : SetTable} {kas : Y7} (T : TS (intKind prog w) h es t kas) (hk : ∀ p ∈ kas, IsTupleKey (intKind prog w) h' p.1 p.2) : TS (intKind prog w) h' es t kas := ⟨T.ok, T.ents, hk, T.nd⟩
theorem aDu {kas : Y7} {es : Y3} {p : Nat} {ks : Y0} {x : Addr} (he : es.toList = kas.map fun p => (tupleKeyHash (intKind prog w) p.1, Value.ref p.2)) (hp : p ≤ es.size) :
  (insertAt es p (tupleKeyHash (intKind prog w) ks, Value.ref x)).toList = (kas.take p ++ (ks, x) :: kas.drop p).map fun p => (tupleKeyHash (intKind prog w) p.1, Value.ref p.2) := by
 have e : (insertAt es p (tupleKeyHash (intKind prog w) ks, Value.ref x)).toList = es.toList.take p ++ (tupleKeyHash (intKind prog w) ks, Value.ref x) :: es.toList.drop p := by
  simp [insertAt, List.take_of_length_le]
 rw [e, he]; simp
theorem yB {α : Type} {l : List α} {p : Nat} {x : α} : (l.take p ++ x :: l.drop p).Perm (x :: l) := by
 have : (l.take p ++ x :: l.drop p).Perm (x :: (l.take p ++ l.drop p)) := List.perm_middle
 rwa [List.take_append_drop] at this
theorem tT {kas : Y7} {l : List (Int × Value)} (hp : l.Perm (kas.map fun p => (tupleKeyHash (intKind prog w) p.1, Value.ref p.2))) : ∃ kas' : Y7, l = kas'.map (fun p => (tupleKeyHash (intKind prog w) p.1, Value.ref p.2)) ∧ kas'.Perm kas := by
 generalize e : (kas.map fun p => (tupleKeyHash (intKind prog w) p.1, Value.ref p.2)) = m at hp
 induction hp generalizing kas with
 | nil => exact ⟨[], rfl, by cases kas <;> first | exact .refl _ | cases e⟩
 | cons x _ ih =>
  cases kas with
  | nil => cases e
  | cons k kas =>
   cases e
   obtain ⟨kas', h1, h2⟩ := ih rfl
   exact ⟨k :: kas', by rw [h1]; rfl, h2.cons k⟩
 | swap x y l =>
  cases kas with
  | nil => cases e
  | cons k kas =>
   cases kas with
   | nil => cases e
   | cons k2 kas => cases e; exact ⟨k2 :: k :: kas, rfl, .swap _ _ _⟩
 | trans h1 h2 ih1 ih2 =>
  obtain ⟨kas', a1, a2⟩ := ih2 e
  obtain ⟨kas'', b1, b2⟩ := ih1 a1.symm
  exact ⟨kas'', b1, b2.trans a2⟩
theorem oE {h : Heap} {S : Addr} {o : Obj} {es es' : Y3} {ep : Nat} {t t' : SetTable} (ho : h.get? S = some o) (hd : o.data = .set es ep t) :
  (h.update S (Obj.putSet es' t')).get? S = some { o with data := .set es' (ep + 1) t' } := by
 have := Heap.get?_update_self (Obj.putSet es' t') ho (by rw [putSet_of es' t' hd]; rfl)
 rw [putSet_of es' t' hd] at this; exact this
theorem aMf {S x : Addr} {kas : Y7} {ks : Y0} {Q : Bool → Shared → Prop} (hS : iZ prog w s.heap S kas) (hx : IsTupleKey (intKind prog w) s.heap ks x) (hu : A.units < cLine) (hn : kas.length < 18)
  (h : ∀ b h' kas', Heap.SameBut S s.heap h' → iZ prog w h' S kas' → (if ks ∈ kas.map (·.1) then kas' = kas else kas'.Perm ((ks, x) :: kas)) → Q b { s with heap := h', toks := s.toks + (ks.length + 1) }) :
  wpAny (model prog w) A (setAdd S (.ref x)) Q E s := by
 obtain ⟨o, es, ep, t, ho, hex, hd, T, hpl, hled, hsz⟩ := hS
 unfold setAdd
 refine wpAny_holding (wpAny_bind (wpAny_pyHash_tuple hu hx ?_))
 unfold setAddHashed setAddHashedIn
 have hx' : IsTupleKey (intKind prog w) ({ s with toks := s.toks + (ks.length + 1) } : Shared).heap ks x := hx
 have T' : TS (intKind prog w) ({ s with toks := s.toks + (ks.length + 1) } : Shared).heap es t kas := T
 have ho' : ({ s with toks := s.toks + (ks.length + 1) } : Shared).heap.get? S = some o := ho
 generalize hs1 : ({ s with toks := s.toks + (ks.length + 1) } : Shared) = s1 at hx' T' ho'
 have heap1 : s1.heap = s.heap := by rw [← hs1]
 have hend : ∀ b h' kas', Heap.SameBut S s1.heap h' → iZ prog w h' S kas' → (if ks ∈ kas.map (·.1) then kas' = kas else kas'.Perm ((ks, x) :: kas)) → Q b { s1 with heap := h' } := by
  rw [← hs1]; exact h
 refine wpAny_holding (wpAny_bind (wpAny_setState_of ho' hd T.fits ?_))
 dsimp only
 rw [show byScan (.ref x) es = false from rfl, if_neg (by simp)]
 obtain ⟨N, hN, hf, hb⟩ := T.ok.free (tupleKeyHash (intKind prog w) ks)
 have hg : t.gaveWay = false := by
  unfold SetTable.gaveWay
  rcases hsz with ⟨e, _⟩ | ⟨e, _⟩ <;> rw [e] <;> rfl
 unfold setSearch
 refine wpAny_bind (aCl (N := N) ho' hd T' hx' hu hg hN hf hb ?_ N 0 100000 none (by omega) ?_ rfl ?_)
 ·by_cases hin : ks ∈ kas.map (·.1)
  ·rw [if_pos hin]
   refine wpAny_pure ?_
   have := hend false s1.heap kas (Heap.SameBut.refl _ _) ⟨o, es, ep, t, ho', hex, hd, T', hpl, hled, hsz⟩ (by rw [if_pos hin])
   have e : ({ s1 with heap := s1.heap } : Shared) = s1 := by cases s1; rfl
   rw [e] at this; exact this
  ·rw [if_neg hin]
   dsimp only
   refine wpAny_bind (wpAny_setState_of ho' hd T.fits ?_)
   dsimp only
   have hf1 : es.size + 1 ≤ t.mask := by
    rw [T.len]
    rcases hsz with ⟨e, hl⟩ | ⟨e, hl⟩ <;> rw [e] <;> omega
   obtain ⟨ok1, hp⟩ := T.ok.put (x := .ref x) hf hb hf1
   have epl : (t.put (pos t.mask (tupleKeyHash (intKind prog w) ks) N).j).1.plain = true := hpl
   rw [epl, if_pos rfl]
   refine wpAny_bind (hbv hx' ?_)
   rw [if_pos rfl]
   have ents1 := aDu (w := w) (prog := prog) (ks := ks) (x := x) T.ents hp
   have hsz1 : (insertAt es (t.put (pos t.mask (tupleKeyHash (intKind prog w) ks) N).j).2 (tupleKeyHash (intKind prog w) ks, Value.ref x)).size = kas.length + 1 := by rw [nF hp, T.len]
   refine wpAny_bind (wpAny_storeSet_of ho' hd ?_ (fits_of_scanBound (by rw [hsz1]; unfold scanBound; omega)))
   have ho1 := oE (es' := insertAt es (t.put (pos t.mask (tupleKeyHash (intKind prog w) ks) N).j).2 (tupleKeyHash (intKind prog w) ks, Value.ref x)) (t' := (t.put (pos t.mask (tupleKeyHash (intKind prog w) ks) N).j).1) ho' hd
   have sb1 := Heap.SameBut.update s1.heap S (Obj.putSet (insertAt es (t.put (pos t.mask (tupleKeyHash (intKind prog w) ks) N).j).2 (tupleKeyHash (intKind prog w) ks, Value.ref x)) (t.put (pos t.mask (tupleKeyHash (intKind prog w) ks) N).j).1)
   have keys1 : ∀ p ∈ (ks, x) :: kas, IsTupleKey (intKind prog w) (s1.heap.update S (Obj.putSet (insertAt es (t.put (pos t.mask (tupleKeyHash (intKind prog w) ks) N).j).2 (tupleKeyHash (intKind prog w) ks, Value.ref x)) (t.put (pos t.mask (tupleKeyHash (intKind prog w) ks) N).j).1)) p.1 p.2 := fun p hp' => by
    rcases List.mem_cons.mp hp' with rfl | hp'
    ·exact pN hx' ho' hd sb1
    ·exact pN (T'.keys p hp') ho' hd sb1
   have nd1 : (((ks, x) :: kas).map (·.1)).Nodup := List.nodup_cons.mpr ⟨hin, T.nd⟩
   have perm1 := yB (l := kas) (p := (t.put (pos t.mask (tupleKeyHash (intKind prog w) ks) N).j).2) (x := (ks, x))
   have T1 : TS (intKind prog w) (s1.heap.update S (Obj.putSet (insertAt es (t.put (pos t.mask (tupleKeyHash (intKind prog w) ks) N).j).2 (tupleKeyHash (intKind prog w) ks, Value.ref x)) (t.put (pos t.mask (tupleKeyHash (intKind prog w) ks) N).j).1)) (insertAt es (t.put (pos t.mask (tupleKeyHash (intKind prog w) ks) N).j).2 (tupleKeyHash (intKind prog w) ks, Value.ref x)) (t.put (pos t.mask (tupleKeyHash (intKind prog w) ks) N).j).1 (kas.take (t.put (pos t.mask (tupleKeyHash (intKind prog w) ks) N).j).2 ++ (ks, x) :: kas.drop (t.put (pos t.mask (tupleKeyHash (intKind prog w) ks) N).j).2) :=
    ⟨ok1, ents1, fun p hp' => keys1 p (perm1.subset hp'), (perm1.map (·.1)).nodup_iff.mpr nd1⟩
   have emask : (t.put (pos t.mask (tupleKeyHash (intKind prog w) ks) N).j).1.mask = t.mask := rfl
   have efill : (t.put (pos t.mask (tupleKeyHash (intKind prog w) ks) N).j).1.fill = kas.length + 1 := by
    unfold SetTable.fill
    rw [ok1.size, ok1.dum, hsz1]; rfl
   by_cases hfull : (t.put (pos t.mask (tupleKeyHash (intKind prog w) ks) N).j).1.tooFull = true
   ·rw [hfull, if_pos (by simp)]
    have h4 : t.mask = 7 ∧ kas.length = 4 := by
     unfold SetTable.tooFull at hfull
     rw [efill, emask] at hfull
     have hfull := of_decide_eq_true hfull
     rcases hsz with ⟨e, hl⟩ | ⟨e, hl⟩ <;> rw [e] at hfull <;> constructor <;> omega
    refine wpAny_bind ?_
    unfold setRelay
    refine wpAny_bind (wpAny_setState_of ho1 rfl T1.fits ?_)
    dsimp only
    have ew : SetTable.grown (es.size + 1) = 20 := by rw [T.len, h4.2]; rfl
    have es32 : sizeAbove 20 = 32 := by decide
    rw [ew, es32, if_neg (by rw [sizeLine_eq]; omega)]
    obtain ⟨t', order, er, ok2, perm2, l2, p2, m2⟩ := wC (es := insertAt es (t.put (pos t.mask (tupleKeyHash (intKind prog w) ks) N).j).2 (tupleKeyHash (intKind prog w) ks, Value.ref x)) (t := (t.put (pos t.mask (tupleKeyHash (intKind prog w) ks) N).j).1) (wanted := 20) (by rw [es32]; exact rC) (by rw [es32, hsz1]; omega)
    rw [er]
    have hsz2 : (order.filterMap ((insertAt es (t.put (pos t.mask (tupleKeyHash (intKind prog w) ks) N).j).2 (tupleKeyHash (intKind prog w) ks, Value.ref x))[·]?)).size = (insertAt es (t.put (pos t.mask (tupleKeyHash (intKind prog w) ks) N).j).2 (tupleKeyHash (intKind prog w) ks, Value.ref x)).size := by
     rw [← Array.length_toList, perm2.length_eq, Array.length_toList]
    refine wpAny_bind ?_
    show wpAny _ _ (if ((order.filterMap ((insertAt es (t.put (pos t.mask (tupleKeyHash (intKind prog w) ks) N).j).2 (tupleKeyHash (intKind prog w) ks, Value.ref x))[·]?)).size != (insertAt es (t.put (pos t.mask (tupleKeyHash (intKind prog w) ks) N).j).2 (tupleKeyHash (intKind prog w) ks, Value.ref x)).size) = true then _ else _) _ _ _
    rw [if_neg (by rw [hsz2]; simp)]
    refine wpAny_pure ?_
    dsimp only
    refine wpAny_storeSet_of ho1 rfl ?_ (fits_of_scanBound (by rw [hsz2, hsz1]; unfold scanBound; omega))
    refine wpAny_pure ?_
    rw [T1.ents] at perm2
    obtain ⟨kas2, e2, pk⟩ := tT perm2
    have ho2 := oE (es' := order.filterMap ((insertAt es (t.put (pos t.mask (tupleKeyHash (intKind prog w) ks) N).j).2 (tupleKeyHash (intKind prog w) ks, Value.ref x))[·]?)) (t' := t') ho1 rfl
    have sb2 := Heap.SameBut.update (s1.heap.update S (Obj.putSet (insertAt es (t.put (pos t.mask (tupleKeyHash (intKind prog w) ks) N).j).2 (tupleKeyHash (intKind prog w) ks, Value.ref x)) (t.put (pos t.mask (tupleKeyHash (intKind prog w) ks) N).j).1)) S (Obj.putSet (order.filterMap ((insertAt es (t.put (pos t.mask (tupleKeyHash (intKind prog w) ks) N).j).2 (tupleKeyHash (intKind prog w) ks, Value.ref x))[·]?)) t')
    have pk2 := pk.trans perm1
    refine hend true _ kas2 (sb1.trans sb2) ⟨_, _, _, t', ho2, hex, rfl, ⟨ok2, e2, fun p hp' => pN (keys1 p (pk2.subset hp')) ho1 rfl sb2, (pk2.map (·.1)).nodup_iff.mpr nd1⟩, by rw [p2]; exact epl, by rw [l2]; exact hled, .inr ⟨by rw [m2, es32], ?_⟩⟩ (by rw [if_neg hin]; exact pk2)
    have := pk2.length_eq
    simp at this; omega
   ·rw [Bool.eq_false_iff.mpr hfull, if_neg (by simp)]
    refine wpAny_pure (hend true _ _ sb1 ⟨_, _, _, _, ho1, hex, rfl, T1, epl, hled, ?_⟩ (by rw [if_neg hin]; exact perm1))
    have hlen := perm1.length_eq
    simp at hlen
    unfold SetTable.tooFull at hfull
    rw [efill, emask] at hfull
    have hfull : ¬ ((kas.length + 1) * 5 ≥ t.mask * 3) := fun z => hfull (decide_eq_true z)
    rcases hsz with ⟨e, hl⟩ | ⟨e, hl⟩
    ·rw [e] at hfull
     exact .inl ⟨e, by simp; omega⟩
    ·rw [e] at hfull
     exact .inr ⟨e, by simp; omega⟩
 ·rcases hsz with ⟨e, _⟩ | ⟨e, _⟩ <;> rw [e] at hN <;> omega
 ·intro i p j h1 h2 h3
  obtain ⟨k, e1, e2⟩ := T.ok.reach i (tupleKeyHash (intKind prog w) p.1, Value.ref p.2) j (by rw [T.at i, h1]; rfl) h3
  have e1 : (pos t.mask (tupleKeyHash (intKind prog w) p.1) k).j = j := e1
  have e2 : ∀ k', k' < k → Occ t.place (pos t.mask (tupleKeyHash (intKind prog w) p.1) k').j := e2
  rw [h2] at e1 e2
  refine ⟨k, Nat.zero_le _, ?_, e1⟩
  rcases Nat.lt_trichotomy k N with q | q | q
  ·exact q
  ·subst q
   exact absurd ⟨i, by rw [e1]; exact h3⟩ hf
  ·exact absurd (e2 N q) hf
end
end ST
end
section
namespace ST
open PySem PySem.SetTable
section
variable {prog : Program} {w : World} {A : Around} {E : Y9} {s : Shared}
theorem iZ.keep {h h' : Heap} {S : Addr} {kas : Y7} (x : iZ prog w h S kas) (hk : ∀ o, h.get? S = some o → h'.get? S = some o) (ht : ∀ p ∈ kas, IsTupleKey (intKind prog w) h' p.1 p.2) : iZ prog w h' S kas := by
 obtain ⟨o, es, ep, t, ho, hex, hd, T, r⟩ := x
 exact ⟨o, es, ep, t, hk o ho, hex, hd, T.heap ht, r⟩
theorem iZ.len {h : Heap} {S : Addr} {kas : Y7} (x : iZ prog w h S kas) : kas.length ≤ 18 := by
 obtain ⟨o, es, ep, t, ho, hex, hd, T, _, _, r⟩ := x
 rcases r with ⟨_, r⟩ | ⟨_, r⟩ <;> omega
theorem iZ.keys {h : Heap} {S : Addr} {kas : Y7} (x : iZ prog w h S kas) : ∀ p ∈ kas, IsTupleKey (intKind prog w) h p.1 p.2 := by
 obtain ⟨o, es, ep, t, ho, hex, hd, T, _⟩ := x
 exact T.keys
theorem iZ.nd {h : Heap} {S : Addr} {kas : Y7} (x : iZ prog w h S kas) : (kas.map (·.1)).Nodup := by
 obtain ⟨o, es, ep, t, ho, hex, hd, T, _⟩ := x
 exact T.nd
def Ded (key : Nat → Y0) (adr : Nat → Addr) (i : Nat) (kas : Y7) : Prop :=
 (∀ ks, ks ∈ kas.map (·.1) ↔ ∃ i', i' < i ∧ key i' = ks) ∧ (∀ p ∈ kas, ∃ i', i' < i ∧ p = (key i', adr i')) ∧ kas.length ≤ i
theorem Ded.zero {key : Nat → Y0} {adr : Nat → Addr} : Ded key adr 0 [] := ⟨fun ks => ⟨fun z => by simp at z, fun ⟨i, h, _⟩ => by omega⟩, fun p hp => by simp at hp, by simp⟩
theorem Ded.step {key : Nat → Y0} {adr : Nat → Addr} {i : Nat} {kas kas' : Y7} (d : Ded key adr i kas) (h : if key i ∈ kas.map (·.1) then kas' = kas else kas'.Perm ((key i, adr i) :: kas)) : Ded key adr (i + 1) kas' := by
 obtain ⟨d1, d2, d3⟩ := d
 by_cases hin : key i ∈ kas.map (·.1)
 ·rw [if_pos hin] at h
  subst h
  refine ⟨fun ks => ?_, fun p hp => ?_, by omega⟩
  ·rw [d1 ks]
   constructor
   ·rintro ⟨i', h1, h2⟩; exact ⟨i', by omega, h2⟩
   ·rintro ⟨i', h1, h2⟩
    by_cases q : i' = i
    ·subst q; rw [← h2]; exact (d1 _).mp hin
    ·exact ⟨i', by omega, h2⟩
  ·obtain ⟨i', h1, h2⟩ := d2 p hp
   exact ⟨i', by omega, h2⟩
 ·rw [if_neg hin] at h
  refine ⟨fun ks => ?_, fun p hp => ?_, by have := h.length_eq; simp at this; omega⟩
  ·rw [(h.map (·.1)).mem_iff, List.map_cons, List.mem_cons, d1 ks]
   constructor
   ·rintro (rfl | ⟨i', h1, h2⟩)
    ·exact ⟨i, by omega, rfl⟩
    ·exact ⟨i', by omega, h2⟩
   ·rintro ⟨i', h1, h2⟩
    by_cases q : i' = i
    ·subst q; exact .inl h2.symm
    ·exact .inr ⟨i', by omega, h2⟩
  ·rcases List.mem_cons.mp (h.subset hp) with rfl | hp
   ·exact ⟨i, by omega, rfl⟩
   ·obtain ⟨i', h1, h2⟩ := d2 p hp
    exact ⟨i', by omega, h2⟩
theorem iB {h h' : Heap} {ks : Y0} {a : Addr} (x : IsTupleKey (intKind prog w) h ks a) (hk : ∀ o, h.get? a = some o → h'.get? a = some o) : IsTupleKey (intKind prog w) h' ks a := by
 obtain ⟨o, items, n, ho, hc, hd, hi⟩ := x
 exact ⟨o, items, n, hk o ho, hc, hd, hi⟩
theorem aN8 {R : Result → Shared → Prop} {I : Addr} {fp wr : Y2} {G : Array GenState → Array GenState → Prop} {n : Nat} {P : Nat → Value → Prop} {St : Nat → Shared → Prop}
  (W : WalksS prog w A.in1 I fp wr G n P St) (S : Addr) (hSf : S ∉ fp) (hu : A.in1.units < cLine) (key : Nat → Y0) (adr : Nat → Addr) (hval : ∀ i v, P i v → v = .ref (adr i)) (hb : n ≤ 18) (hnw : ∀ i, i < n → adr i ∉ S :: wr) :
  ∀ (k i : Nat) (s : Shared) (kas : Y7), n - i = k → i ≤ n → St i s → iZ prog w s.heap S kas → Ded key adr i kas → (∀ i, i < n → IsTupleKey (intKind prog w) s.heap (key i) (adr i)) →
   (∀ s' kas', Moved (S :: wr) G s s' → iZ prog w s'.heap S kas' → Ded key adr n kas' → R (.ok (.ret .none)) s') →
   codeAny (model prog w) A (.builtin "set.update.loop" ⟨[.ref S, .ref I], []⟩) R s := by
 have hSw : S ∉ wr := fun h => hSf (W.sub _ h)
 have hsub : ∀ b ∈ wr, b ∈ S :: wr := fun b hb => List.mem_cons_of_mem _ hb
 intro k
 induction k with
 | zero =>
  intro i s kas hk hi hst hS hD hT hR
  have hin : i = n := by omega
  subst hin
  refine codeAny_builtin PyProof.Rows.F.entry_set_update_loop ?_
  rw [Around.under_plainId PyProof.Rows.F.plain_set_update_loop _]
  show wpAny _ A.in1 (pyNext (.ref I) >>= _) _ _ s
  refine wpAny_bind (W.done s _ _ hst fun s' hm => ?_)
  show wpAny _ A.in1 (ret Value.none) _ _ s'
  refine wpAny_pure (hR s' kas (hm.mono hsub) (hS.keep (fun o e => hm.heap S o hSw e) fun p hp => ?_) hD)
  obtain ⟨i', h1, rfl⟩ := hD.2.1 p hp
  exact iB (hT i' h1) fun o e => hm.heap _ o (fun z => hnw i' h1 (hsub _ z)) e
 | succ k ih =>
  intro i s kas hk hi hst hS hD hT hR
  have hlt : i < n := by omega
  refine codeAny_builtin PyProof.Rows.F.entry_set_update_loop ?_
  rw [Around.under_plainId PyProof.Rows.F.plain_set_update_loop _]
  show wpAny _ A.in1 (pyNext (.ref I) >>= _) _ _ s
  refine wpAny_bind (W.item i s _ _ hlt hst fun v s' hP hst' hm => ?_)
  obtain rfl := hval i v hP
  have hT' : ∀ i, i < n → IsTupleKey (intKind prog w) s'.heap (key i) (adr i) := fun i' h1 => iB (hT i' h1) fun o e => hm.heap _ o (fun z => hnw i' h1 (hsub _ z)) e
  have hS' : iZ prog w s'.heap S kas := hS.keep (fun o e => hm.heap S o hSw e) fun p hp => by
   obtain ⟨i', h1, rfl⟩ := hD.2.1 p hp
   exact hT' i' (by omega)
  show wpAny _ A.in1 (holding [Value.ref (adr i)] (setAdd S (.ref (adr i))) >>= _) _ _ s'
  refine wpAny_bind (wpAny_holding (aMf hS' (hT' i hlt) hu (by have := hD.2.2; omega) fun b h' kas' sb hS2 hc => ?_))
  have hT2 : ∀ i, i < n → IsTupleKey (intKind prog w) h' (key i) (adr i) := fun i' h1 => iB (hT' i' h1) fun o e => by
   rw [sb.2 _ (fun z => hnw i' h1 (by rw [z]; exact List.mem_cons_self))]; exact e
  refine wpAny_pure ⟨plainId_quiet PyProof.Rows.F.plain_set_update_loop _, ih (i + 1) _ kas' (by omega) hlt (W.frame _ s' _ _ hst' (Nat.le_add_right _ _) fun b hb o e => ?_) hS2 (hD.step hc) hT2 fun s'' kas'' hm'' hS'' hD'' => ?_⟩
  ·rw [sb.2 b (fun h : b = S => hSf (by rw [← h]; exact hb))]; exact e
  ·refine hR s'' kas'' (Moved.trans W.gtrans ((hm.mono hsub).then_heap (Nat.le_add_right _ _) fun b o hb e => ?_) hm'') hS'' hD''
   rw [sb.2 b (fun h : b = S => hb (by rw [h]; exact List.mem_cons_self))]; exact e
theorem vV {Q₁ : Y9} (a : Value)
  (h : Q₁ (.ref s.heap.objs.size) { s with heap := s.heap.push { cls := .type "set", dict := none, data := .set #[] 0 (.fresh 0 0 (!(w.params.followText "set-order"))) } }) :
  codeAny (model prog w) A (.call (.builtin "set.__new__") ⟨[.type "set", a], []⟩) (wants Q₁ E) s := by
 refine codeAny_of_tree ?_
 show wpAny _ A.in1 (do checkBuiltinCall "set.__new__" ⟨[.type "set", a], []⟩; again (.builtin "set.__new__" ⟨[.type "set", a], []⟩)) _ _ s
 refine wpAny_bind (wpAny_of_eq (F.newCall_set_1 a) (wpAny_pure ⟨plainId_quiet F.plain_set_new _, codeAny_builtin F.entry_set_new ?_⟩))
 rw [Around.under_plainId F.plain_set_new _]
 unfold Builtin.«set.__new__» Builtin.Frozenset.newClass
 have hsub := sub_set_self
 obtain ⟨hp, g, d, tk, os⟩ := s
 dsimp only
 wp_walk
 refine wpAny_askSetting (wpAny_pure ?_)
 dsimp only
 simp only [newObj]
 refine wpAny_bind (wpAny_alloc (wpAny_pure ?_))
 exact wpAny_pure h
end
end ST
end
section
namespace ST
open PySem PySem.SetTable
section
variable {prog : Program} {w : World} {A : Around} {E : Y9} {s : Shared}
theorem aDo {h : Heap} {S : Addr} {o : Obj} (ho : h.get? S = some o) (he : o = { cls := .type "set", dict := none, data := .set #[] 0 (.fresh 0 0 (!(w.params.followText "set-order"))) }) : iZ prog w h S [] := by
 subst he
 refine ⟨_, #[], 0, _, ho, ⟨rfl, rfl, rfl⟩, rfl, ⟨⟨aAp, fun i k a b e => by simp [SetTable.fresh] at e, rfl, rfl, by simp, fun i e j e1 => by simp at e1⟩, rfl, fun p hp => by simp at hp, by simp⟩, rfl, rfl, .inl ⟨rfl, by simp⟩⟩
theorem call_setT {l : Addr} {items : Array Value} {key : Nat → Y0} {adr : Nat → Addr} {Q : Y9}
  (hh : A.handled = none) (hu : ∀ B : Around, B.units ≤ A.units + 100 → B.units < cLine) (hl : s.heap.IsList l items) (hi : ∀ (i : Nat) (v : Value), items[i]? = some v → v = Value.ref (adr i)) (hk : ∀ i, i < items.size → IsTupleKey (intKind prog w) s.heap (key i) (adr i)) (hb : items.size ≤ 18)
  (h : ∀ (h' : Heap) (tk : Nat) (kas : Y7), iZ prog w h' s.heap.objs.size kas → Ded key adr items.size kas →
   (∀ b o, b < s.heap.objs.size → s.heap.get? b = some o → h'.get? b = some o) → Q (.ref s.heap.objs.size) { s with heap := h', toks := tk }) :
  wpAny (model prog w) A (call (.type "set") [.ref l]) Q E s := by
 obtain ⟨c, tl, hmro⟩ := F.called_set.mro
 have hmade := F.called_set.made
 have hsub := F.called_set.sub
 refine wpAny_call (codeAny_of_tree ?_)
 show wpAny _ _ (callAny (.type "set") _) _ _ _
 refine wpAny_pure ⟨Code.quiet_builtin _ (by decide +kernel), codeAny_builtin F.entry_type_call ?_⟩
 rw [Around.under_plain (weight_type_call_type "set" [.ref l] []) rfl]
 have h1 := F.called_set.notType
 have h2 := F.called_set.canCreate
 have hct := F.typeCall_set_1 (.ref l)
 repeat (any_goals (first | assumption | wp_step))
 generalize hfr : (SetTable.fresh 0 0 (!(w.params.followText "set-order"))) = fr
 refine codeAny_mono (vV (.ref l) (E := E) (Q₁ := fun obj s₁ => obj = .ref s.heap.objs.size ∧ s₁ = { s with heap := s.heap.push { cls := .type "set", dict := none, data := .set #[] 0 fr } }) (by rw [hfr]; exact ⟨rfl, rfl⟩)) fun r s₁ hr => ?_
 cases r with
 | error e => exact hr
 | ok fl =>
  cases fl with
  | ret obj =>
   obtain ⟨rfl, rfl⟩ := hr
   have hS : (s.heap.push { cls := .type "set", dict := none, data := .set #[] 0 fr }).get? s.heap.objs.size = some { cls := .type "set", dict := none, data := .set #[] 0 fr } := Heap.get?_push_size _ rfl
   have hT : Shared.TypeIs { s with heap := s.heap.push { cls := .type "set", dict := none, data := .set #[] 0 fr } } (.ref s.heap.objs.size) "set" := ⟨_, hS, rfl⟩
   have hli := F.called_set.init.lookup
   have hbi := F.called_set.init.bind (.ref s.heap.objs.size)
   repeat (any_goals (first | assumption | wp_step))
   refine codeAny_mono (codeAny_call_builtin (R := wants (fun r s₂ => r = .none ∧ ∃ h' tk kas, s₂ = { s with heap := h', toks := tk } ∧ iZ prog w h' s.heap.objs.size kas ∧ Ded key adr items.size kas ∧
     (∀ b o, b < s.heap.objs.size → s.heap.get? b = some o → h'.get? b = some o)) E) F.called_set.init.plain F.entry_set_init (check_set_init_1 hT ?_)) fun r₂ s₂ hr₂ => ?_
   ·obtain ⟨ol, hol, hcl, nl, hdl⟩ := hl
    obtain ⟨ocls, odict, odata, oslots⟩ := ol
    simp only at hcl hdl
    subst hcl; subst hdl
    have hol' : (s.heap.push { cls := .type "set", dict := none, data := .set #[] 0 fr }).get? l = some { cls := .type "list", dict := odict, data := .seq items nl, slots := oslots } := Heap.get?_push_of_some _ hol
    have hsls := F.sub_list_set
    have hslf := F.sub_list_frozenset
    have hne : (Value.type "list" == Value.type "dict") = false := by decide
    have hl1 : (s.heap.push { cls := .type "set", dict := none, data := .set #[] 0 fr }).IsList l items := ⟨_, hol', rfl, nl, rfl⟩
    have hfits : fr.fits 0 = true := by rw [← hfr]; rfl
    have hfr' : fr = (SetTable.fresh 0 0 (!(w.params.followText "set-order"))) := hfr.symm
    unfold Builtin.«set.__init__» noKeywords Builtin.Frozenset.updateFrom
    generalize hPI : pyIter = PI
    subst hfr'
    wp_walk
    subst hPI
    refine wpAny_pyIter_list hl1 ?_
    refine wpAny_bind (wpAny_runValue ?_)
    have hlS : l < s.heap.objs.size := Heap.lt_size hol
    have hh3 : A.in1.in1.in1.handled = none := by simp [hh]
    have hneI : l ≠ (s.heap.push { cls := .type "set", dict := none, data := .set #[] 0 (.fresh 0 0 (!(w.params.followText "set-order"))) }).objs.size := by
     rw [Heap.size_push]; exact Nat.ne_of_lt (Nat.lt_succ_of_lt hlS)
    have hSf : s.heap.objs.size ∉ [(s.heap.push { cls := .type "set", dict := none, data := .set #[] 0 (.fresh 0 0 (!(w.params.followText "set-order"))) }).objs.size, l] := by
     rw [Heap.size_push]; simp only [List.mem_cons, List.mem_singleton, List.not_mem_nil, or_false, not_or]
     exact ⟨Nat.ne_of_lt (Nat.lt_succ_self _), Nat.ne_of_gt hlS⟩
    have adlt : ∀ i, i < items.size → adr i < s.heap.objs.size := fun i hi' => by
     obtain ⟨o, _, _, ho, _⟩ := hk i hi'
     exact Heap.lt_size ho
    refine aN8 ((Walks.list hh3 _ l hneI items).toS) s.heap.objs.size hSf (hu _ ?hU) key adr hi hb (fun i hi' z => ?_) (items.size - 0) 0 _ [] (by omega) (Nat.zero_le _)
     ⟨⟨_, Heap.get?_push_size _ rfl, rfl, rfl⟩, (hl1.push _)⟩ ?hS0 Ded.zero (fun i hi' => ?_) ?hR
    case hU => simp
    case hS0 =>
     exact aDo (Heap.get?_push_of_some _ hS) rfl
    case hR =>
     intro s' kas hm hS' hD'
     obtain ⟨h', g', d', tk', os'⟩ := s'
     have eg : g' = s.gens := hm.gens
     have ed : d' = s.drawn := hm.drawn
     have eo : os' = s.os := hm.os
     subst eg; subst ed; subst eo
     show wpAny _ _ _ _ _ _
     refine wpAny_pure ?_
     show wpAny _ _ (ret Value.none) _ _ _
     refine wpAny_pure ⟨rfl, h', tk', kas, rfl, hS', hD', fun b o hb e => ?_⟩
     have hb1 : b ≠ s.heap.objs.size := Nat.ne_of_lt hb
     have hb2 : b ≠ (s.heap.push { cls := .type "set", dict := none, data := .set #[] 0 (.fresh 0 0 (!(w.params.followText "set-order"))) }).objs.size := by
      rw [Heap.size_push]; exact Nat.ne_of_lt (Nat.lt_succ_of_lt hb)
     exact hm.heap b o (by simp only [List.mem_cons, List.mem_singleton, List.not_mem_nil, or_false, not_or]; exact ⟨hb1, hb2⟩) (Heap.get?_push_of_some _ (Heap.get?_push_of_some _ e))
    ·have := adlt i hi'
     rw [Heap.size_push] at z
     simp only [List.mem_cons, List.mem_singleton, List.not_mem_nil, or_false] at z
     rcases z with z | z
     ·exact Nat.ne_of_lt this z
     ·exact Nat.ne_of_lt (Nat.lt_succ_of_lt this) z
    ·exact iB (hk i hi') fun o e => Heap.get?_push_of_some _ (Heap.get?_push_of_some _ e)
   ·cases r₂ with
    | error e => exact hr₂
    | ok fl₂ =>
     cases fl₂ with
     | ret r =>
      obtain ⟨rfl, h', tk, kas, rfl, hS', hD', hk'⟩ := hr₂
      repeat (any_goals (first | assumption | wp_step))
      exact h _ _ _ hS' hD' hk'
     | _ => exact hr₂.elim
  | _ => exact hr.elim
end
end ST
end
section
namespace ST
open PySem PySem.SetTable
theorem jL {α : Type} {next : Nat → Nat} : ∀ (fuel k : Nat) (left : List α) (out : Array α), left.length = fuel → (pickOrder.go next fuel k left out).toList.Perm (out.toList ++ left)
 | 0, k, left, out, h => by
  have : left = [] := List.length_eq_zero_iff.mp h
  subst this
  show out.toList.Perm _
  rw [List.append_nil]
 | fuel + 1, k, left, out, h => by
  unfold pickOrder.go
  have hlt : next k % left.length < left.length := Nat.mod_lt _ (by omega)
  rw [List.getElem?_eq_getElem hlt]
  dsimp only
  refine (jL fuel (k + 1) (left.eraseIdx (next k % left.length)) _ (by rw [List.length_eraseIdx, if_pos hlt]; omega)).trans ?_
  rw [Array.toList_push, List.append_assoc]
  refine List.Perm.append_left _ ?_
  rw [List.eraseIdx_eq_take_drop_succ]
  have e2 : left = left.take (next k % left.length) ++ left[next k % left.length] :: left.drop (next k % left.length + 1) := by simp
  have := (List.perm_middle (l₁ := left.take (next k % left.length)) (a := left[next k % left.length]) (l₂ := left.drop (next k % left.length + 1))).symm
  rw [← e2] at this
  exact this
def bS (w : World) (S : Addr) (ep : Nat) (es : Y3) : Y3 := if w.params.followText "set-order" then pickOrder (w.params.setOrder S ep) es else es
theorem jF {w : World} {S : Addr} {ep : Nat} {es : Y3} : (bS w S ep es).toList.Perm es.toList := by
 unfold bS
 split
 ·have := jL (next := w.params.setOrder S ep) es.size 0 es.toList #[] (by simp)
  simpa [pickOrder] using this
 ·exact .refl _
theorem fQ {w : World} {S : Addr} {ep : Nat} {es : Y3} : (bS w S ep es).size = es.size := by
 have := (jF (w := w) (S := S) (ep := ep) (es := es)).length_eq
 simpa using this
theorem mQ {xs : Array Nat} (hr : oK xs) {i j : Nat} (e : xs[i]? = some j) : below xs (j + 1) = i + 1 := by
 obtain ⟨h1, h2, h3⟩ := eQ hr (j + 1)
 rcases Nat.lt_trichotomy (below xs (j + 1)) (i + 1) with q | q | q
 ·have := h3 i j e (by omega); omega
 ·exact q
 ·have hs : i + 1 < xs.size := by omega
  have e2 := h2 (i + 1) _ (Array.getElem?_eq_getElem hs) q
  have e3 := hr _ _ _ _ e (Array.getElem?_eq_getElem hs) (by omega)
  omega
theorem mH {xs : Array Nat} (hr : oK xs) : below xs 0 = 0 := by
 obtain ⟨h1, h2, h3⟩ := eQ hr 0
 rcases Nat.eq_zero_or_pos (below xs 0) with q | q
 ·exact q
 ·have hs : 0 < xs.size := by omega
  have := h2 0 _ (Array.getElem?_eq_getElem hs) q
  omega
section
variable {prog : Program} {w : World} {A : Around} {E : Y9} {s : Shared}
theorem nD {S : Addr} {o : Obj} {es : Y3} {ep i slot : Nat} {t : SetTable} {kas : Y7} {Q : Option (Value × Nat) → Shared → Prop}
  (ho : s.heap.get? S = some o) (hd : o.data = .set es ep t) (T : TS (intKind prog w) s.heap es t kas) (hpl : t.plain = true) (hled : t.led = !(w.params.followText "set-order")) (hsl : w.params.followText "set-order" = false → below t.place slot = i)
  (hQ : match (bS w S ep es)[i]? with | some e => ∀ slot', (w.params.followText "set-order" = false → below t.place slot' = i + 1) → Q (some (e.2, slot')) s | none => Q none s) :
  wpAny (model prog w) A (setNext S slot i ep) Q E s := by
 unfold setNext
 refine wpAny_bind (wpAny_setState_of ho hd T.fits ?_)
 dsimp only
 unfold setsByText
 refine wpAny_bind (wpAny_bind (wpAny_askSetting (wpAny_pure ?_)))
 dsimp only
 cases hb : w.params.followText "set-order" with
 | true =>
  show wpAny _ _ (if w.params.followText "set-order" = true then _ else _) _ _ _
  rw [if_pos hb, if_neg (by simp)]
  refine wpAny_bind ?_
  unfold setWalk
  refine wpAny_bind (wpAny_setState_of ho hd T.fits ?_)
  dsimp only
  unfold setsByText
  refine wpAny_bind (wpAny_bind (wpAny_askSetting (wpAny_pure ?_)))
  show wpAny _ _ (if w.params.followText "set-order" = true then _ else _) _ _ _
  rw [if_pos hb]
  refine wpAny_bind (wpAny_askSetting (wpAny_pure ?_))
  refine wpAny_pure ?_
  have ew : bS w S ep es = pickOrder (w.params.setOrder S ep) es := by unfold bS; rw [if_pos hb]
  rw [ew] at hQ
  show Q (((pickOrder (w.params.setOrder S ep) es)[i]?).map fun e => (e.2, slot)) s
  cases hg : (pickOrder (w.params.setOrder S ep) es)[i]? with
  | none => rw [hg] at hQ; exact hQ
  | some e => rw [hg] at hQ; exact hQ slot fun z => by rw [hb] at z; cases z
 | false =>
  show wpAny _ _ (if w.params.followText "set-order" = true then _ else _) _ _ _
  have ew : bS w S ep es = es := by unfold bS; rw [if_neg (by rw [hb]; simp)]
  rw [ew] at hQ
  rw [if_neg (by rw [hb]; simp)]
  have hl : t.led = true := by rw [hled, hb]; rfl
  have hdr : (!t.plain && decide (es.size > 1)) = false := by rw [hpl]; rfl
  show wpAny _ _ (if (!t.plain && decide (es.size > 1)) = true then _ else _) _ _ _
  rw [if_neg (by rw [hdr]; simp)]
  refine wpAny_bind ?_
  show wpAny _ _ (if (!t.led && !es.isEmpty) = true then _ else _) _ _ _
  rw [if_neg (by rw [hl]; simp)]
  refine wpAny_pure (wpAny_pure ?_)
  rw [hsl hb]
  cases hg : es[i]? with
  | none =>
   rw [hg] at hQ
   exact hQ
  | some e =>
   rw [hg] at hQ
   have hlt : i < t.place.size := by rw [T.ok.size]; exact (Array.getElem?_eq_some_iff.mp hg).1
   rw [Array.getElem?_eq_getElem hlt]
   exact hQ _ fun _ => mQ T.ok.rise (Array.getElem?_eq_getElem hlt)
end
end ST
end
section
namespace ST
open PySem PySem.SetTable
namespace F
theorem slot_next : Slot "set_iterator" "__next__" "set_iterator.__next__" :=
 .of (owner := "set_iterator") (n := "__next__") (by rw [typeLookup_type, builtinLookup_eq_fast]; kernel_rfl) (by decide +kernel) (by decide +kernel) (by decide +kernel)
  (by first | exact .inl (by decide +kernel) | exact .inr (by decide +kernel)) (by rw [isSubtype_type]; kernel_rfl)
theorem entry_next : entryFor table "set_iterator.__next__" = some Builtin.«set_iterator.__next__» := entryFor_of_fast (by kernel_rfl)
theorem args_next (a : Value) : argsOk "set_iterator.__next__" ⟨[a], []⟩ := by unfold argsOk; kernel_rfl
theorem slot_iter : Slot "set_iterator" "__iter__" "set_iterator.__iter__" :=
 .of (owner := "set_iterator") (n := "__iter__") (by rw [typeLookup_type, builtinLookup_eq_fast]; kernel_rfl) (by decide +kernel) (by decide +kernel) (by decide +kernel)
  (by first | exact .inl (by decide +kernel) | exact .inr (by decide +kernel)) (by rw [isSubtype_type]; kernel_rfl)
theorem args_iter (a : Value) : argsOk "set_iterator.__iter__" ⟨[a], []⟩ := by unfold argsOk; kernel_rfl
theorem entry_iter : entryFor table "set_iterator.__iter__" = some Builtin.«dict_keyiterator.__iter__» :=
 entryFor_alias (id' := "dict_keyiterator.__iter__") (by kernel_rfl) (by first | rfl | decide +kernel) (by decide +kernel) (by kernel_rfl)
theorem entry_set_iter : entryFor table "set.__iter__" = some Builtin.«frozenset.__iter__» :=
 entryFor_alias (id' := "frozenset.__iter__") (by kernel_rfl) (by first | rfl | decide +kernel) (by decide +kernel) (by kernel_rfl)
end F
section
variable {prog : Program} {w : World} {A : Around} {E : Y9} {s : Shared}
def gK (slot i : Nat) (S : Addr) (n ep : Nat) : Obj := { cls := .type "set_iterator", dict := none, data := .fields #[.int slot 0, .int i 0, .ref S, .int n 0, .int ep 0], slots := #[] }
def StS (I S : Addr) (o : Obj) (es : Y3) (ep : Nat) (t : SetTable) (prog : Program) (w : World) (kas : Y7) (i : Nat) (s : Shared) : Prop :=
 ∃ slot, s.heap.get? I = some (gK slot i S es.size ep) ∧ (w.params.followText "set-order" = false → below t.place slot = i) ∧ s.heap.get? S = some o ∧ TS (intKind prog w) s.heap es t kas
theorem StS.ty {I S : Addr} {o : Obj} {es : Y3} {ep : Nat} {t : SetTable} {kas : Y7} {i : Nat} (h : StS I S o es ep t prog w kas i s) : s.TypeIs (.ref I) "set_iterator" := by
 obtain ⟨slot, h1, _⟩ := h
 exact ⟨_, h1, rfl⟩
theorem uH {I S : Addr} {o : Obj} {es : Y3} {ep : Nat} {t : SetTable} {kas : Y7} {i : Nat} {Q : Option Value → Shared → Prop} (hd : o.data = .set es ep t) (hpl : t.plain = true) (hled : t.led = !(w.params.followText "set-order")) (hIS : I ≠ S) (hka : ∀ p ∈ kas, p.2 ≠ I)
  (hst : StS I S o es ep t prog w kas i s) (hi : i < es.size)
  (hQ : ∀ v h', (bS w S ep es)[i]?.map (·.2) = some v → StS I S o es ep t prog w kas (i + 1) { s with heap := h' } → Heap.SameBut I s.heap h' → Q (some v) { s with heap := h' }) : wpAny (model prog w) A (pyNext (.ref I)) Q E s := by
 have hT := hst.ty
 obtain ⟨slot, h1, h2, h3, T⟩ := hst
 have hlt : i < (bS w S ep es).size := by rw [fQ]; exact hi
 have eg := Array.getElem?_eq_getElem hlt
 unfold pyNext
 refine wpAny_bind (wpAny_attempt (wpAny_callSpecial?_slot (name := Str.ofString "__next__") hT F.slot_next
  (wpAny_call_entry F.slot_next hT F.entry_next ?_ (F.args_next _))))
 show wpAny _ _ (fieldsOf (.ref I) >>= _) _ _ s
 refine wpAny_bind (wpAny_fieldsOf h1 rfl ?_)
 show wpAny _ _ (setEntries S >>= _) _ _ s
 refine wpAny_bind (wpAny_setEntries_of h3 hd T.fits ?_)
 show wpAny _ _ (if ((es.size : Int) != (es.size : Int)) = true then _ else _) _ _ s
 rw [if_neg (by simp)]
 show wpAny _ _ (setNext S (slot : Int).toNat (i : Int).toNat (ep : Int).toNat >>= _) _ _ s
 rw [Int.toNat_natCast, Int.toNat_natCast, Int.toNat_natCast]
 refine wpAny_bind (nD h3 hd T hpl hled h2 ?_)
 rw [eg]
 dsimp only
 intro slot' hs'
 refine wpAny_bind (wpAny_setField_rec h1 (by simp) fun h' e1 sb1 => ?_)
 refine wpAny_bind (wpAny_setField_rec (s := { s with heap := h' }) e1 (by simp) fun h'' e2 sb2 => ?_)
 refine wpAny_pure ⟨_, rfl, ?_⟩
 refine wpAny_pure (hQ _ h'' (by rw [eg]; rfl) ⟨slot', ?_, hs', ?_, T.heap fun p hp => ?_⟩ (sb1.trans sb2))
 ·exact e2
 ·have : h''.get? S = some o := by rw [sb2.2 S (Ne.symm hIS), sb1.2 S (Ne.symm hIS)]; exact h3
  exact this
 ·exact iB (T.keys p hp) fun o' e' => by
   show h''.get? p.2 = some o'
   rw [sb2.2 _ (hka p hp), sb1.2 _ (hka p hp)]; exact e'
theorem zT {I S : Addr} {o : Obj} {es : Y3} {ep : Nat} {t : SetTable} {kas : Y7} {Q : Option Value → Shared → Prop} (hh : A.handled = none) (hd : o.data = .set es ep t) (hpl : t.plain = true) (hled : t.led = !(w.params.followText "set-order"))
  (hst : StS I S o es ep t prog w kas es.size s) (hQ : ∀ h', Heap.ExtBut I s.heap h' → Q none { s with heap := h' }) : wpAny (model prog w) A (pyNext (.ref I)) Q E s := by
 have hT := hst.ty
 obtain ⟨slot, h1, h2, h3, T⟩ := hst
 have eg : (bS w S ep es)[es.size]? = none := by rw [Array.getElem?_eq_none]; rw [fQ]; exact Nat.le_refl _
 unfold pyNext
 refine wpAny_bind (wpAny_attempt (wpAny_callSpecial?_slot (name := Str.ofString "__next__") hT F.slot_next
  (wpAny_call_entry F.slot_next hT F.entry_next ?_ (F.args_next _))))
 show wpAny _ _ (fieldsOf (.ref I) >>= _) _ _ s
 refine wpAny_bind (wpAny_fieldsOf h1 rfl ?_)
 show wpAny _ _ (setEntries S >>= _) _ _ s
 refine wpAny_bind (wpAny_setEntries_of h3 hd T.fits ?_)
 show wpAny _ _ (if ((es.size : Int) != (es.size : Int)) = true then _ else _) _ _ s
 rw [if_neg (by simp)]
 show wpAny _ _ (setNext S (slot : Int).toNat ((es.size : Nat) : Int).toNat (ep : Int).toNat >>= _) _ _ s
 rw [Int.toNat_natCast, Int.toNat_natCast, Int.toNat_natCast]
 refine wpAny_bind (nD h3 hd T hpl hled h2 ?_)
 rw [eg]
 dsimp only
 refine wpAny_bind (wpAny_setField_rec h1 (by simp) fun h' e1 sb1 => ?_)
 show wpAny _ _ (newExc (.type "StopIteration") [] >>= _) _ _ _
 refine wpAny_bind ?_
 simp only [newExc, newTuple]
 refine wpAny_bind (wpAny_newObj_type ?_ (by size_fits))
 refine wpAny_bind (m := firstArgMember _ _) (wpAny_of_eq (a := Value.none) (by first | rfl | (simp only [firstArgMember]; rfl)) ?_)
 refine wpAny_newObj_type ?_ (by size_fits)
 simp only [raiseNew]
 refine wpAny_bind (wpAny_handled ?_)
 rw [show A.in1.handled = none from hh]
 refine wpAny_bind (wpAny_pure (wpAny_throw ?_))
 refine wpAny_bind (wpAny_isInstance (T := "StopIteration") (b := true) ⟨_, Heap.get?_push_size _ rfl, rfl⟩ isSubtype_stop ?_)
 exact wpAny_pure (hQ _ ((sb1.extBut.push _).push _))
end
end ST
end
section
namespace ST
open PySem PySem.SetTable
section
variable {prog : Program} {w : World} {A : Around} {E : Y9} {s : Shared}
def StH (I S : Addr) (o : Obj) (es : Y3) (ep : Nat) (t : SetTable) (prog : Program) (w : World) (kas : Y7) (i : Nat) (h : Heap) : Prop :=
 ∃ slot, h.get? I = some (gK slot i S es.size ep) ∧ (w.params.followText "set-order" = false → below t.place slot = i) ∧ h.get? S = some o ∧ TS (intKind prog w) h es t kas
theorem yT {I S : Addr} {o : Obj} {es : Y3} {ep : Nat} {t : SetTable} {kas : Y7} (hh : A.handled = none) (hd : o.data = .set es ep t) (hpl : t.plain = true) (hled : t.led = !(w.params.followText "set-order")) (hIS : I ≠ S) (hka : ∀ p ∈ kas, p.2 ≠ I) :
  Walks prog w A I (I :: S :: kas.map (·.2)) [I] es.size (fun i v => (bS w S ep es)[i]?.map (·.2) = some v) (fun i h => StH I S o es ep t prog w kas i h) where
 sub := fun b hb => by simp at hb; simp [hb]
 frame := fun i h h' st hk => by
  obtain ⟨slot, h1, h2, h3, T⟩ := st
  exact ⟨slot, hk I (by simp) _ h1, h2, hk S (by simp) _ h3, T.heap fun p hp => iB (T.keys p hp) fun o' e => hk p.2 (by simp; exact .inr (.inr ⟨p.1, hp⟩)) o' e⟩
 item := fun i s Q E hi st hQ => by
  refine uH (i := i) hd hpl hled hIS hka st hi fun v h' hv st' sb => ?_
  exact hQ v h' s.toks hv st' fun b o' hb e => by rw [sb.2 b (fun z => hb (by simp [z]))]; exact e
 done := fun s Q E st hQ => zT hh hd hpl hled st fun h' he => hQ h' s.toks fun b o' hb e => he b o' (fun z => hb (by simp [z])) e
 self := fun i s Q E st hQ => by
  have hT : s.TypeIs (.ref I) "set_iterator" := by obtain ⟨slot, h1, _⟩ := st; exact ⟨_, h1, rfl⟩
  refine wpAny_pyIter_slot hT F.slot_iter (wpAny_call_entry F.slot_iter hT F.entry_iter ?_ (F.args_iter _))
  show wpAny _ _ (ret (.ref I)) _ _ s
  exact wpAny_pure ⟨_, rfl, "set_iterator", _, hT, F.slot_next.lookup, hQ⟩
theorem mT {P : Nat → Value → Prop} {acc : Array Value} {ws : Y3} (h : ItemsOf P acc ws.size) (hP : ∀ i v, P i v → ws[i]?.map (·.2) = some v) : acc.toList = ws.toList.map (·.2) := by
 refine List.ext_getElem? fun i => ?_
 rw [List.getElem?_map, Array.getElem?_toList, Array.getElem?_toList]
 by_cases hi : i < acc.size
 ·have e := Array.getElem?_eq_getElem hi
  rw [e]
  exact (hP i _ (h.2 i _ e)).symm
 ·have hw : ¬ i < ws.size := by rw [← h.1]; exact hi
  rw [Array.getElem?_eq_none (by omega), Array.getElem?_eq_none (by omega)]; rfl
theorem xA {S : Addr} {kas : Y7} {Q : Y1 → Shared → Prop} (hh : A.handled = none) (hS : iZ prog w s.heap S kas)
  (hQ : ∀ (kas' : Y7) (s' : Shared), kas'.Perm kas → Moved [] (fun a b => b = a) s s' → s.heap.objs.size ≤ s'.heap.objs.size → Q (kas'.map fun p => Value.ref p.2) s') : wpAny (model prog w) A (collect (.ref S)) Q E s := by
 obtain ⟨o, es, ep, t, ho, hex, hd, T, hpl, hled, hsz⟩ := hS
 have hT : s.TypeIs (.ref S) "set" := ⟨o, ho, hex.1⟩
 have hSlt : S < s.heap.objs.size := Heap.lt_size ho
 unfold collect
 refine wpAny_bind (wpAny_runValue (codeAny_builtin PySem.F.entry_proto_collect ?_))
 rw [Around.under_plainId PySem.F.plain_proto_collect _]
 show wpAny _ A.in1 (newList [] >>= fun l => again (.builtin "list.__iadd__" ⟨[l, .ref S], []⟩)) _ _ s
 refine wpAny_bind (wpAny_newObj_type ?_)
 refine wpAny_pure ⟨plainId_quiet PySem.F.plain_list_iadd _, codeAny_builtin PySem.F.entry_list_iadd ?_⟩
 rw [Around.under_plainId PySem.F.plain_list_iadd _]
 generalize hh1 : s.heap.push { cls := .type "list", data := .seq ([] : Y1).toArray } = h1
 have e1 : ∀ b o, s.heap.get? b = some o → h1.get? b = some o := fun b o e => by rw [← hh1]; exact Heap.get?_push_of_some _ e
 have hL : h1.get? s.heap.objs.size = some { cls := .type "list", data := .seq ([] : Y1).toArray } := by rw [← hh1]; exact Heap.get?_push_size _ rfl
 have sz1 : h1.objs.size = s.heap.objs.size + 1 := by rw [← hh1, Heap.size_push]
 have hne : s.heap.objs.size ≠ S := Ne.symm (Nat.ne_of_lt hSlt)
 have hT1 : Shared.TypeIs { s with heap := h1 } (.ref S) "set" := ⟨o, e1 _ _ ho, hex.1⟩
 have T1 : TS (intKind prog w) h1 es t kas := T.heap fun p hp => iB (T.keys p hp) fun o e => e1 _ _ e
 show wpAny _ A.in1 (Builtin.List.listExtendWith (.ref s.heap.objs.size) (.ref S) (.ref s.heap.objs.size)) _ _ _
 unfold Builtin.List.listExtendWith
 refine wpAny_bind (wpAny_typeOf hT1 ?_)
 have hsr : Builtin.List.listSameRef (.ref s.heap.objs.size) (.ref S) = false := by simp [Builtin.List.listSameRef, hne]
 rw [if_neg (by rw [hsr]; decide)]
 refine wpAny_bind (wpAny_pyIter_slot hT1 PySem.F.slot_set_iter (wpAny_call_entry PySem.F.slot_set_iter hT1 F.entry_set_iter ?_ (PySem.F.args_set_iter_1 _)))
 show wpAny _ _ (Builtin.Frozenset.sizeOf S >>= _) _ _ _
 unfold Builtin.Frozenset.sizeOf
 refine wpAny_bind (wpAny_bind (wpAny_setEntries_of (s := { s with heap := h1 }) (e1 _ _ ho) hd T.fits (wpAny_pure ?_)))
 unfold setDrawn
 refine wpAny_bind (wpAny_bind (wpAny_setState_of (s := { s with heap := h1 }) (e1 _ _ ho) hd T.fits ?_))
 dsimp only
 unfold setsByText
 refine wpAny_bind (wpAny_bind (wpAny_askSetting (wpAny_pure ?_)))
 refine wpAny_pure ?_
 show wpAny _ _ (if (!(w.params.followText "set-order") && (!t.plain && decide (es.size > 1))) = true then _ else _) _ _ _
 rw [hpl, if_neg (by simp)]
 refine wpAny_bind (wpAny_pure ?_)
 refine wpAny_bind (wpAny_setEpoch_of (s := { s with heap := h1 }) (e1 _ _ ho) hd T.fits ?_)
 refine wpAny_bind (wpAny_newObj_type ?_)
 refine wpAny_pure ⟨_, rfl, "set_iterator", _, ⟨_, Heap.get?_push_size _ rfl, rfl⟩, F.slot_next.lookup, ?_⟩
 generalize hh2 : h1.push _ = h2
 have eI : h2.get? h1.objs.size = some (gK 0 0 S es.size ep) := by rw [← hh2]; exact Heap.get?_push_size _ rfl
 have e2 : ∀ b o, h1.get? b = some o → h2.get? b = some o := fun b o e => by rw [← hh2]; exact Heap.get?_push_of_some _ e
 have T2 : TS (intKind prog w) h2 es t kas := T1.heap fun p hp => iB (T1.keys p hp) fun o e => e2 _ _ e
 have hT2 : Shared.TypeIs { s with heap := h2 } (.ref S) "set" := ⟨o, e2 _ _ (e1 _ _ ho), hex.1⟩
 refine wpAny_bind (wpAny_holding ?_)
 unfold Builtin.List.listLengthHint
 refine wpAny_bind (wpAny_specialOf hT2 PySem.F.slot_set_len.lookup ?_)
 generalize hid : ("set.__len__" : String) = id0
 wp_delta
 rw [show splitId id0 = some ("set", "__len__") from by subst hid; decide +kernel]
 subst hid
 refine wpAny_bind (wpAny_isInstance (b := true) hT2 (by rw [isSubtype_type]; kernel_rfl) ?_)
 show wpAny _ _ (typeOf (.ref S) >>= _) _ _ _
 refine wpAny_bind (wpAny_typeOf hT2 ?_)
 refine wpAny_pure ?_
 rw [if_pos (by rfl)]
 have hL2 : h2.get? s.heap.objs.size = some { cls := .type "list", dict := none, data := .seq #[] 0, slots := #[] } := e2 _ _ hL
 refine wpAny_bind (wpAny_rule (wpAny_bind ?_))
 unfold Builtin.List.listTouch
 refine wpAny_bind (PyProof.Rows.listUpdate_at (s := { s with heap := h2 }) hL2 rfl ?_)
 have hL3 : (h2.update s.heap.objs.size (Obj.mapSeq (·.push Value.none))).get? s.heap.objs.size = some { cls := .type "list", dict := none, data := .seq #[Value.none] 1, slots := #[] } := Heap.get?_update_self _ hL2 rfl
 refine PyProof.Rows.listUpdate_at (s := { s with heap := h2.update s.heap.objs.size (Obj.mapSeq (·.push Value.none)) }) hL3 rfl ?_
 have hL4 : ((h2.update s.heap.objs.size (Obj.mapSeq (·.push Value.none))).update s.heap.objs.size (Obj.mapSeq (·.pop))).get? s.heap.objs.size = some { cls := .type "list", dict := none, data := .seq #[] 2, slots := #[] } := Heap.get?_update_self _ hL3 rfl
 have e4 : ∀ b, b ≠ s.heap.objs.size → ((h2.update s.heap.objs.size (Obj.mapSeq (·.push Value.none))).update s.heap.objs.size (Obj.mapSeq (·.pop))).get? b = h2.get? b := fun b hb => by
  rw [Heap.get?_update_other _ _ (Ne.symm hb), Heap.get?_update_other _ _ (Ne.symm hb)]
 generalize ((h2.update s.heap.objs.size (Obj.mapSeq (·.push Value.none))).update s.heap.objs.size (Obj.mapSeq (·.pop))) = h4 at hL4 e4
 have klt : ∀ p ∈ kas, p.2 < s.heap.objs.size := fun p hp => by
  obtain ⟨o', _, _, ho', _⟩ := T.keys p hp
  exact Heap.lt_size ho'
 have hI4 : h4.get? h1.objs.size = some (gK 0 0 S es.size ep) := by
  rw [e4 _ (by rw [sz1]; exact Nat.succ_ne_self _)]; exact eI
 have hS4 : h4.get? S = some o := by rw [e4 _ (Ne.symm hne)]; exact e2 _ _ (e1 _ _ ho)
 have T4 : TS (intKind prog w) h4 es t kas := T2.heap fun p hp => iB (T2.keys p hp) fun o' e => by
  rw [e4 _ (Nat.ne_of_lt (klt p hp))]; exact e
 have hIS : h1.objs.size ≠ S := by rw [sz1]; exact Ne.symm (Nat.ne_of_lt (Nat.lt_succ_of_lt hSlt))
 have hkI : ∀ p ∈ kas, p.2 ≠ h1.objs.size := fun p hp => by rw [sz1]; exact Nat.ne_of_lt (Nat.lt_succ_of_lt (klt p hp))
 have W := yT (prog := prog) (w := w) (A := A.in1) (I := h1.objs.size) (S := S) (o := o) (es := es) (ep := ep) (t := t) (kas := kas) (by simpa using hh) hd hpl hled hIS hkI
 have hLf : s.heap.objs.size ∉ h1.objs.size :: S :: kas.map (·.2) := fun z => by
  rcases List.mem_cons.mp z with z | z
  ·rw [sz1] at z; exact Nat.succ_ne_self _ z.symm
  ·rcases List.mem_cons.mp z with z | z
   ·exact hne z
   ·obtain ⟨p, hp, e⟩ := List.mem_map.mp z
    exact Nat.ne_of_lt (klt p hp) e
 have hn : es.size ≤ sizeLine := by
  rw [sizeLine_eq, T.len]
  rcases hsz with ⟨_, h⟩ | ⟨_, h⟩ <;> omega
 refine wpAny_pure ⟨plainId_quiet PySem.F.plain_extend_loop _, codeAny_extend_loopS W.toS hn _ hLf _ es.size 0 _ _ _ rfl (Nat.zero_le _) ⟨0, hI4, fun _ => mH T.ok.rise, hS4, T4⟩ hL4 (ItemsOf.nil _) fun s' acc' c' hm hS' hacc => ?_⟩
 show wpAny _ A (load s.heap.objs.size >>= _) _ _ s'
 refine wpAny_bind (wpAny_load hS' ?_)
 refine wpAny_pure ?_
 have eacc := mT (ws := bS w S ep es) (by rw [fQ]; exact hacc) (fun i v h => h)
 show Q acc'.toList s'
 have pm : (bS w S ep es).toList.Perm (kas.map fun p => (tupleKeyHash (intKind prog w) p.1, Value.ref p.2)) := by
  have := jF (w := w) (S := S) (ep := ep) (es := es)
  rw [T.ents] at this; exact this
 obtain ⟨kas', ek, pk⟩ := tT pm
 rw [eacc, ek, List.map_map]
 refine hQ kas' s' pk ⟨fun b o' _ e => ?_, hm.gens, hm.drawn, hm.os, hm.toks⟩ (Nat.le_of_lt (Heap.lt_size hS'))
 have hb1 : b ≠ s.heap.objs.size := Nat.ne_of_lt (Heap.lt_size e)
 have hb2 : b ≠ h1.objs.size := by rw [sz1]; exact Nat.ne_of_lt (Nat.lt_succ_of_lt (Heap.lt_size e))
 refine hm.heap b o' (fun z => ?_) (by show h4.get? b = some o'; rw [e4 b hb1]; exact e2 _ _ (e1 _ _ e))
 rcases List.mem_cons.mp z with z | z
 ·exact hb1 z
 ·exact hb2 (List.mem_singleton.mp z)
end
end ST
end
section
namespace ST
open PySem PySem.W PyProof.Rows
section
variable {n : Nat} {lt : Nat → Nat → Bool} {cmp : Nat → Nat → (Bool → Shared → Prop) → Shared → Prop} {s : Shared}
structure Ord (n : Nat) (lt : Nat → Nat → Bool) : Prop where
 irr : ∀ i, lt i i = false
 tr : ∀ i j k, lt i j = true → lt j k = true → lt i k = true
 tot : ∀ i j, i < n → j < n → i ≠ j → lt i j = true ∨ lt j i = true
structure Arr (n : Nat) (p : Array Nat) : Prop where
 size : p.size = n
 lt : ∀ i, i < n → p.getD i 0 < n
 inj : ∀ i j, i < n → j < n → p.getD i 0 = p.getD j 0 → i = j
def Up (lt : Nat → Nat → Bool) (p : Array Nat) (k : Nat) : Prop := ∀ i j, i < j → j < k → lt (p.getD i 0) (p.getD j 0) = true
def Down (lt : Nat → Nat → Bool) (p : Array Nat) (k : Nat) : Prop := ∀ i j, i < j → j < k → lt (p.getD j 0) (p.getD i 0) = true
theorem aHz (o : Ord n lt) {p : Array Nat} {k : Nat} (hk : 1 ≤ k) (h : Up lt p k) (h1 : lt (p.getD (k - 1) 0) (p.getD k 0) = true) : Up lt p (k + 1) := fun i j hij hj => by
 by_cases q : j = k
 ·subst q
  by_cases q2 : i = j - 1
  ·subst q2; exact h1
  ·exact o.tr _ _ _ (h i (j - 1) (by omega) (by omega)) h1
 ·exact h i j hij (by omega)
theorem aB4 (o : Ord n lt) {p : Array Nat} {k : Nat} (hk : 1 ≤ k) (h : Down lt p k) (h1 : lt (p.getD k 0) (p.getD (k - 1) 0) = true) : Down lt p (k + 1) := fun i j hij hj => by
 by_cases q : j = k
 ·subst q
  by_cases q2 : i = j - 1
  ·subst q2; exact h1
  ·exact o.tr _ _ _ h1 (h i (j - 1) (by omega) (by omega))
 ·exact h i j hij (by omega)
variable (o : Ord n lt) (hc : ∀ i j, i < n → j < n → ∀ C : Bool → Shared → Prop, C (lt i j) s → cmp i j C s)
include o hc
theorem aAd {p : Array Nat} (a : Arr n p) : ∀ (f m : Nat) {Q : Nat → Shared → Prop}, m + f = n → 1 ≤ m → Up lt p m → (∀ m', m ≤ m' → m' ≤ n → Up lt p m' → (m' < n → lt (p.getD m' 0) (p.getD (m' - 1) 0) = true) → Q m' s) → (kas_asc p f m).kasWp cmp Q s
 | 0, m, Q, e, h1, hu, hq => hq m (Nat.le_refl _) (by omega) hu fun z => by omega
 | f + 1, m, Q, e, h1, hu, hq => by
  refine hc _ _ (a.lt m (by omega)) (a.lt (m - 1) (by omega)) _ ?_
  cases ec : lt (p.getD m 0) (p.getD (m - 1) 0) with
  | true =>
   dsimp only; rw [if_pos rfl]
   exact hq m (Nat.le_refl _) (by omega) hu fun _ => ec
  | false =>
   dsimp only; rw [if_neg (by simp)]
   have h2 : lt (p.getD (m - 1) 0) (p.getD m 0) = true := by
    rcases o.tot _ _ (a.lt (m - 1) (by omega)) (a.lt m (by omega)) (fun z => by have := a.inj _ _ (by omega) (by omega) z; omega) with q | q
    ·exact q
    ·rw [ec] at q; cases q
   exact aAd a f (m + 1) (by omega) (by omega) (aHz o h1 hu h2) fun m' g1 g2 g3 g4 => hq m' (by omega) g2 g3 g4
theorem aAz {p : Array Nat} (a : Arr n p) : ∀ (f k : Nat) {Q : Array Nat × Nat × Nat → Shared → Prop}, k + f = n → 2 ≤ k → Down lt p k → (∀ k', k ≤ k' → k' ≤ n → Down lt p k' → Q (p, k', 0) s) → (kas_desc f p k 0).kasWp cmp Q s
 | 0, k, Q, e, h1, hd, hq => hq k (Nat.le_refl _) (by omega) hd
 | f + 1, k, Q, e, h1, hd, hq => by
  refine hc _ _ (a.lt k (by omega)) (a.lt (k - 1) (by omega)) _ ?_
  cases ec : lt (p.getD k 0) (p.getD (k - 1) 0) with
  | true =>
   dsimp only; rw [if_pos rfl, if_neg (by omega)]
   exact aAz a f (k + 1) (by omega) (by omega) (aB4 o (by omega) hd ec) fun k' g1 g2 g3 => hq k' (by omega) g2 g3
  | false =>
   dsimp only; rw [if_neg (by simp)]
   refine hc _ _ (a.lt (k - 1) (by omega)) (a.lt k (by omega)) _ ?_
   have h2 : lt (p.getD (k - 1) 0) (p.getD k 0) = true := by
    rcases o.tot _ _ (a.lt (k - 1) (by omega)) (a.lt k (by omega)) (fun z => by have := a.inj _ _ (by omega) (by omega) z; omega) with q | q
    ·exact q
    ·rw [ec] at q; cases q
   rw [h2]; dsimp only; rw [if_pos rfl]
   exact hq k (Nat.le_refl _) (by omega) hd
end
theorem getD_eq {p : Array Nat} {i : Nat} : p.getD i 0 = (p[i]?).getD 0 := by
 by_cases h : i < p.size
 ·simp [Array.getD, h]
 ·simp [Array.getD, h, Array.getElem?_eq_none (Nat.le_of_not_lt h)]
theorem rev_getD {n : Nat} {p : Array Nat} (hs : p.size = n) {k : Nat} (hk : k ≤ n) (i : Nat) : (kas_rev p 0 k).getD i 0 = if i < k then p.getD (k - 1 - i) 0 else p.getD i 0 := by
 rw [getD_eq]
 unfold kas_rev
 rw [getElem?_mirror (by omega) _ (by omega)]
 by_cases h1 : i < k
 ·rw [if_pos h1]
  by_cases h2 : (0 ≤ i ∧ i < 0 + (k - 0) / 2) ∨ (k - (k - 0) / 2 ≤ i ∧ i < k)
  ·rw [if_pos h2, getD_eq, show 0 + k - 1 - i = k - 1 - i by omega]
  ·rw [if_neg h2, getD_eq]
   have : i = k - 1 - i := by omega
   rw [← this]
 ·rw [if_neg h1, if_neg (by omega), getD_eq]
theorem aBd {n : Nat} {p : Array Nat} (a : Arr n p) {k : Nat} (hk : k ≤ n) : Arr n (kas_rev p 0 k) := by
 refine ⟨by rw [kas_rev_size]; exact a.size, fun i hi => ?_, fun i j hi hj e => ?_⟩
 ·rw [rev_getD a.size hk]; split <;> exact a.lt _ (by omega)
 ·rw [rev_getD a.size hk, rev_getD a.size hk] at e
  split at e
  ·split at e
   ·have := a.inj _ _ (by omega) (by omega) e; omega
   ·have := a.inj _ _ (by omega) (by omega) e; omega
  ·split at e
   ·have := a.inj _ _ (by omega) (by omega) e; omega
   ·exact a.inj _ _ (by omega) (by omega) e
theorem kQ {n : Nat} {p : Array Nat} (hs : p.size = n) {k l : Nat} (hk : k < n) (hl : l ≤ k) (i : Nat) : (bubble p k (k - l)).getD i 0 = if i = l then p.getD k 0 else if l < i ∧ i ≤ k then p.getD (i - 1) 0 else p.getD i 0 := by
 rw [getD_eq, getElem?_bubble (by omega) _ (by omega), show k - (k - l) = l by omega]
 split
 ·rw [getD_eq]
 ·split
  ·rw [getD_eq]
  ·rw [getD_eq]
theorem aHe {n : Nat} {p : Array Nat} (a : Arr n p) {k l : Nat} (hk : k < n) (hl : l ≤ k) : Arr n (bubble p k (k - l)) := by
 refine ⟨by rw [bubble_size]; exact a.size, fun i hi => ?_, fun i j hi hj e => ?_⟩
 ·rw [kQ a.size hk hl]; split
  ·exact a.lt _ hk
  ·split <;> exact a.lt _ (by omega)
 ·rw [kQ a.size hk hl, kQ a.size hk hl] at e
  have iv : ∀ x y, x < n → y < n → p.getD x 0 = p.getD y 0 → x = y := a.inj
  split at e
  ·split at e
   ·omega
   ·split at e
    ·have := iv _ _ (by omega) (by omega) e; omega
    ·have := iv _ _ (by omega) (by omega) e; omega
  ·split at e
   ·split at e
    ·have := iv _ _ (by omega) (by omega) e; omega
    ·split at e
     ·have := iv _ _ (by omega) (by omega) e; omega
     ·have := iv _ _ (by omega) (by omega) e; omega
   ·split at e
    ·have := iv _ _ (by omega) (by omega) e; omega
    ·split at e
     ·have := iv _ _ (by omega) (by omega) e; omega
     ·exact iv _ _ (by omega) (by omega) e
section
variable {n : Nat} {lt : Nat → Nat → Bool} {cmp : Nat → Nat → (Bool → Shared → Prop) → Shared → Prop} {s : Shared}
variable (o : Ord n lt) (hc : ∀ i j, i < n → j < n → ∀ C : Bool → Shared → Prop, C (lt i j) s → cmp i j C s)
include o hc
theorem aHa {p : Array Nat} (a : Arr n p) {k : Nat} (hk : 1 ≤ k) (hkn : k ≤ n) (hd : Down lt p k) {Q : Nat × Array Nat → Shared → Prop} (hq : ∀ m p', Arr n p' → 1 ≤ m → m ≤ n → Up lt p' m → Q (m, p') s) : (kas_tail3 k n p).kasWp cmp Q s := by
 unfold kas_tail3
 rw [KasT.kasWp_bind]
 refine aAd o hc (aBd a hkn) (n - k) k (by omega) hk (fun i j hij hj => ?_) fun m' g1 g2 g3 g4 => hq m' _ (aBd a hkn) (by omega) g2 g3
 rw [rev_getD a.size hkn, rev_getD a.size hkn, if_pos (by omega), if_pos (by omega)]
 exact hd _ _ (by omega) (by omega)
theorem aFd {p : Array Nat} (a : Arr n p) (hn : 1 ≤ n) {Q : Nat × Array Nat → Shared → Prop} (hq : ∀ m p', Arr n p' → 1 ≤ m → m ≤ n → Up lt p' m → Q (m, p') s) : (kas_count n p).kasWp cmp Q s := by
 unfold kas_count
 rw [KasT.kasWp_bind]
 refine aAd o hc a (n - 1) 1 (by omega) (Nat.le_refl _) (fun i j h1 h2 => by omega) fun m g1 g2 g3 g4 => ?_
 by_cases hm : m = n
 ·rw [if_pos (by simp [hm])]
  exact hq m p a g1 g2 g3
 ·rw [if_neg (by simpa using hm)]
  by_cases h1 : m > 1
  ·rw [if_pos h1]
   refine hc _ _ (a.lt 0 (by omega)) (a.lt (m - 1) (by omega)) _ ?_
   rw [g3 0 (m - 1) (by omega) (by omega)]; dsimp only; rw [if_pos rfl]
   exact hq m p a g1 g2 g3
  ·rw [if_neg h1]
   have e1 : m = 1 := by omega
   subst e1
   have h10 := g4 (by omega)
   unfold kas_descPart
   rw [KasT.kasWp_bind]
   refine aAz o hc a (n - 2) 2 (by omega) (Nat.le_refl _) (fun i j hij hj => ?_) fun k' q1 q2 q3 => ?_
   ·have : i = 0 := by omega
    have : j = 1 := by omega
    subst i; subst j; exact h10
   ·dsimp only
    rw [if_neg (by omega)]
    exact aHa o hc a (by omega) q2 q3 hq
theorem rQ {p : Array Nat} (a : Arr n p) {k : Nat} (hk : k < n) (hu : Up lt p k) : ∀ (f l r : Nat) {Q : Nat → Shared → Prop}, r - l ≤ f → l ≤ r → r ≤ k → (∀ i, i < l → lt (p.getD i 0) (p.getD k 0) = true) → (∀ i, r ≤ i → i < k → lt (p.getD k 0) (p.getD i 0) = true) →
  (∀ l', l' ≤ k → (∀ i, i < l' → lt (p.getD i 0) (p.getD k 0) = true) → (∀ i, l' ≤ i → i < k → lt (p.getD k 0) (p.getD i 0) = true) → Q l' s) → (kas_place p k f l r).kasWp cmp Q s
 | 0, l, r, Q, h1, h2, h3, h4, h5, hq => by
  have : l = r := by omega
  subst this
  exact hq l h3 h4 h5
 | f + 1, l, r, Q, h1, h2, h3, h4, h5, hq => by
  unfold kas_place
  by_cases hlr : l ≥ r
  ·rw [if_pos hlr]
   have : l = r := by omega
   subst this
   exact hq l h3 h4 h5
  ·rw [if_neg hlr]
   refine hc _ _ (a.lt k hk) (a.lt _ (by omega)) _ ?_
   cases ec : lt (p.getD k 0) (p.getD ((l + r) / 2) 0) with
   | true =>
    dsimp only; rw [if_pos rfl]
    refine rQ a hk hu f l ((l + r) / 2) (by omega) (by omega) (by omega) h4 (fun i g1 g2 => ?_) hq
    by_cases q : i = (l + r) / 2
    ·subst q; exact ec
    ·exact o.tr _ _ _ ec (hu _ _ (by omega) g2)
   | false =>
    dsimp only; rw [if_neg (by simp)]
    have h6 : lt (p.getD ((l + r) / 2) 0) (p.getD k 0) = true := by
     rcases o.tot _ _ (a.lt ((l + r) / 2) (by omega)) (a.lt k hk) (fun z => by have := a.inj _ _ (by omega) (by omega) z; omega) with q | q
     ·exact q
     ·rw [ec] at q; cases q
    refine rQ a hk hu f ((l + r) / 2 + 1) r (by omega) (by omega) h3 (fun i g1 => ?_) h5 hq
    by_cases q : i = (l + r) / 2
    ·subst q; exact h6
    ·exact o.tr _ _ _ (hu _ _ (by omega) (by omega)) h6
theorem aFi : ∀ (f k : Nat) (p : Array Nat) {Q : Array Nat → Shared → Prop}, Arr n p → k + f = n → Up lt p k → (∀ p', Arr n p' → Up lt p' n → Q p' s) → (kas_bin f p k).kasWp cmp Q s
 | 0, k, p, Q, a, e, hu, hq => by
  have : k = n := by omega
  subst this
  exact hq p a hu
 | f + 1, k, p, Q, a, e, hu, hq => by
  unfold kas_bin
  rw [KasT.kasWp_bind]
  refine rQ o hc a (show k < n by omega) hu k 0 k (by omega) (by omega) (Nat.le_refl _) (fun i hi => by omega) (fun i h1 h2 => by omega) fun l h1 h2 h3 => ?_
  refine aFi f (k + 1) _ (aHe a (by omega) h1) (by omega) (fun i j hij hj => ?_) hq
  rw [kQ a.size (by omega) h1, kQ a.size (by omega) h1]
  by_cases q1 : i = l
  ·rw [if_pos q1, if_neg (by omega), if_pos (by omega)]
   exact h3 _ (by omega) (by omega)
  ·rw [if_neg q1]
   by_cases q2 : l < i ∧ i ≤ k
   ·rw [if_pos q2, if_neg (by omega), if_pos (by omega)]
    exact hu _ _ (by omega) (by omega)
   ·rw [if_neg q2]
    by_cases q3 : j = l
    ·rw [if_pos q3]; exact h2 _ (by omega)
    ·rw [if_neg q3]
     by_cases q4 : l < j ∧ j ≤ k
     ·rw [if_pos q4]; exact hu _ _ (by omega) (by omega)
     ·rw [if_neg q4]; exact hu _ _ (by omega) (by omega)
theorem aF3 (hn : 1 ≤ n) {Q : Array Nat → Shared → Prop} (hq : ∀ p, Arr n p → Up lt p n → Q p s) : (kas_sort n).kasWp cmp Q s := by
 have a0 : Arr n (List.toArray (List.range n)) := by
  have g : ∀ i, i < n → (List.toArray (List.range n)).getD i 0 = i := fun i hi => by rw [getD_eq, List.getElem?_toArray, List.getElem?_range hi]; rfl
  exact ⟨by simp, fun i hi => by rw [g i hi]; exact hi, fun i j hi hj e => by rwa [g i hi, g j hj] at e⟩
 unfold kas_sort
 rw [KasT.kasWp_bind]
 refine aFd o hc a0 hn fun m p' a' h1 h2 hu => ?_
 dsimp only
 by_cases hm : m < n
 ·rw [if_pos hm, show max m 1 = m by omega]
  exact aFi o hc (n - m) m p' a' (by omega) hu hq
 ·rw [if_neg hm]
  have : m = n := by omega
  subst this
  exact hq p' a' hu
end
end ST
end
section
namespace ST
open PySem PySem.W PyProof.Rows
def ltL : Y0 → Y0 → Bool
 | [], [] => false
 | [], _ :: _ => true
 | _ :: _, [] => false
 | x :: xs, y :: ys => if x = y then ltL xs ys else decide (x < y)
theorem ltL_irr : ∀ x, ltL x x = false
 | [] => rfl
 | x :: xs => by unfold ltL; rw [if_pos rfl]; exact ltL_irr xs
theorem ltL_tr : ∀ x y z, ltL x y = true → ltL y z = true → ltL x z = true
 | [], [], z, h, _ => by cases h
 | [], _ :: _, [], _, h => by cases h
 | [], _ :: _, _ :: _, _, _ => rfl
 | _ :: _, [], _, h, _ => by cases h
 | _ :: _, _ :: _, [], _, h => by cases h
 | x :: xs, y :: ys, z :: zs, h1, h2 => by
  unfold ltL at h1 h2 ⊢
  by_cases e1 : x = y
  ·rw [if_pos e1] at h1
   subst e1
   by_cases e2 : x = z
   ·rw [if_pos e2] at h2 ⊢; exact ltL_tr xs ys zs h1 h2
   ·rw [if_neg e2] at h2 ⊢; exact h2
  ·rw [if_neg e1] at h1
   have h1 := of_decide_eq_true h1
   by_cases e2 : y = z
   ·subst e2; rw [if_neg e1]; exact decide_eq_true h1
   ·rw [if_neg e2] at h2
    have h2 := of_decide_eq_true h2
    rw [if_neg (by omega)]; exact decide_eq_true (by omega)
theorem ltL_tot : ∀ x y, x ≠ y → ltL x y = true ∨ ltL y x = true
 | [], [], h => absurd rfl h
 | [], _ :: _, _ => .inl rfl
 | _ :: _, [], _ => .inr rfl
 | x :: xs, y :: ys, h => by
  unfold ltL
  by_cases e : x = y
  ·subst e
   rw [if_pos rfl, if_pos rfl]
   exact ltL_tot xs ys fun z => h (by rw [z])
  ·rw [if_neg e, if_neg (Ne.symm e)]
   rcases Int.lt_or_gt_of_ne e with q | q
   ·exact .inl (decide_eq_true q)
   ·exact .inr (decide_eq_true q)
section
variable {prog : Program} {w : World} {A : Around} {E : Y9} {s : Shared}
theorem aFs {b : Bool} {Q : Bool → Shared → Prop} : ∀ {x y : Y0} {xs ys : Y1} {fin : Bool} (i : Nat), ItemsAre (intKind prog w) x xs → ItemsAre (intKind prog w) y ys → fin = decide (x.length < y.length) → Q (ltL x y) s → KatLex prog w A b fin Q (xs.zip ys) i s
 | _, _, _, _, fin, i, .nil, .nil, hf, hq => by
  have : fin = false := by rw [hf]; rfl
  subst this
  exact kat_nil hq
 | _, _, _, _, fin, i, .nil, .cons _ _, hf, hq => by
  have : fin = true := by rw [hf]; simp
  subst this
  exact kat_nil hq
 | _, _, _, _, fin, i, .cons _ _, .nil, hf, hq => by
  have : fin = false := by rw [hf]; simp
  subst this
  exact kat_nil hq
 | x :: x', y :: y', _, _, fin, i, .cons h1 hx, .cons h2 hy, hf, hq => by
  refine kat_cons ((intKind prog w).eqBool h1 h2 ?_)
  unfold ltL at hq
  by_cases e : x = y
  ·rw [decide_eq_true e]
   rw [if_pos e] at hq
   have hf' : fin = decide (x'.length < y'.length) := by
    rw [hf]; simp only [List.length_cons, Nat.add_lt_add_iff_right]
   exact kat_yes (aFs (i + 1) hx hy hf' hq)
  ·rw [decide_eq_false e]
   rw [if_neg e] at hq
   obtain ⟨t, rfl⟩ := Value.isInt_shape h1
   obtain ⟨u, rfl⟩ := Value.isInt_shape h2
   refine kat_no ?_
   cases (b && i == 0) with
   | true => exact oneLt_int hq
   | false => exact kat_one _ _ (PyProof.Rows.lt_int (show W.BoolBack Q (.bool _) s from hq))
theorem aN2 {b : Bool} {Q : Bool → Shared → Prop} {x y : Y0} {a c : Addr} (hx : IsTupleKey (intKind prog w) s.heap x a) (hy : IsTupleKey (intKind prog w) s.heap y c) (hq : Q (ltL x y) s) : wpAny (model prog w) A (keyLt' (tuples' b) (.ref a) (.ref c)) Q E s := by
 obtain ⟨ox, xs, n, hox, _, hdx, hix⟩ := hx
 obtain ⟨oy, ys, k, hoy, _, hdy, hiy⟩ := hy
 refine kat_lt hox hdx hoy hdy (aFs 0 hix hiy ?_ hq)
 have l1 := hix.length; have l2 := hiy.length
 simp at l1 l2
 rw [l1, l2]
end
end ST
end
section
namespace ST
open PySem PySem.W PyProof.Rows
section
variable {prog : Program} {w : World} {A : Around} {E : Y9} {s : Shared}
def refs (kas : Y7) : Y1 := kas.map fun p => Value.ref p.2
theorem rK (kas : Y7) {i : Nat} (h : i < kas.length) : (refs kas).getD i Value.none = Value.ref (kas[i].2) := by
 simp [refs, h]
theorem qX {h : Heap} : ∀ {kas : Y7}, (∀ p ∈ kas, IsTupleKey (intKind prog w) h p.1 p.2) → (∀ p ∈ kas, p.1 ≠ []) → ∃ fs, KatTups h (refs kas) fs ∧ fs.length = kas.length ∧ ∀ v ∈ fs, ∃ x t, v = .int x t
 | [], _, _ => ⟨[], KatTups.nil, rfl, fun v hv => by simp at hv⟩
 | p :: kas, hk, hn => by
  obtain ⟨fs, h1, h2, h3⟩ := qX (fun q hq => hk q (List.mem_cons_of_mem _ hq)) fun q hq => hn q (List.mem_cons_of_mem _ hq)
  obtain ⟨o, items, m, ho, hc, hd, hi⟩ := hk p List.mem_cons_self
  have hne := hn p List.mem_cons_self
  obtain ⟨ks, ad⟩ := p
  cases hq : items.toList with
  | nil => rw [hq] at hi; cases hi; exact absurd rfl hne
  | cons v vs =>
   rw [hq] at hi
   cases hi with
   | @cons k _ _ _ h4 _ =>
    obtain ⟨t, rfl⟩ := Value.isInt_shape h4
    refine ⟨.int k t :: fs, KatTups.cons ho hc hd ?_ h1, by simp [h2], fun v hv => ?_⟩
    ·rw [← Array.getElem?_toList, hq]; rfl
    ·rcases List.mem_cons.mp hv with rfl | hv
     ·exact ⟨_, t, rfl⟩
     ·exact h3 v hv
theorem xE {a : Addr} {kas : Y7} {n : Nat} {P : PySem.Fin → Shared → Prop} (ho : s.heap.get? a = some (seqObj "list" (refs kas).toArray n)) (hk : ∀ p ∈ kas, IsTupleKey (intKind prog w) s.heap p.1 p.2) (hne : ∀ p ∈ kas, p.1 ≠ []) (nd : (kas.map (·.1)).Nodup) (h64 : kas.length < 64)
  (h : ∀ kas' : Y7, kas'.Perm kas → kas'.Pairwise (fun x y => ltL x.1 y.1 = true) → P (.done (.ret .none)) { s with heap := sortedHeap s.heap a (refs kas) (refs kas').toArray }) :
  wpAny (model prog w) A (Builtin.«list.sort» ⟨[.ref a], []⟩) P E s := by
 rw [list_sort_plain]
 have ha : a < s.heap.objs.size := Heap.lt_size ho
 have hl : (refs kas).length = kas.length := by simp [refs]
 refine wpAny_bind (listItems_at ho rfl ?_)
 refine wpAny_bind (listUpdate_at ho rfl ?_ (by rw [List.size_toArray, sizeLine_eq, hl]; omega) (Nat.zero_le _))
 obtain ⟨e1, ho1⟩ : ∃ e1, (s.heap.update a (Obj.mapSeq fun _ => #[])).get? a = some (seqObj "list" #[] e1) := ⟨_, get?_update_seq ho (fun _ => #[])⟩
 refine wpAny_bind (seqEpoch_at ho1 rfl ?_)
 refine wpAny_bind (wpAny_newTuple ?_ (by show (refs kas).length ≤ _; rw [sizeLine_eq, hl]; omega))
 refine wpAny_bind (wpAny_newList ?_ (Nat.zero_le _))
 refine wpAny_holding ?_
 have ho6 : (((s.heap.update a (Obj.mapSeq fun _ => #[])).push (seqObj "tuple" (refs kas).toArray 0)).push (seqObj "list" #[] 0)).get? a = some (seqObj "list" #[] e1) :=
  Heap.get?_push_of_some _ (Heap.get?_push_of_some _ ho1)
 have hk6 : ∀ p ∈ kas, IsTupleKey (intKind prog w) (((s.heap.update a (Obj.mapSeq fun _ => #[])).push (seqObj "tuple" (refs kas).toArray 0)).push (seqObj "list" #[] 0)) p.1 p.2 := fun p hp => by
  obtain ⟨o, items, m, h1, h2, h3, h4⟩ := hk p hp
  have hpa : p.2 ≠ a := fun z => by
   rw [z] at h1
   rw [ho] at h1
   cases h1
   exact absurd (show Value.type "list" = Value.type "tuple" from h2) (by decide)
  refine ⟨o, items, m, Heap.get?_push_of_some _ (Heap.get?_push_of_some _ ?_), h2, h3, h4⟩
  rw [Heap.get?_update_other _ _ (Ne.symm hpa)]; exact h1
 show wpAny (model prog w) A _ P E { s with heap := ((s.heap.update a (Obj.mapSeq fun _ => #[])).push (seqObj "tuple" (refs kas).toArray 0)).push (seqObj "list" #[] 0) }
 dsimp only
 by_cases h2 : (refs kas).toArray.size < 2
 ·rw [if_pos h2, if_pos h2]
  refine wpAny_bind (wpAny_pure ?_)
  rw [StateT.run_pure]
  refine wpAny_bind (wpAny_pure ?_)
  dsimp only
  refine wpAny_bind (seqEpoch_at ho6 rfl ?_)
  have e0 : ((arrOf (SortSt.mk' general' ((refs kas).toArray.zip (refs kas).toArray) #[] 7 none)).map (·.2)) = (refs kas).toArray := by
   show ((refs kas).toArray.zip (refs kas).toArray).map (·.2) = _
   apply Array.toList_inj.mp
   simp
   exact List.map_snd_zip (Nat.le_refl _)
  refine wpAny_bind (listUpdate_at ho6 rfl ?_ (Nat.zero_le _) (hsz2 := by rw [e0, List.size_toArray, sizeLine_eq, hl]; omega))
  rw [e0]
  simp only [bne_self_eq_false, Bool.false_eq_true, if_false]
  refine wpAny_pure (h kas (.refl _) ?_)
  rw [List.size_toArray, hl] at h2
  match kas, h2 with
  | [], _ => exact .nil
  | [x], _ => exact List.pairwise_singleton _ _
  | _ :: _ :: _, h2 => simp at h2; omega
 ·rw [if_neg h2, if_neg h2]
  rw [List.size_toArray, hl] at h2
  obtain ⟨fs, t1, t2, t3⟩ := qX hk6 hne
  refine wpAny_bind (kat_kind (T := .type "int") t1 (by omega) (fun v hv => ?_) (by decide) ?_)
  ·obtain ⟨x, t, rfl⟩ := t3 v hv
   exact Looks.of_pure rfl
  ·have inj : ∀ i j (hi : i < kas.length) (hj : j < kas.length), kas[i].1 = kas[j].1 → i = j := fun i j hi hj e => by
    have := (List.getElem_inj (xs := kas.map (·.1)) (i := i) (j := j) (h₀ := by simpa using hi) (h₁ := by simpa using hj) nd).mp (by simpa using e)
    exact this
   have o : Ord kas.length (fun i j => ltL ((kas[i]?.map (·.1)).getD []) ((kas[j]?.map (·.1)).getD [])) := by
    refine ⟨fun i => ltL_irr _, fun i j k => ltL_tr _ _ _, fun i j hi hj hij => ltL_tot _ _ fun z => hij (inj i j hi hj ?_)⟩
    simpa [hi, hj] using z
   refine wpAny_bind (wpAny_mono (kat_run (ks := refs kas) (vs := refs kas) (κ := tuples' (Value.type "int" != Value.type "tuple")) (Q := fun st' s' => ∃ p : Array Nat, arrOf st' = p.map (kas_item ((refs kas).toArray.zip (refs kas).toArray)) ∧ failedOf st' = none ∧ Arr kas.length p ∧ Up (fun i j => ltL ((kas[i]?.map (·.1)).getD []) ((kas[j]?.map (·.1)).getD [])) p kas.length ∧ s' = { s with heap := ((s.heap.update a (Obj.mapSeq fun _ => #[])).push (seqObj "tuple" (refs kas).toArray 0)).push (seqObj "list" #[] 0) })
    (G := fun p s' => Arr kas.length p ∧ Up (fun i j => ltL ((kas[i]?.map (·.1)).getD []) ((kas[j]?.map (·.1)).getD [])) p kas.length ∧ s' = { s with heap := ((s.heap.update a (Obj.mapSeq fun _ => #[])).push (seqObj "tuple" (refs kas).toArray 0)).push (seqObj "list" #[] 0) })
    rfl (by omega) (by omega) (fun p st' s' _ a2 a3 a4 => ⟨p, a2, a3, a4⟩) ?_) ?_ fun _ _ e => e)
   ·rw [hl]
    refine aF3 o (fun i j hi hj C hC => ?_) (by omega) fun p a1 a2 => ⟨a1, a2, rfl⟩
    unfold kas_ask
    rw [rK kas hi, rK kas hj]
    refine aN2 (hk6 _ (List.getElem_mem hi)) (hk6 _ (List.getElem_mem hj)) ?_
    simpa [hi, hj] using hC
   ·rintro ⟨⟨⟩, st'⟩ s' ⟨p, har, hf, ar, up, rfl⟩
    dsimp only
    have hout := kat_snds (ks := refs kas) (vs := refs kas) rfl har
    obtain ⟨kas', ek⟩ : ∃ kas', kas' = p.toList.map fun i => kas.getD i ([], 0) := ⟨_, rfl⟩
    have psz : p.toList.length = kas.length := by rw [Array.length_toList, ar.size]
    have plt : ∀ i ∈ p.toList, i < kas.length := fun i hi => by
     obtain ⟨k, hk', e⟩ := List.mem_iff_getElem.mp hi
     have := ar.lt k (by omega)
     rw [getD_eq, Array.getElem?_eq_getElem (by rw [ar.size]; omega)] at this
     rw [← e]; simpa using this
    have pget : ∀ k (hk' : k < kas.length), p.getD k 0 = p.toList[k]'(by omega) := fun k hk' => by
     rw [getD_eq, Array.getElem?_eq_getElem (by rw [ar.size]; omega)]; simp
    have er : (p.toList.map fun i => (refs kas).getD i Value.none) = refs kas' := by
     rw [ek]
     show _ = List.map (fun p : Y0 × Addr => Value.ref p.2) (List.map (fun i => kas.getD i ([], 0)) p.toList)
     rw [List.map_map]
     refine List.map_congr_left fun i hi => ?_
     have := plt i hi
     rw [rK kas this]
     simp [this]
    rw [er] at hout
    have hsz : (refs kas').length = kas.length := by rw [← er, List.length_map, psz]
    refine wpAny_bind (seqEpoch_at ho6 rfl ?_)
    refine wpAny_bind (listUpdate_at ho6 rfl ?_ (Nat.zero_le _) (hsz2 := by rw [hout, List.size_toArray, hsz, sizeLine_eq]; omega))
    rw [hf, hout]
    simp only [bne_self_eq_false, Bool.false_eq_true, if_false]
    refine wpAny_pure (h kas' ?_ ?_)
    ·have pp : p.toList.Perm (List.range kas.length) := by
      refine (List.perm_ext_iff_of_nodup ?_ List.nodup_range).mpr fun k => ?_
      ·refine List.pairwise_iff_getElem.mpr fun i j hi hj hij z => ?_
       have := ar.inj i j (by omega) (by omega) (by rw [pget i (by omega), pget j (by omega)]; exact z)
       omega
      ·constructor
       ·intro hk'; exact List.mem_range.mpr (plt k hk')
       ·intro hk'
        refine Classical.byContradiction fun z => ?_
        have nd2 : p.toList.Nodup := by
         refine List.pairwise_iff_getElem.mpr fun i j hi hj hij z => ?_
         have := ar.inj i j (by omega) (by omega) (by rw [pget i (by omega), pget j (by omega)]; exact z)
         omega
        have sub : (k :: p.toList) ⊆ List.range kas.length := fun y hy => by
         rcases List.mem_cons.mp hy with rfl | hy
         ·exact hk'
         ·exact List.mem_range.mpr (plt y hy)
        have := (List.nodup_cons.mpr ⟨z, nd2⟩).length_le_of_subset sub
        rw [List.length_cons, psz, List.length_range] at this
        omega
     have := pp.map fun i => kas.getD i ([], 0)
     rw [← ek] at this
     refine this.trans (List.Perm.of_eq ?_)
     refine List.ext_getElem (by simp) fun i h1 h2 => ?_
     simp at h1
     simp [h1]
    ·rw [ek]
     refine List.pairwise_iff_getElem.mpr fun i j hi hj hij => ?_
     rw [List.length_map] at hi hj
     have u := up i j hij (by omega)
     rw [pget i (by omega), pget j (by omega)] at u
     have l1 := plt _ (List.getElem_mem (l := p.toList) (n := i) hi)
     have l2 := plt _ (List.getElem_mem (l := p.toList) (n := j) hj)
     rw [List.getElem_map, List.getElem_map]
     have gd : ∀ k, k < kas.length → (kas.getD k ([], 0)).1 = ((kas[k]?.map (·.1)).getD []) := fun k hk' => by simp [hk']
     rw [gd _ l1, gd _ l2]
     exact u
end
end ST
end
section
namespace ST
open PySem PySem.W PyProof.Rows
section
variable {prog : Program} {w : World} {A : Around} {E : Y9} {s : Shared}
theorem sorted_set {S : Addr} {kas : Y7} {Q : Y9} (hh : A.handled = none) (hS : iZ prog w s.heap S kas) (hne : ∀ p ∈ kas, p.1 ≠ [])
  (h : ∀ (kas' : Y7) (D : Addr) (e : Nat) (h' : Heap) (tk : Nat), kas'.Perm kas → kas'.Pairwise (fun x y => ltL x.1 y.1 = true) → h'.get? D = some (seqObj "list" (refs kas').toArray e) → s.heap.objs.size ≤ D → s.toks ≤ tk → (∀ b o, s.heap.get? b = some o → h'.get? b = some o) →
   Q (.ref D) { s with heap := h', toks := tk }) : wpAny (model prog w) A (call (.builtin "sorted") [.ref S]) Q E s := by
 have hlen := hS.len
 refine Calls.call_function_entry kind_sorted plain_sorted entry_sorted (args_sorted1 _) ?_
 unfold Builtin.«sorted»
 refine wpAny_bind (m := checkCount "sorted" 1 1 _) (wpAny_pure ?_)
 refine wpAny_bind (xA (by simpa using hh) hS fun kas1 s1 pk hm hsz => ?_)
 have hk1 : ∀ p ∈ kas1, IsTupleKey (intKind prog w) s1.heap p.1 p.2 := fun p hp => iB (hS.keys p (pk.subset hp)) fun o e => hm.heap _ o (by simp) e
 have hl1 : kas1.length = kas.length := pk.length_eq
 refine wpAny_bind (wpAny_newList ?_ (by show (refs kas1).length ≤ _; rw [sizeLine_eq]; simp [refs]; omega))
 have hoL : (s1.heap.push (seqObj "list" (refs kas1).toArray 0)).get? s1.heap.objs.size = some (seqObj "list" (refs kas1).toArray 0) := Heap.get?_push_size _ rfl
 refine wpAny_bind (wpAny_holding (wpAny_call_entry slot_list_sort ⟨_, hoL, rfl⟩ entry_list_sort ?body (args_list_sort _)))
 case body =>
  refine xE (s := { s1 with heap := s1.heap.push (seqObj "list" (refs kas1).toArray 0) }) hoL (fun p hp => iB (hk1 p hp) fun o e => Heap.get?_push_of_some _ e) (fun p hp => hne p (pk.subset hp)) ((pk.map (·.1)).nodup_iff.mpr hS.nd) (by omega) fun kas2 pk2 up2 => ?_
  refine ⟨_, rfl, wpAny_pure ⟨_, rfl, ?_⟩⟩
  obtain ⟨h1, g1, d1, t1, o1⟩ := s1
  have eg : g1 = s.gens := hm.gens
  have ed : d1 = s.drawn := hm.drawn
  have eo : o1 = s.os := hm.os
  subst eg; subst ed; subst eo
  have hlt : h1.objs.size < (h1.push (seqObj "list" (refs kas1).toArray 0)).objs.size := by rw [size_push']; exact Nat.lt_succ_self _
  obtain ⟨e2, he2⟩ : ∃ e2, (sortedHeap (h1.push (seqObj "list" (refs kas1).toArray 0)) h1.objs.size (refs kas1) (refs kas2).toArray).get? h1.objs.size = some (seqObj "list" (refs kas2).toArray e2) := by
   unfold sortedHeap
   obtain ⟨e1, ho1⟩ : ∃ e1, ((h1.push (seqObj "list" (refs kas1).toArray 0)).update h1.objs.size (Obj.mapSeq fun _ => #[])).get? h1.objs.size = some (seqObj "list" #[] e1) := ⟨_, get?_update_seq hoL (fun _ => #[])⟩
   exact ⟨_, get?_update_seq (Heap.get?_push_of_some _ (Heap.get?_push_of_some _ ho1)) fun _ => (refs kas2).toArray⟩
  refine h kas2 h1.objs.size e2 _ t1 (pk2.trans pk) up2 he2 hsz hm.toks fun b o e => ?_
  have e' : h1.get? b = some o := hm.heap b o (by simp) e
  have hne' : h1.objs.size ≠ b := Ne.symm (Nat.ne_of_lt (Heap.lt_size e'))
  unfold sortedHeap
  rw [Heap.get?_update_other _ _ hne']
  refine Heap.get?_push_of_some _ (Heap.get?_push_of_some _ ?_)
  rw [Heap.get?_update_other _ _ hne']
  exact Heap.get?_push_of_some _ e'
end
end ST
end
section
namespace ST
open PySem PySem.SetTable
theorem TOk.fits {es : Y3} {t : SetTable} (T : TOk es t) : t.fits es.size = true := by
 unfold SetTable.fits SetTable.fill
 rw [T.size, T.dum]
 simp [T.fill]
end ST
end
section
namespace SU
open ST
open PySem PySem.SetTable
theorem jL {α : Type} {next : Nat → Nat} : ∀ (fuel k : Nat) (left : List α) (out : Array α), left.length = fuel → (pickOrder.go next fuel k left out).toList.Perm (out.toList ++ left)
 | 0, k, left, out, h => by
  have : left = [] := List.length_eq_zero_iff.mp h
  subst this
  show out.toList.Perm _
  rw [List.append_nil]
 | fuel + 1, k, left, out, h => by
  unfold pickOrder.go
  have hlt : next k % left.length < left.length := Nat.mod_lt _ (by omega)
  rw [List.getElem?_eq_getElem hlt]
  dsimp only
  refine (jL fuel (k + 1) (left.eraseIdx (next k % left.length)) _ (by rw [List.length_eraseIdx, if_pos hlt]; omega)).trans ?_
  rw [Array.toList_push, List.append_assoc]
  refine List.Perm.append_left _ ?_
  rw [List.eraseIdx_eq_take_drop_succ]
  have e2 : left = left.take (next k % left.length) ++ left[next k % left.length] :: left.drop (next k % left.length + 1) := by simp
  have := (List.perm_middle (l₁ := left.take (next k % left.length)) (a := left[next k % left.length]) (l₂ := left.drop (next k % left.length + 1))).symm
  rw [← e2] at this
  exact this
def bS (w : World) (S : Addr) (ep : Nat) (es : Y3) : Y3 := if w.params.followText "set-order" then pickOrder (w.params.setOrder S ep) es else es
theorem jF {w : World} {S : Addr} {ep : Nat} {es : Y3} : (bS w S ep es).toList.Perm es.toList := by
 unfold bS
 split
 ·have := jL (next := w.params.setOrder S ep) es.size 0 es.toList #[] (by simp)
  simpa [pickOrder] using this
 ·exact .refl _
theorem fQ {w : World} {S : Addr} {ep : Nat} {es : Y3} : (bS w S ep es).size = es.size := by
 have := (jF (w := w) (S := S) (ep := ep) (es := es)).length_eq
 simpa using this
theorem mQ {xs : Array Nat} (hr : oK xs) {i j : Nat} (e : xs[i]? = some j) : below xs (j + 1) = i + 1 := by
 obtain ⟨h1, h2, h3⟩ := eQ hr (j + 1)
 rcases Nat.lt_trichotomy (below xs (j + 1)) (i + 1) with q | q | q
 ·have := h3 i j e (by omega); omega
 ·exact q
 ·have hs : i + 1 < xs.size := by omega
  have e2 := h2 (i + 1) _ (Array.getElem?_eq_getElem hs) q
  have e3 := hr _ _ _ _ e (Array.getElem?_eq_getElem hs) (by omega)
  omega
theorem mH {xs : Array Nat} (hr : oK xs) : below xs 0 = 0 := by
 obtain ⟨h1, h2, h3⟩ := eQ hr 0
 rcases Nat.eq_zero_or_pos (below xs 0) with q | q
 ·exact q
 ·have hs : 0 < xs.size := by omega
  have := h2 0 _ (Array.getElem?_eq_getElem hs) q
  omega
section
variable {prog : Program} {w : World} {A : Around} {E : Y9} {s : Shared}
theorem nD {S : Addr} {o : Obj} {es : Y3} {ep i slot : Nat} {t : SetTable} {Q : Option (Value × Nat) → Shared → Prop}
  (ho : s.heap.get? S = some o) (hd : o.data = .set es ep t) (T : TOk es t) (hpl : t.plain = true) (hled : t.led = !(w.params.followText "set-order")) (hsl : w.params.followText "set-order" = false → below t.place slot = i)
  (hQ : match (bS w S ep es)[i]? with | some e => ∀ slot', (w.params.followText "set-order" = false → below t.place slot' = i + 1) → Q (some (e.2, slot')) s | none => Q none s) :
  wpAny (model prog w) A (setNext S slot i ep) Q E s := by
 unfold setNext
 refine wpAny_bind (wpAny_setState_of ho hd T.fits ?_)
 dsimp only
 unfold setsByText
 refine wpAny_bind (wpAny_bind (wpAny_askSetting (wpAny_pure ?_)))
 dsimp only
 cases hb : w.params.followText "set-order" with
 | true =>
  show wpAny _ _ (if w.params.followText "set-order" = true then _ else _) _ _ _
  rw [if_pos hb, if_neg (by simp)]
  refine wpAny_bind ?_
  unfold setWalk
  refine wpAny_bind (wpAny_setState_of ho hd T.fits ?_)
  dsimp only
  unfold setsByText
  refine wpAny_bind (wpAny_bind (wpAny_askSetting (wpAny_pure ?_)))
  show wpAny _ _ (if w.params.followText "set-order" = true then _ else _) _ _ _
  rw [if_pos hb]
  refine wpAny_bind (wpAny_askSetting (wpAny_pure ?_))
  refine wpAny_pure ?_
  have ew : bS w S ep es = pickOrder (w.params.setOrder S ep) es := by unfold bS; rw [if_pos hb]
  rw [ew] at hQ
  show Q (((pickOrder (w.params.setOrder S ep) es)[i]?).map fun e => (e.2, slot)) s
  cases hg : (pickOrder (w.params.setOrder S ep) es)[i]? with
  | none => rw [hg] at hQ; exact hQ
  | some e => rw [hg] at hQ; exact hQ slot fun z => by rw [hb] at z; cases z
 | false =>
  show wpAny _ _ (if w.params.followText "set-order" = true then _ else _) _ _ _
  have ew : bS w S ep es = es := by unfold bS; rw [if_neg (by rw [hb]; simp)]
  rw [ew] at hQ
  rw [if_neg (by rw [hb]; simp)]
  have hl : t.led = true := by rw [hled, hb]; rfl
  have hdr : (!t.plain && decide (es.size > 1)) = false := by rw [hpl]; rfl
  show wpAny _ _ (if (!t.plain && decide (es.size > 1)) = true then _ else _) _ _ _
  rw [if_neg (by rw [hdr]; simp)]
  refine wpAny_bind ?_
  show wpAny _ _ (if (!t.led && !es.isEmpty) = true then _ else _) _ _ _
  rw [if_neg (by rw [hl]; simp)]
  refine wpAny_pure (wpAny_pure ?_)
  rw [hsl hb]
  cases hg : es[i]? with
  | none =>
   rw [hg] at hQ
   exact hQ
  | some e =>
   rw [hg] at hQ
   have hlt : i < t.place.size := by rw [T.size]; exact (Array.getElem?_eq_some_iff.mp hg).1
   rw [Array.getElem?_eq_getElem hlt]
   exact hQ _ fun _ => mQ T.rise (Array.getElem?_eq_getElem hlt)
end
end SU
end
section
namespace SU
open ST
open PySem PySem.SetTable
namespace F
theorem slot_next : Slot "set_iterator" "__next__" "set_iterator.__next__" :=
 .of (owner := "set_iterator") (n := "__next__") (by rw [typeLookup_type, builtinLookup_eq_fast]; kernel_rfl) (by decide +kernel) (by decide +kernel) (by decide +kernel)
  (by first | exact .inl (by decide +kernel) | exact .inr (by decide +kernel)) (by rw [isSubtype_type]; kernel_rfl)
theorem entry_next : entryFor table "set_iterator.__next__" = some Builtin.«set_iterator.__next__» := entryFor_of_fast (by kernel_rfl)
theorem args_next (a : Value) : argsOk "set_iterator.__next__" ⟨[a], []⟩ := by unfold argsOk; kernel_rfl
theorem slot_iter : Slot "set_iterator" "__iter__" "set_iterator.__iter__" :=
 .of (owner := "set_iterator") (n := "__iter__") (by rw [typeLookup_type, builtinLookup_eq_fast]; kernel_rfl) (by decide +kernel) (by decide +kernel) (by decide +kernel)
  (by first | exact .inl (by decide +kernel) | exact .inr (by decide +kernel)) (by rw [isSubtype_type]; kernel_rfl)
theorem args_iter (a : Value) : argsOk "set_iterator.__iter__" ⟨[a], []⟩ := by unfold argsOk; kernel_rfl
theorem entry_iter : entryFor table "set_iterator.__iter__" = some Builtin.«dict_keyiterator.__iter__» :=
 entryFor_alias (id' := "dict_keyiterator.__iter__") (by kernel_rfl) (by first | rfl | decide +kernel) (by decide +kernel) (by kernel_rfl)
theorem entry_set_iter : entryFor table "set.__iter__" = some Builtin.«frozenset.__iter__» :=
 entryFor_alias (id' := "frozenset.__iter__") (by kernel_rfl) (by first | rfl | decide +kernel) (by decide +kernel) (by kernel_rfl)
end F
section
variable {prog : Program} {w : World} {A : Around} {E : Y9} {s : Shared}
def gK (slot i : Nat) (S : Addr) (n ep : Nat) : Obj := { cls := .type "set_iterator", dict := none, data := .fields #[.int slot 0, .int i 0, .ref S, .int n 0, .int ep 0], slots := #[] }
def StS (I S : Addr) (o : Obj) (es : Y3) (ep : Nat) (t : SetTable) (w : World) (i : Nat) (s : Shared) : Prop :=
 ∃ slot, s.heap.get? I = some (gK slot i S es.size ep) ∧ (w.params.followText "set-order" = false → below t.place slot = i) ∧ s.heap.get? S = some o ∧ TOk es t
theorem StS.ty {I S : Addr} {o : Obj} {es : Y3} {ep : Nat} {t : SetTable} {i : Nat} (h : StS I S o es ep t w i s) : s.TypeIs (.ref I) "set_iterator" := by
 obtain ⟨slot, h1, _⟩ := h
 exact ⟨_, h1, rfl⟩
theorem uH {I S : Addr} {o : Obj} {es : Y3} {ep : Nat} {t : SetTable} {i : Nat} {Q : Option Value → Shared → Prop} (hd : o.data = .set es ep t) (hpl : t.plain = true) (hled : t.led = !(w.params.followText "set-order")) (hIS : I ≠ S)
  (hst : StS I S o es ep t w i s) (hi : i < es.size)
  (hQ : ∀ v h', (bS w S ep es)[i]?.map (·.2) = some v → StS I S o es ep t w (i + 1) { s with heap := h' } → Heap.SameBut I s.heap h' → Q (some v) { s with heap := h' }) : wpAny (model prog w) A (pyNext (.ref I)) Q E s := by
 have hT := hst.ty
 obtain ⟨slot, h1, h2, h3, T⟩ := hst
 have hlt : i < (bS w S ep es).size := by rw [fQ]; exact hi
 have eg := Array.getElem?_eq_getElem hlt
 unfold pyNext
 refine wpAny_bind (wpAny_attempt (wpAny_callSpecial?_slot (name := Str.ofString "__next__") hT F.slot_next
  (wpAny_call_entry F.slot_next hT F.entry_next ?_ (F.args_next _))))
 show wpAny _ _ (fieldsOf (.ref I) >>= _) _ _ s
 refine wpAny_bind (wpAny_fieldsOf h1 rfl ?_)
 show wpAny _ _ (setEntries S >>= _) _ _ s
 refine wpAny_bind (wpAny_setEntries_of h3 hd T.fits ?_)
 show wpAny _ _ (if ((es.size : Int) != (es.size : Int)) = true then _ else _) _ _ s
 rw [if_neg (by simp)]
 show wpAny _ _ (setNext S (slot : Int).toNat (i : Int).toNat (ep : Int).toNat >>= _) _ _ s
 rw [Int.toNat_natCast, Int.toNat_natCast, Int.toNat_natCast]
 refine wpAny_bind (nD h3 hd T hpl hled h2 ?_)
 rw [eg]
 dsimp only
 intro slot' hs'
 refine wpAny_bind (wpAny_setField_rec h1 (by simp) fun h' e1 sb1 => ?_)
 refine wpAny_bind (wpAny_setField_rec (s := { s with heap := h' }) e1 (by simp) fun h'' e2 sb2 => ?_)
 refine wpAny_pure ⟨_, rfl, ?_⟩
 refine wpAny_pure (hQ _ h'' (by rw [eg]; rfl) ⟨slot', ?_, hs', ?_, T⟩ (sb1.trans sb2))
 ·exact e2
 ·have : h''.get? S = some o := by rw [sb2.2 S (Ne.symm hIS), sb1.2 S (Ne.symm hIS)]; exact h3
  exact this
theorem zT {I S : Addr} {o : Obj} {es : Y3} {ep : Nat} {t : SetTable} {Q : Option Value → Shared → Prop} (hh : A.handled = none) (hd : o.data = .set es ep t) (hpl : t.plain = true) (hled : t.led = !(w.params.followText "set-order"))
  (hst : StS I S o es ep t w es.size s) (hQ : ∀ h', Heap.ExtBut I s.heap h' → Q none { s with heap := h' }) : wpAny (model prog w) A (pyNext (.ref I)) Q E s := by
 have hT := hst.ty
 obtain ⟨slot, h1, h2, h3, T⟩ := hst
 have eg : (bS w S ep es)[es.size]? = none := by rw [Array.getElem?_eq_none]; rw [fQ]; exact Nat.le_refl _
 unfold pyNext
 refine wpAny_bind (wpAny_attempt (wpAny_callSpecial?_slot (name := Str.ofString "__next__") hT F.slot_next
  (wpAny_call_entry F.slot_next hT F.entry_next ?_ (F.args_next _))))
 show wpAny _ _ (fieldsOf (.ref I) >>= _) _ _ s
 refine wpAny_bind (wpAny_fieldsOf h1 rfl ?_)
 show wpAny _ _ (setEntries S >>= _) _ _ s
 refine wpAny_bind (wpAny_setEntries_of h3 hd T.fits ?_)
 show wpAny _ _ (if ((es.size : Int) != (es.size : Int)) = true then _ else _) _ _ s
 rw [if_neg (by simp)]
 show wpAny _ _ (setNext S (slot : Int).toNat ((es.size : Nat) : Int).toNat (ep : Int).toNat >>= _) _ _ s
 rw [Int.toNat_natCast, Int.toNat_natCast, Int.toNat_natCast]
 refine wpAny_bind (nD h3 hd T hpl hled h2 ?_)
 rw [eg]
 dsimp only
 refine wpAny_bind (wpAny_setField_rec h1 (by simp) fun h' e1 sb1 => ?_)
 show wpAny _ _ (newExc (.type "StopIteration") [] >>= _) _ _ _
 refine wpAny_bind ?_
 simp only [newExc, newTuple]
 refine wpAny_bind (wpAny_newObj_type ?_ (by size_fits))
 refine wpAny_bind (m := firstArgMember _ _) (wpAny_of_eq (a := Value.none) (by first | rfl | (simp only [firstArgMember]; rfl)) ?_)
 refine wpAny_newObj_type ?_ (by size_fits)
 simp only [raiseNew]
 refine wpAny_bind (wpAny_handled ?_)
 rw [show A.in1.handled = none from hh]
 refine wpAny_bind (wpAny_pure (wpAny_throw ?_))
 refine wpAny_bind (wpAny_isInstance (T := "StopIteration") (b := true) ⟨_, Heap.get?_push_size _ rfl, rfl⟩ isSubtype_stop ?_)
 exact wpAny_pure (hQ _ ((sb1.extBut.push _).push _))
end
end SU
end
section
namespace SU
open ST
open PySem PySem.SetTable
section
variable {prog : Program} {w : World} {A : Around} {E : Y9} {s : Shared}
def StH (I S : Addr) (o : Obj) (es : Y3) (ep : Nat) (t : SetTable) (w : World) (i : Nat) (h : Heap) : Prop :=
 ∃ slot, h.get? I = some (gK slot i S es.size ep) ∧ (w.params.followText "set-order" = false → below t.place slot = i) ∧ h.get? S = some o ∧ TOk es t
theorem yT {I S : Addr} {o : Obj} {es : Y3} {ep : Nat} {t : SetTable} (hh : A.handled = none) (hd : o.data = .set es ep t) (hpl : t.plain = true) (hled : t.led = !(w.params.followText "set-order")) (hIS : I ≠ S) :
  Walks prog w A I [I, S] [I] es.size (fun i v => (bS w S ep es)[i]?.map (·.2) = some v) (fun i h => StH I S o es ep t w i h) where
 sub := fun b hb => by simp at hb; simp [hb]
 frame := fun i h h' st hk => by
  obtain ⟨slot, h1, h2, h3, T⟩ := st
  exact ⟨slot, hk I (by simp) _ h1, h2, hk S (by simp) _ h3, T⟩
 item := fun i s Q E hi st hQ => by
  refine uH (i := i) hd hpl hled hIS st hi fun v h' hv st' sb => ?_
  exact hQ v h' s.toks hv st' fun b o' hb e => by rw [sb.2 b (fun z => hb (by simp [z]))]; exact e
 done := fun s Q E st hQ => zT hh hd hpl hled st fun h' he => hQ h' s.toks fun b o' hb e => he b o' (fun z => hb (by simp [z])) e
 self := fun i s Q E st hQ => by
  have hT : s.TypeIs (.ref I) "set_iterator" := by obtain ⟨slot, h1, _⟩ := st; exact ⟨_, h1, rfl⟩
  refine wpAny_pyIter_slot hT F.slot_iter (wpAny_call_entry F.slot_iter hT F.entry_iter ?_ (F.args_iter _))
  show wpAny _ _ (ret (.ref I)) _ _ s
  exact wpAny_pure ⟨_, rfl, "set_iterator", _, hT, F.slot_next.lookup, hQ⟩
theorem mT {P : Nat → Value → Prop} {acc : Array Value} {ws : Y3} (h : ItemsOf P acc ws.size) (hP : ∀ i v, P i v → ws[i]?.map (·.2) = some v) : acc.toList = ws.toList.map (·.2) := by
 refine List.ext_getElem? fun i => ?_
 rw [List.getElem?_map, Array.getElem?_toList, Array.getElem?_toList]
 by_cases hi : i < acc.size
 ·have e := Array.getElem?_eq_getElem hi
  rw [e]
  exact (hP i _ (h.2 i _ e)).symm
 ·have hw : ¬ i < ws.size := by rw [← h.1]; exact hi
  rw [Array.getElem?_eq_none (by omega), Array.getElem?_eq_none (by omega)]; rfl
theorem xX {S : Addr} {o : Obj} {es : Y3} {ep : Nat} {t : SetTable} {Q : Y1 → Shared → Prop} (hh : A.handled = none) (ho : s.heap.get? S = some o) (hex : o.ExactSet) (hd : o.data = .set es ep t) (T : TOk es t) (hpl : t.plain = true) (hled : t.led = !(w.params.followText "set-order")) (hn : es.size ≤ sizeLine)
  (hQ : ∀ (vs : Y1) (s' : Shared), vs.Perm (es.toList.map (·.2)) → Moved [] (fun a b => b = a) s s' → s.heap.objs.size ≤ s'.heap.objs.size → Q vs s') : wpAny (model prog w) A (collect (.ref S)) Q E s := by
 have hT : s.TypeIs (.ref S) "set" := ⟨o, ho, hex.1⟩
 have hSlt : S < s.heap.objs.size := Heap.lt_size ho
 unfold collect
 refine wpAny_bind (wpAny_runValue (codeAny_builtin PySem.F.entry_proto_collect ?_))
 rw [Around.under_plainId PySem.F.plain_proto_collect _]
 show wpAny _ A.in1 (newList [] >>= fun l => again (.builtin "list.__iadd__" ⟨[l, .ref S], []⟩)) _ _ s
 refine wpAny_bind (wpAny_newObj_type ?_)
 refine wpAny_pure ⟨plainId_quiet PySem.F.plain_list_iadd _, codeAny_builtin PySem.F.entry_list_iadd ?_⟩
 rw [Around.under_plainId PySem.F.plain_list_iadd _]
 generalize hh1 : s.heap.push { cls := .type "list", data := .seq ([] : Y1).toArray } = h1
 have e1 : ∀ b o, s.heap.get? b = some o → h1.get? b = some o := fun b o e => by rw [← hh1]; exact Heap.get?_push_of_some _ e
 have hL : h1.get? s.heap.objs.size = some { cls := .type "list", data := .seq ([] : Y1).toArray } := by rw [← hh1]; exact Heap.get?_push_size _ rfl
 have sz1 : h1.objs.size = s.heap.objs.size + 1 := by rw [← hh1, Heap.size_push]
 have hne : s.heap.objs.size ≠ S := Ne.symm (Nat.ne_of_lt hSlt)
 have hT1 : Shared.TypeIs { s with heap := h1 } (.ref S) "set" := ⟨o, e1 _ _ ho, hex.1⟩
 show wpAny _ A.in1 (Builtin.List.listExtendWith (.ref s.heap.objs.size) (.ref S) (.ref s.heap.objs.size)) _ _ _
 unfold Builtin.List.listExtendWith
 refine wpAny_bind (wpAny_typeOf hT1 ?_)
 have hsr : Builtin.List.listSameRef (.ref s.heap.objs.size) (.ref S) = false := by simp [Builtin.List.listSameRef, hne]
 rw [if_neg (by rw [hsr]; decide)]
 refine wpAny_bind (wpAny_pyIter_slot hT1 PySem.F.slot_set_iter (wpAny_call_entry PySem.F.slot_set_iter hT1 F.entry_set_iter ?_ (PySem.F.args_set_iter_1 _)))
 show wpAny _ _ (Builtin.Frozenset.sizeOf S >>= _) _ _ _
 unfold Builtin.Frozenset.sizeOf
 refine wpAny_bind (wpAny_bind (wpAny_setEntries_of (s := { s with heap := h1 }) (e1 _ _ ho) hd T.fits (wpAny_pure ?_)))
 unfold setDrawn
 refine wpAny_bind (wpAny_bind (wpAny_setState_of (s := { s with heap := h1 }) (e1 _ _ ho) hd T.fits ?_))
 dsimp only
 unfold setsByText
 refine wpAny_bind (wpAny_bind (wpAny_askSetting (wpAny_pure ?_)))
 refine wpAny_pure ?_
 show wpAny _ _ (if (!(w.params.followText "set-order") && (!t.plain && decide (es.size > 1))) = true then _ else _) _ _ _
 rw [hpl, if_neg (by simp)]
 refine wpAny_bind (wpAny_pure ?_)
 refine wpAny_bind (wpAny_setEpoch_of (s := { s with heap := h1 }) (e1 _ _ ho) hd T.fits ?_)
 refine wpAny_bind (wpAny_newObj_type ?_)
 refine wpAny_pure ⟨_, rfl, "set_iterator", _, ⟨_, Heap.get?_push_size _ rfl, rfl⟩, F.slot_next.lookup, ?_⟩
 generalize hh2 : h1.push _ = h2
 have eI : h2.get? h1.objs.size = some (gK 0 0 S es.size ep) := by rw [← hh2]; exact Heap.get?_push_size _ rfl
 have e2 : ∀ b o, h1.get? b = some o → h2.get? b = some o := fun b o e => by rw [← hh2]; exact Heap.get?_push_of_some _ e
 have hT2 : Shared.TypeIs { s with heap := h2 } (.ref S) "set" := ⟨o, e2 _ _ (e1 _ _ ho), hex.1⟩
 refine wpAny_bind (wpAny_holding ?_)
 unfold Builtin.List.listLengthHint
 refine wpAny_bind (wpAny_specialOf hT2 PySem.F.slot_set_len.lookup ?_)
 generalize hid : ("set.__len__" : String) = id0
 wp_delta
 rw [show splitId id0 = some ("set", "__len__") from by subst hid; decide +kernel]
 subst hid
 refine wpAny_bind (wpAny_isInstance (b := true) hT2 (by rw [isSubtype_type]; kernel_rfl) ?_)
 show wpAny _ _ (typeOf (.ref S) >>= _) _ _ _
 refine wpAny_bind (wpAny_typeOf hT2 ?_)
 refine wpAny_pure ?_
 rw [if_pos (by rfl)]
 have hL2 : h2.get? s.heap.objs.size = some { cls := .type "list", dict := none, data := .seq #[] 0, slots := #[] } := e2 _ _ hL
 refine wpAny_bind (wpAny_rule (wpAny_bind ?_))
 unfold Builtin.List.listTouch
 refine wpAny_bind (PyProof.Rows.listUpdate_at (s := { s with heap := h2 }) hL2 rfl ?_)
 have hL3 : (h2.update s.heap.objs.size (Obj.mapSeq (·.push Value.none))).get? s.heap.objs.size = some { cls := .type "list", dict := none, data := .seq #[Value.none] 1, slots := #[] } := Heap.get?_update_self _ hL2 rfl
 refine PyProof.Rows.listUpdate_at (s := { s with heap := h2.update s.heap.objs.size (Obj.mapSeq (·.push Value.none)) }) hL3 rfl ?_
 have hL4 : ((h2.update s.heap.objs.size (Obj.mapSeq (·.push Value.none))).update s.heap.objs.size (Obj.mapSeq (·.pop))).get? s.heap.objs.size = some { cls := .type "list", dict := none, data := .seq #[] 2, slots := #[] } := Heap.get?_update_self _ hL3 rfl
 have e4 : ∀ b, b ≠ s.heap.objs.size → ((h2.update s.heap.objs.size (Obj.mapSeq (·.push Value.none))).update s.heap.objs.size (Obj.mapSeq (·.pop))).get? b = h2.get? b := fun b hb => by
  rw [Heap.get?_update_other _ _ (Ne.symm hb), Heap.get?_update_other _ _ (Ne.symm hb)]
 generalize ((h2.update s.heap.objs.size (Obj.mapSeq (·.push Value.none))).update s.heap.objs.size (Obj.mapSeq (·.pop))) = h4 at hL4 e4
 have hI4 : h4.get? h1.objs.size = some (gK 0 0 S es.size ep) := by
  rw [e4 _ (by rw [sz1]; exact Nat.succ_ne_self _)]; exact eI
 have hS4 : h4.get? S = some o := by rw [e4 _ (Ne.symm hne)]; exact e2 _ _ (e1 _ _ ho)
 have hIS : h1.objs.size ≠ S := by rw [sz1]; exact Ne.symm (Nat.ne_of_lt (Nat.lt_succ_of_lt hSlt))
 have W := yT (prog := prog) (w := w) (A := A.in1) (I := h1.objs.size) (S := S) (o := o) (es := es) (ep := ep) (t := t) (by simpa using hh) hd hpl hled hIS
 have hLf : s.heap.objs.size ∉ [h1.objs.size, S] := fun z => by
  rcases List.mem_cons.mp z with z | z
  ·rw [sz1] at z; exact Nat.succ_ne_self _ z.symm
  ·exact hne (List.mem_singleton.mp z)
 refine wpAny_pure ⟨plainId_quiet PySem.F.plain_extend_loop _, codeAny_extend_loopS W.toS hn _ hLf _ es.size 0 _ _ _ rfl (Nat.zero_le _) ⟨0, hI4, fun _ => mH T.rise, hS4, T⟩ hL4 (ItemsOf.nil _) fun s' acc' c' hm hS' hacc => ?_⟩
 show wpAny _ A (load s.heap.objs.size >>= _) _ _ s'
 refine wpAny_bind (wpAny_load hS' ?_)
 refine wpAny_pure ?_
 have eacc := mT (ws := bS w S ep es) (by rw [fQ]; exact hacc) (fun i v h => h)
 show Q acc'.toList s'
 rw [eacc]
 refine hQ _ s' (jF.map _) ⟨fun b o' _ e => ?_, hm.gens, hm.drawn, hm.os, hm.toks⟩ (Nat.le_of_lt (Heap.lt_size hS'))
 have hb1 : b ≠ s.heap.objs.size := Nat.ne_of_lt (Heap.lt_size e)
 have hb2 : b ≠ h1.objs.size := by rw [sz1]; exact Nat.ne_of_lt (Nat.lt_succ_of_lt (Heap.lt_size e))
 refine hm.heap b o' (fun z => ?_) (by show h4.get? b = some o'; rw [e4 b hb1]; exact e2 _ _ (e1 _ _ e))
 rcases List.mem_cons.mp z with z | z
 ·exact hb1 z
 ·exact hb2 (List.mem_singleton.mp z)
end
end SU
end
section
namespace SU
open PySem PySem.SetTable ST
section
variable {prog : Program} {w : World} {A : Around} {E : Y9} {s : Shared}
def lW (w : World) (h : Heap) (S : Addr) (kvs : List (Int × Value)) : Prop :=
 ∃ o es ep t, h.get? S = some o ∧ o.ExactSet ∧ o.data = .set es ep t ∧ TOk es t ∧ es.toList = kvs.map (fun p => (hashInt p.1, p.2)) ∧ (∀ p ∈ kvs, Value.isInt p.1 p.2 = true) ∧ (kvs.map (·.1)).Nodup ∧ t.plain = true ∧ t.led = !(w.params.followText "set-order") ∧ ((t.mask = 7 ∧ kvs.length ≤ 4) ∨ (t.mask = 31 ∧ kvs.length ≤ 18))
theorem aCs {es : Y3} {t : SetTable} (T : TOk es t) {h : Int} {N : Nat} (hN : N ≤ 10 * (13 + t.mask)) (hf : ¬ Occ t.place (pos t.mask h N).j) (hb : ∀ k, k < N → Occ t.place (pos t.mask h k).j) : t.freeSlot h = some ((pos t.mask h N).j, false) := by
 have e : t.probe (fun _ => h + 1) h (t.probeStart h) = some (.empty (pos t.mask h N).j none) := by
  have := qS (t := t) (f := fun _ => h + 1) (h := h) N 0 (10 * turns t.mask) (by unfold turns; omega) fun k' _ h2 => by
   obtain ⟨i, e⟩ := hb k' (by omega)
   exact ⟨i, lG T.rise e, by simp; omega⟩
  rw [Nat.zero_add] at this
  show probe.go t (fun _ => h + 1) h (10 * turns t.mask) (pos t.mask h 0) = _
  rw [this]
  exact xT (by unfold turns; omega) (qQ T.dum fun i e => hf ⟨i, e⟩)
 unfold SetTable.freeSlot
 rw [e]; rfl
theorem zQ {es : Y3} {t t' : SetTable} {wanted : Nat} {order : Array Nat} (hc : hX (sizeAbove wanted - 1)) (hs : es.size ≤ sizeAbove wanted - 1) (er : t.relaid (es.map (·.1)) wanted = some (t', order)) : coversAll order es.size = true := by
 obtain ⟨owner, e, o⟩ := tZ (mask := sizeAbove wanted - 1) (hashes := es.map (·.1)) hc (by simpa using hs)
 rw [Array.size_map] at o
 have perm := pW o
 unfold SetTable.relaid SetTable.laid at er
 rw [e] at er
 cases er
 unfold coversAll
 rw [List.isPerm_iff]
 simpa [eL] using perm
theorem yL {kvs : List (Int × Value)} {l : List (Int × Value)} (hp : l.Perm (kvs.map fun p => (hashInt p.1, p.2))) : ∃ kvs' : List (Int × Value), l = kvs'.map (fun p => (hashInt p.1, p.2)) ∧ kvs'.Perm kvs := by
 generalize e : (kvs.map fun p => (hashInt p.1, p.2)) = m at hp
 induction hp generalizing kvs with
 | nil => exact ⟨[], rfl, by cases kvs <;> first | exact .refl _ | cases e⟩
 | cons x _ ih =>
  cases kvs with
  | nil => cases e
  | cons k kvs =>
   cases e
   obtain ⟨kvs', h1, h2⟩ := ih rfl
   exact ⟨k :: kvs', by rw [h1]; rfl, h2.cons k⟩
 | swap x y l =>
  cases kvs with
  | nil => cases e
  | cons k kvs =>
   cases kvs with
   | nil => cases e
   | cons k2 kvs => cases e; exact ⟨k2 :: k :: kvs, rfl, .swap _ _ _⟩
 | trans h1 h2 ih1 ih2 =>
  obtain ⟨kvs', a1, a2⟩ := ih2 e
  obtain ⟨kvs'', b1, b2⟩ := ih1 a1.symm
  exact ⟨kvs'', b1, b2.trans a2⟩
theorem rE {i : Int} {v : Value} (h : Value.isInt i v = true) : v.scannable = true := by
 obtain ⟨t, rfl⟩ := Value.isInt_shape h; rfl
theorem aP9 {S : Addr} {kvs : List (Int × Value)} {i : Int} {v : Value} {Q : Bool → Shared → Prop} (hS : lW w s.heap S kvs) (hv : Value.isInt i v = true) (hn : kvs.length < 18)
  (h : ∀ b h' kvs', Heap.SameBut S s.heap h' → lW w h' S kvs' → (if i ∈ kvs.map (·.1) then kvs' = kvs else kvs'.Perm ((i, v) :: kvs)) → Q b { s with heap := h', toks := s.toks + 1 }) :
  wpAny (model prog w) A (setAdd S v) Q E s := by
 obtain ⟨o, es, ep, t, ho, hex, hd, T, ents, keys, nd, hpl, hled, hsz⟩ := hS
 have hlen : es.size = kvs.length := by rw [← Array.length_toList, ents, List.length_map]
 unfold setAdd
 refine wpAny_holding (wpAny_bind ((intKind prog w).pyHash (k := i) hv ?_))
 unfold setAddHashed setAddHashedIn
 have ho' : ({ s with toks := s.toks + 1 } : Shared).heap.get? S = some o := ho
 generalize hs1 : ({ s with toks := s.toks + 1 } : Shared) = s1 at ho'
 have heap1 : s1.heap = s.heap := by rw [← hs1]
 have hend : ∀ b h' kvs', Heap.SameBut S s1.heap h' → lW w h' S kvs' → (if i ∈ kvs.map (·.1) then kvs' = kvs else kvs'.Perm ((i, v) :: kvs)) → Q b { s1 with heap := h' } := by
  rw [← hs1]; exact h
 refine wpAny_holding (wpAny_bind (wpAny_setState_of ho' hd T.fits ?_))
 dsimp only
 have hel : ∀ e ∈ es.toList, ∃ k, Value.isInt k e.2 = true ∧ e.1 = hashInt k := fun e he => by
  rw [ents] at he
  obtain ⟨p, hp, rfl⟩ := List.mem_map.mp he
  exact ⟨p.1, keys p hp, rfl⟩
 have hbs : byScan v es = true := by
  unfold byScan
  rw [rE hv]
  have h1 : es.size < scanBound := by rw [hlen]; unfold scanBound; omega
  rw [decide_eq_true h1]
  simp only [Bool.true_and]
  rw [Array.all_eq_true]
  intro j hj
  obtain ⟨k, hk, _⟩ := hel es[j] (by simp)
  exact rE hk
 rw [hbs, if_pos rfl]
 have hel' : ElemsOf (intKind prog w) es.toList := fun e he => by
  obtain ⟨k, h1, h2⟩ := hel e he
  exact ⟨⟨k, h1, h2⟩, rE h1⟩
 unfold setAddByScan
 refine wpAny_bind (wpAny_bind (wpAny_rule ?_))
 refine wpAny_bind (wpAny_setScan_of (knd := intKind prog w) hv ho' hd T.fits hel' ?_)
 cases hr : List.findIdx? (fun e => (intKind prog w).is i e.2) es.toList with
 | some j =>
  dsimp only
  obtain ⟨hj, hpj, _⟩ := List.findIdx?_eq_some_iff_getElem.mp hr
  have hin : i ∈ kvs.map (·.1) := by
   have hsub : ∀ x, x ∈ es.toList → x ∈ kvs.map (fun p => (hashInt p.1, p.2)) := fun x hx => by rw [ents] at hx; exact hx
   have hm := hsub _ (List.getElem_mem hj)
   obtain ⟨p, hp, e⟩ := List.mem_map.mp hm
   have e2 : p.2 = es.toList[j].2 := by rw [← e]
   rw [← e2] at hpj
   have : p.1 = i := (intKind prog w).inj _ _ _ (keys p hp) hpj
   exact List.mem_map.mpr ⟨p, hp, this⟩
  refine wpAny_pure (wpAny_pure ?_)
  have := hend false s1.heap kvs (Heap.SameBut.refl _ _) ⟨o, es, ep, t, ho', hex, hd, T, ents, keys, nd, hpl, hled, hsz⟩ (by rw [if_pos hin])
  have e : ({ s1 with heap := s1.heap } : Shared) = s1 := by cases s1; rfl
  rw [e] at this; exact this
 | none =>
  dsimp only
  have hin : i ∉ kvs.map (·.1) := fun z => by
   obtain ⟨p, hp, e⟩ := List.mem_map.mp z
   have := List.findIdx?_eq_none_iff.mp hr (hashInt p.1, p.2) (by rw [ents]; exact List.mem_map.mpr ⟨p, hp, rfl⟩)
   have k := keys p hp
   rw [e] at k
   have this : (intKind prog w).is i p.2 = false := this
   rw [show (intKind prog w).is i p.2 = Value.isInt i p.2 from rfl, k] at this
   cases this
  obtain ⟨N, hN, hf, hb⟩ := T.free (hashInt i)
  have hf1 : es.size + 1 ≤ t.mask := by
   rw [hlen]
   rcases hsz with ⟨e, hl⟩ | ⟨e, hl⟩ <;> rw [e] <;> omega
  obtain ⟨ok1, hp⟩ := T.put (x := v) hf hb hf1
  have hL : layNew t es (hashInt i) v = (insertAt es (t.put (pos t.mask (hashInt i) N).j).2 (hashInt i, v), (t.put (pos t.mask (hashInt i) N).j).1, false, false) := by
   unfold layNew
   rw [aCs T hN hf hb]
   dsimp only
   unfold SetTable.orStandIn
   rw [ok1.fits, if_pos rfl]; rfl
  have epl : (t.put (pos t.mask (hashInt i) N).j).1.plain = true := hpl
  have eled : (t.put (pos t.mask (hashInt i) N).j).1.led = t.led := rfl
  have emask : (t.put (pos t.mask (hashInt i) N).j).1.mask = t.mask := rfl
  rw [show (intKind prog w).hash i = hashInt i from rfl, hL]
  dsimp only
  refine wpAny_bind (wpAny_pure ?_)
  rw [epl, if_pos rfl]
  have hbv : hashByValue 8 v = pure true := by obtain ⟨t, rfl⟩ := Value.isInt_shape hv; rfl
  rw [hbv]
  refine wpAny_bind (wpAny_pure ?_)
  rw [if_pos rfl]
  generalize hp0 : (t.put (pos t.mask (hashInt i) N).j).2 = p0 at *
  generalize ht1 : (t.put (pos t.mask (hashInt i) N).j).1 = t1 at *
  generalize he1 : insertAt es p0 (hashInt i, v) = es1 at *
  have ents1 : es1.toList = (kvs.take p0 ++ (i, v) :: kvs.drop p0).map fun p => (hashInt p.1, p.2) := by
   rw [← he1]
   have e : (insertAt es p0 (hashInt i, v)).toList = es.toList.take p0 ++ (hashInt i, v) :: es.toList.drop p0 := by
    simp [insertAt, List.take_of_length_le]
   rw [e, ents]; simp
  have perm1 := yB (l := kvs) (p := p0) (x := (i, v))
  have hsz1 : es1.size = kvs.length + 1 := by
   rw [← Array.length_toList, ents1, List.length_map, perm1.length_eq]; rfl
  have keys1 : ∀ p ∈ (i, v) :: kvs, Value.isInt p.1 p.2 = true := fun p hp' => by
   rcases List.mem_cons.mp hp' with rfl | hp'
   ·exact hv
   ·exact keys p hp'
  have nd1 : (((i, v) :: kvs).map (·.1)).Nodup := List.nodup_cons.mpr ⟨hin, nd⟩
  refine wpAny_bind (wpAny_storeSet_of ho' hd ?_ (fits_of_scanBound (by rw [hsz1]; unfold scanBound; omega)))
  have ho1 := oE (es' := es1) (t' := t1) ho' hd
  have sb1 := Heap.SameBut.update s1.heap S (Obj.putSet es1 t1)
  have efill : t1.fill = kvs.length + 1 := by
   unfold SetTable.fill
   rw [ok1.size, ok1.dum, hsz1]; rfl
  by_cases hfull : t1.tooFull = true
  ·rw [hfull, if_pos (by simp)]
   have h4 : t.mask = 7 ∧ kvs.length = 4 := by
    unfold SetTable.tooFull at hfull
    rw [efill, emask] at hfull
    have hfull := of_decide_eq_true hfull
    rcases hsz with ⟨e, hl⟩ | ⟨e, hl⟩ <;> rw [e] at hfull <;> constructor <;> omega
   have ew : SetTable.grown es1.size = 20 := by rw [hsz1, h4.2]; rfl
   have es32 : sizeAbove 20 = 32 := by decide
   obtain ⟨t', order, er, ok2, perm2, l2, p2, m2⟩ := wC (es := es1) (t := t1) (wanted := 20) (by rw [es32]; exact rC) (by rw [es32, hsz1]; omega)
   have hcov := zQ (by rw [es32]; exact rC) (by rw [es32, hsz1]; omega) er
   have hR : relayAll t1 es1 (SetTable.grown es1.size) = (order.filterMap (es1[·]?), t', false) := by
    unfold relayAll
    rw [ew, er]
    dsimp only
    rw [hcov, ok2.fits, if_pos (by rfl)]
   rw [hR]
   dsimp only
   refine wpAny_bind (wpAny_pure ?_)
   have hsz2 : (order.filterMap (es1[·]?)).size = es1.size := by
    rw [← Array.length_toList, perm2.length_eq, Array.length_toList]
   refine wpAny_bind (wpAny_storeSet_of (s := { s1 with heap := s1.heap.update S (Obj.putSet es1 t1) }) (o := { o with data := .set es1 (ep + 1) t1 }) ho1 rfl ?_ (fits_of_scanBound (by rw [hsz2, hsz1]; unfold scanBound; omega)))
   refine wpAny_pure (wpAny_pure ?_)
   rw [ents1] at perm2
   obtain ⟨kvs2, e2, pk⟩ := yL perm2
   have ho2 := oE (es' := order.filterMap (es1[·]?)) (t' := t') ho1 rfl
   have sb2 := Heap.SameBut.update (s1.heap.update S (Obj.putSet es1 t1)) S (Obj.putSet (order.filterMap (es1[·]?)) t')
   have pk2 := pk.trans perm1
   refine hend true _ kvs2 (sb1.trans sb2) ⟨_, _, _, t', ho2, hex, rfl, ok2, e2, fun p hp' => keys1 p (pk2.subset hp'), (pk2.map (·.1)).nodup_iff.mpr nd1, by rw [p2]; exact epl, by rw [l2, eled]; exact hled, .inr ⟨by rw [m2, es32], ?_⟩⟩ (by rw [if_neg hin]; exact pk2)
   have := pk2.length_eq
   simp at this; omega
  ·rw [Bool.eq_false_iff.mpr hfull, if_neg (by simp)]
   refine wpAny_pure (wpAny_pure (hend true _ _ sb1 ⟨_, _, _, _, ho1, hex, rfl, ok1, ents1, fun p hp' => keys1 p (perm1.subset hp'), (perm1.map (·.1)).nodup_iff.mpr nd1, epl, by rw [eled]; exact hled, ?_⟩ (by rw [if_neg hin]; exact perm1)))
   have hlen' := perm1.length_eq
   simp at hlen'
   unfold SetTable.tooFull at hfull
   rw [efill, emask] at hfull
   have hfull : ¬ ((kvs.length + 1) * 5 ≥ t.mask * 3) := fun z => hfull (decide_eq_true z)
   rw [emask]
   rcases hsz with ⟨e, hl⟩ | ⟨e, hl⟩
   ·rw [e] at hfull
    refine .inl ⟨e, ?_⟩
    rw [perm1.length_eq]; simp; omega
   ·refine .inr ⟨e, ?_⟩
    rw [perm1.length_eq]; simp; omega
end
end SU
end
section
namespace SU
open PySem PySem.SetTable ST
section
variable {prog : Program} {w : World} {A : Around} {E : Y9} {s : Shared}
theorem lW.keep {h h' : Heap} {S : Addr} {kas : List (Int × Value)} (x : lW w h S kas) (hk : ∀ o, h.get? S = some o → h'.get? S = some o) : lW w h' S kas := by
 obtain ⟨o, es, ep, t, ho, r⟩ := x
 exact ⟨o, es, ep, t, hk o ho, r⟩
theorem lW.len {h : Heap} {S : Addr} {kas : List (Int × Value)} (x : lW w h S kas) : kas.length ≤ 18 := by
 obtain ⟨o, es, ep, t, _, _, _, _, _, _, _, _, _, r⟩ := x
 rcases r with ⟨_, r⟩ | ⟨_, r⟩ <;> omega
def sE (key : Nat → Int) (i : Nat) (kas : List (Int × Value)) : Prop := (∀ k, k ∈ kas.map (·.1) ↔ ∃ i', i' < i ∧ key i' = k) ∧ kas.length ≤ i
theorem sE.zero {key : Nat → Int} : sE key 0 [] := ⟨fun ks => ⟨fun z => by simp at z, fun ⟨i, h, _⟩ => by omega⟩, by simp⟩
theorem sE.step {key : Nat → Int} {i : Nat} {v : Value} {kas kas' : List (Int × Value)} (d : sE key i kas) (h : if key i ∈ kas.map (·.1) then kas' = kas else kas'.Perm ((key i, v) :: kas)) : sE key (i + 1) kas' := by
 obtain ⟨d1, d3⟩ := d
 by_cases hin : key i ∈ kas.map (·.1)
 ·rw [if_pos hin] at h
  subst h
  refine ⟨fun ks => ?_, by omega⟩
  rw [d1 ks]
  constructor
  ·rintro ⟨i', h1, h2⟩; exact ⟨i', by omega, h2⟩
  ·rintro ⟨i', h1, h2⟩
   by_cases q : i' = i
   ·subst q; rw [← h2]; exact (d1 _).mp hin
   ·exact ⟨i', by omega, h2⟩
 ·rw [if_neg hin] at h
  refine ⟨fun ks => ?_, by have := h.length_eq; simp at this; omega⟩
  rw [(h.map (·.1)).mem_iff, List.map_cons, List.mem_cons, d1 ks]
  constructor
  ·rintro (h1 | ⟨i', h1, h2⟩)
   ·exact ⟨i, by omega, h1.symm⟩
   ·exact ⟨i', by omega, h2⟩
  ·rintro ⟨i', h1, h2⟩
   by_cases q : i' = i
   ·subst q; exact .inl h2.symm
   ·exact .inr ⟨i', by omega, h2⟩
theorem aOp {R : Result → Shared → Prop} {I : Addr} {fp wr : Y2} {G : Array GenState → Array GenState → Prop} {n : Nat} {P : Nat → Value → Prop} {St : Nat → Shared → Prop}
  (W : WalksS prog w A.in1 I fp wr G n P St) (S : Addr) (hSf : S ∉ fp) (key : Nat → Int) (hval : ∀ i v, P i v → Value.isInt (key i) v = true) (hb : n ≤ 18) :
  ∀ (k i : Nat) (s : Shared) (kas : List (Int × Value)), n - i = k → i ≤ n → St i s → lW w s.heap S kas → sE key i kas →
   (∀ s' kas', Moved (S :: wr) G s s' → lW w s'.heap S kas' → sE key n kas' → R (.ok (.ret .none)) s') →
   codeAny (model prog w) A (.builtin "set.update.loop" ⟨[.ref S, .ref I], []⟩) R s := by
 have hSw : S ∉ wr := fun h => hSf (W.sub _ h)
 have hsub : ∀ b ∈ wr, b ∈ S :: wr := fun b hb => List.mem_cons_of_mem _ hb
 intro k
 induction k with
 | zero =>
  intro i s kas hk hi hst hS hD hR
  have hin : i = n := by omega
  subst hin
  refine codeAny_builtin PyProof.Rows.F.entry_set_update_loop ?_
  rw [Around.under_plainId PyProof.Rows.F.plain_set_update_loop _]
  show wpAny _ A.in1 (pyNext (.ref I) >>= _) _ _ s
  refine wpAny_bind (W.done s _ _ hst fun s' hm => ?_)
  show wpAny _ A.in1 (ret Value.none) _ _ s'
  exact wpAny_pure (hR s' kas (hm.mono hsub) (hS.keep fun o e => hm.heap S o hSw e) hD)
 | succ k ih =>
  intro i s kas hk hi hst hS hD hR
  have hlt : i < n := by omega
  refine codeAny_builtin PyProof.Rows.F.entry_set_update_loop ?_
  rw [Around.under_plainId PyProof.Rows.F.plain_set_update_loop _]
  show wpAny _ A.in1 (pyNext (.ref I) >>= _) _ _ s
  refine wpAny_bind (W.item i s _ _ hlt hst fun v s' hP hst' hm => ?_)
  have hv := hval i v hP
  have hS' : lW w s'.heap S kas := hS.keep fun o e => hm.heap S o hSw e
  show wpAny _ A.in1 (holding [v] (setAdd S v) >>= _) _ _ s'
  refine wpAny_bind (wpAny_holding (aP9 hS' hv (by have := hD.2; omega) fun b h' kas' sb hS2 hc => ?_))
  refine wpAny_pure ⟨plainId_quiet PyProof.Rows.F.plain_set_update_loop _, ih (i + 1) _ kas' (by omega) hlt (W.frame _ s' _ _ hst' (Nat.le_add_right _ _) fun b hb o e => ?_) hS2 (hD.step hc) fun s'' kas'' hm'' hS'' hD'' => ?_⟩
  ·rw [sb.2 b (fun h : b = S => hSf (by rw [← h]; exact hb))]; exact e
  ·refine hR s'' kas'' (Moved.trans W.gtrans ((hm.mono hsub).then_heap (Nat.le_add_right _ _) fun b o hb e => ?_) hm'') hS'' hD''
   rw [sb.2 b (fun h : b = S => hb (by rw [h]; exact List.mem_cons_self))]; exact e
theorem aLj {h : Heap} {S : Addr} {o : Obj} (ho : h.get? S = some o) (he : o = { cls := .type "set", dict := none, data := .set #[] 0 (.fresh 0 0 (!(w.params.followText "set-order"))) }) : lW w h S [] := by
 subst he
 exact ⟨_, #[], 0, _, ho, ⟨rfl, rfl, rfl⟩, rfl, ⟨aAp, fun i k a b e => by simp [SetTable.fresh] at e, rfl, rfl, by simp, fun i e j e1 => by simp at e1⟩, rfl, fun p hp => by simp at hp, by simp, rfl, rfl, .inl ⟨rfl, by simp⟩⟩
theorem call_setI {l : Addr} {items : Array Value} {key : Nat → Int} {Q : Y9}
  (hh : A.handled = none) (hl : s.heap.IsList l items) (hi : ∀ (i : Nat) (v : Value), items[i]? = some v → Value.isInt (key i) v = true) (hb : items.size ≤ 18)
  (h : ∀ (h' : Heap) (tk : Nat) (kas : List (Int × Value)), lW w h' s.heap.objs.size kas → sE key items.size kas →
   (∀ b o, b < s.heap.objs.size → s.heap.get? b = some o → h'.get? b = some o) → Q (.ref s.heap.objs.size) { s with heap := h', toks := tk }) :
  wpAny (model prog w) A (call (.type "set") [.ref l]) Q E s := by
 obtain ⟨c, tl, hmro⟩ := F.called_set.mro
 have hmade := F.called_set.made
 have hsub := F.called_set.sub
 refine wpAny_call (codeAny_of_tree ?_)
 show wpAny _ _ (callAny (.type "set") _) _ _ _
 refine wpAny_pure ⟨Code.quiet_builtin _ (by decide +kernel), codeAny_builtin F.entry_type_call ?_⟩
 rw [Around.under_plain (weight_type_call_type "set" [.ref l] []) rfl]
 have h1 := F.called_set.notType
 have h2 := F.called_set.canCreate
 have hct := F.typeCall_set_1 (.ref l)
 repeat (any_goals (first | assumption | wp_step))
 generalize hfr : (SetTable.fresh 0 0 (!(w.params.followText "set-order"))) = fr
 refine codeAny_mono (vV (.ref l) (E := E) (Q₁ := fun obj s₁ => obj = .ref s.heap.objs.size ∧ s₁ = { s with heap := s.heap.push { cls := .type "set", dict := none, data := .set #[] 0 fr } }) (by rw [hfr]; exact ⟨rfl, rfl⟩)) fun r s₁ hr => ?_
 cases r with
 | error e => exact hr
 | ok fl =>
  cases fl with
  | ret obj =>
   obtain ⟨rfl, rfl⟩ := hr
   have hS : (s.heap.push { cls := .type "set", dict := none, data := .set #[] 0 fr }).get? s.heap.objs.size = some { cls := .type "set", dict := none, data := .set #[] 0 fr } := Heap.get?_push_size _ rfl
   have hT : Shared.TypeIs { s with heap := s.heap.push { cls := .type "set", dict := none, data := .set #[] 0 fr } } (.ref s.heap.objs.size) "set" := ⟨_, hS, rfl⟩
   have hli := F.called_set.init.lookup
   have hbi := F.called_set.init.bind (.ref s.heap.objs.size)
   repeat (any_goals (first | assumption | wp_step))
   refine codeAny_mono (codeAny_call_builtin (R := wants (fun r s₂ => r = .none ∧ ∃ h' tk kas, s₂ = { s with heap := h', toks := tk } ∧ lW w h' s.heap.objs.size kas ∧ sE key items.size kas ∧
     (∀ b o, b < s.heap.objs.size → s.heap.get? b = some o → h'.get? b = some o)) E) F.called_set.init.plain F.entry_set_init (check_set_init_1 hT ?_)) fun r₂ s₂ hr₂ => ?_
   ·obtain ⟨ol, hol, hcl, nl, hdl⟩ := hl
    obtain ⟨ocls, odict, odata, oslots⟩ := ol
    simp only at hcl hdl
    subst hcl; subst hdl
    have hol' : (s.heap.push { cls := .type "set", dict := none, data := .set #[] 0 fr }).get? l = some { cls := .type "list", dict := odict, data := .seq items nl, slots := oslots } := Heap.get?_push_of_some _ hol
    have hsls := F.sub_list_set
    have hslf := F.sub_list_frozenset
    have hne : (Value.type "list" == Value.type "dict") = false := by decide
    have hl1 : (s.heap.push { cls := .type "set", dict := none, data := .set #[] 0 fr }).IsList l items := ⟨_, hol', rfl, nl, rfl⟩
    have hfits : fr.fits 0 = true := by rw [← hfr]; rfl
    have hfr' : fr = (SetTable.fresh 0 0 (!(w.params.followText "set-order"))) := hfr.symm
    unfold Builtin.«set.__init__» noKeywords Builtin.Frozenset.updateFrom
    generalize hPI : pyIter = PI
    subst hfr'
    wp_walk
    subst hPI
    refine wpAny_pyIter_list hl1 ?_
    refine wpAny_bind (wpAny_runValue ?_)
    have hlS : l < s.heap.objs.size := Heap.lt_size hol
    have hh3 : A.in1.in1.in1.handled = none := by simp [hh]
    have hneI : l ≠ (s.heap.push { cls := .type "set", dict := none, data := .set #[] 0 (.fresh 0 0 (!(w.params.followText "set-order"))) }).objs.size := by
     rw [Heap.size_push]; exact Nat.ne_of_lt (Nat.lt_succ_of_lt hlS)
    have hSf : s.heap.objs.size ∉ [(s.heap.push { cls := .type "set", dict := none, data := .set #[] 0 (.fresh 0 0 (!(w.params.followText "set-order"))) }).objs.size, l] := by
     rw [Heap.size_push]; simp only [List.mem_cons, List.mem_singleton, List.not_mem_nil, or_false, not_or]
     exact ⟨Nat.ne_of_lt (Nat.lt_succ_self _), Nat.ne_of_gt hlS⟩
    refine aOp ((Walks.list hh3 _ l hneI items).toS) s.heap.objs.size hSf key hi hb (items.size - 0) 0 _ [] (by omega) (Nat.zero_le _)
     ⟨⟨_, Heap.get?_push_size _ rfl, rfl, rfl⟩, (hl1.push _)⟩ ?hS0 sE.zero ?hR
    case hS0 =>
     exact aLj (Heap.get?_push_of_some _ hS) rfl
    case hR =>
     intro s' kas hm hS' hD'
     obtain ⟨h', g', d', tk', os'⟩ := s'
     have eg : g' = s.gens := hm.gens
     have ed : d' = s.drawn := hm.drawn
     have eo : os' = s.os := hm.os
     subst eg; subst ed; subst eo
     show wpAny _ _ _ _ _ _
     refine wpAny_pure ?_
     show wpAny _ _ (ret Value.none) _ _ _
     refine wpAny_pure ⟨rfl, h', tk', kas, rfl, hS', hD', fun b o hb e => ?_⟩
     have hb1 : b ≠ s.heap.objs.size := Nat.ne_of_lt hb
     have hb2 : b ≠ (s.heap.push { cls := .type "set", dict := none, data := .set #[] 0 (.fresh 0 0 (!(w.params.followText "set-order"))) }).objs.size := by
      rw [Heap.size_push]; exact Nat.ne_of_lt (Nat.lt_succ_of_lt hb)
     exact hm.heap b o (by simp only [List.mem_cons, List.mem_singleton, List.not_mem_nil, or_false, not_or]; exact ⟨hb1, hb2⟩) (Heap.get?_push_of_some _ (Heap.get?_push_of_some _ e))
   ·cases r₂ with
    | error e => exact hr₂
    | ok fl₂ =>
     cases fl₂ with
     | ret r =>
      obtain ⟨rfl, h', tk, kas, rfl, hS', hD', hk'⟩ := hr₂
      repeat (any_goals (first | assumption | wp_step))
      exact h _ _ _ hS' hD' hk'
     | _ => exact hr₂.elim
  | _ => exact hr.elim
end
end SU
end
section
namespace SU
open PySem PySem.W PyProof.Rows ST
section
variable {prog : Program} {w : World} {A : Around} {E : Y9} {s : Shared}
theorem aAx : ∀ {kvs : List (Int × Value)}, (∀ p ∈ kvs, Value.isInt p.1 p.2 = true) → IntsAre (kvs.map (·.2)) (kvs.map (·.1))
 | [], _ => .nil
 | p :: kvs, h => by
  obtain ⟨i, v⟩ := p
  obtain ⟨t, e⟩ := Value.isInt_shape (h (i, v) List.mem_cons_self)
  have e : v = .int i t := e
  subst e
  exact .cons _ _ (aAx fun q hq => h q (List.mem_cons_of_mem _ hq))
theorem aFg {α β : Type} {f : α → β} {l : List β} {xs : List α} (hp : l.Perm (xs.map f)) : ∃ ys : List α, l = ys.map f ∧ ys.Perm xs := by
 generalize e : xs.map f = m at hp
 induction hp generalizing xs with
 | nil => exact ⟨[], rfl, by cases xs <;> first | exact .refl _ | cases e⟩
 | cons x _ ih =>
  cases xs with
  | nil => cases e
  | cons k xs =>
   cases e
   obtain ⟨ys, h1, h2⟩ := ih rfl
   exact ⟨k :: ys, by rw [h1]; rfl, h2.cons k⟩
 | swap x y l =>
  cases xs with
  | nil => cases e
  | cons k xs =>
   cases xs with
   | nil => cases e
   | cons k2 xs => cases e; exact ⟨k2 :: k :: xs, rfl, .swap _ _ _⟩
 | trans h1 h2 ih1 ih2 =>
  obtain ⟨ys, a1, a2⟩ := ih2 e
  obtain ⟨zs, b1, b2⟩ := ih1 a1.symm
  exact ⟨zs, b1, b2.trans a2⟩
theorem sorted_setI {S : Addr} {kas : List (Int × Value)} {Q : Y9} (hh : A.handled = none) (hS : lW w s.heap S kas)
  (h : ∀ (ns' : Y0) (vs : Y1) (D : Addr) (e : Nat) (h' : Heap) (tk : Nat), IntsAre vs ns' → ns'.Perm (kas.map (·.1)) → ns'.Pairwise (· ≤ ·) → h'.get? D = some (seqObj "list" vs.toArray e) → s.heap.objs.size ≤ D → (∀ b o, s.heap.get? b = some o → h'.get? b = some o) →
   Q (.ref D) { s with heap := h', toks := tk }) : wpAny (model prog w) A (call (.builtin "sorted") [.ref S]) Q E s := by
 have hlen := hS.len
 obtain ⟨o, es, ep, t, ho, hex, hd, T, ents, keys, nd, hpl, hled, hsz⟩ := hS
 have hlen2 : es.size = kas.length := by rw [← Array.length_toList, ents, List.length_map]
 refine Calls.call_function_entry kind_sorted plain_sorted entry_sorted (args_sorted1 _) ?_
 unfold Builtin.«sorted»
 refine wpAny_bind (m := checkCount "sorted" 1 1 _) (wpAny_pure ?_)
 refine wpAny_bind (xX (by simpa using hh) ho hex hd T hpl hled (by rw [hlen2, sizeLine_eq]; omega) fun us s1 pk hm hsz => ?_)
 rw [ents, List.map_map] at pk
 have pk : us.Perm (kas.map (·.2)) := pk
 obtain ⟨kas1, rfl, pk1⟩ := aFg (f := fun p : Int × Value => p.2) pk
 have hl1 : kas1.length = kas.length := pk1.length_eq
 have hI : IntsAre (kas1.map (·.2)) (kas1.map (·.1)) := aAx fun p hp => keys p (pk1.subset hp)
 refine wpAny_bind (wpAny_newList ?_ (by rw [sizeLine_eq]; simp; omega))
 have hoL : (s1.heap.push (seqObj "list" (kas1.map (·.2)).toArray 0)).get? s1.heap.objs.size = some (seqObj "list" (kas1.map (·.2)).toArray 0) := Heap.get?_push_size _ rfl
 refine wpAny_bind (wpAny_holding (wpAny_call_entry slot_list_sort ⟨_, hoL, rfl⟩ entry_list_sort ?body (args_list_sort _)))
 case body =>
  refine list_sort_tree (s := { s1 with heap := s1.heap.push (seqObj "list" (kas1.map (·.2)).toArray 0) }) hoL hI (by simp; omega) fun out ns' hout pn up => ?_
  refine ⟨_, rfl, wpAny_pure ⟨_, rfl, ?_⟩⟩
  obtain ⟨h1, g1, d1, t1, o1⟩ := s1
  have eg : g1 = s.gens := hm.gens
  have ed : d1 = s.drawn := hm.drawn
  have eo : o1 = s.os := hm.os
  subst eg; subst ed; subst eo
  obtain ⟨e2, he2⟩ : ∃ e2, (sortedHeap (h1.push (seqObj "list" (kas1.map (·.2)).toArray 0)) h1.objs.size (kas1.map (·.2)) out).get? h1.objs.size = some (seqObj "list" out e2) := by
   unfold sortedHeap
   obtain ⟨e1, ho1⟩ : ∃ e1, ((h1.push (seqObj "list" (kas1.map (·.2)).toArray 0)).update h1.objs.size (Obj.mapSeq fun _ => #[])).get? h1.objs.size = some (seqObj "list" #[] e1) := ⟨_, get?_update_seq hoL (fun _ => #[])⟩
   exact ⟨_, get?_update_seq (Heap.get?_push_of_some _ (Heap.get?_push_of_some _ ho1)) fun _ => out⟩
  refine h ns' out.toList h1.objs.size e2 _ t1 hout (pn.trans (pk1.map (·.1))) up (by simpa using he2) hsz fun b o e => ?_
  have e' : h1.get? b = some o := hm.heap b o (by simp) e
  have hne' : h1.objs.size ≠ b := Ne.symm (Nat.ne_of_lt (Heap.lt_size e'))
  unfold sortedHeap
  rw [Heap.get?_update_other _ _ hne']
  refine Heap.get?_push_of_some _ (Heap.get?_push_of_some _ ?_)
  rw [Heap.get?_update_other _ _ hne']
  exact Heap.get?_push_of_some _ e'
end
end SU
end
section
namespace VL
open PySem L2
def kH : List D → Option (LI)
 | [] => some []
 | d :: ds => match d with
  | .tup es => (match bY es, kH ds with | some k, some ks => some (k :: ks) | _, _ => none)
  | _ => none
def pF (k : Y0) : LI → LI
 | [] => [k]
 | x :: xs => if ST.ltL k x = true then k :: x :: xs else if k = x then x :: xs else x :: pF k xs
def iA (ks : LI) : LI := ks.foldr pF []
def TI (k : Y0) : D := .tup (k.map .int)
def kSS : List (D × Bool) → R (D × Bool)
 | [(.lst _ ds, _)] => (match kH ds with
  | some ks => if decide (ks.length ≤ 18) && ks.all (fun k => !k.isEmpty) then .ok (.lst true ((iA ks).map TI), true) else .bad
  | none => .bad)
 | _ => .bad
def aGl : D × Bool → D × Bool → R (D × Bool) := fun x y => match x.1, y.1 with
 | .tup ds, .tup es => (match bY ds, bY es with | some a, some b => .ok (.bl (!ST.ltL b a), true) | _, _ => .bad)
 | _, _ => .bad
def aCw (d : D) : Option D := match d with | .lst true ds => if D.bK ds && decide (ds.length < 1000000) then some (.lst true ds.reverse) else none | _ => none
def aE7 (i : Nat) : aU := fun ρ => match (getD ρ i).bind aCw with | some d => .next (putD ρ i d) | none => .bad
end VL
end
section
namespace VL
open PySem PySem.Spec PyProof.Rows L2
abbrev UpL (xs : LI) : Prop := xs.Pairwise fun x y => ST.ltL x y = true
theorem qT {k y : Y0} : ∀ {xs : LI}, y ∈ pF k xs ↔ y = k ∨ y ∈ xs
 | [] => by simp [pF]
 | x :: xs => by
  unfold pF
  by_cases h1 : ST.ltL k x = true
  ·rw [if_pos h1]; simp
  ·rw [if_neg h1]
   by_cases h2 : k = x
   ·rw [if_pos h2]; subst h2; simp
   ·rw [if_neg h2, List.mem_cons, qT (xs := xs), List.mem_cons]
    constructor
    ·rintro (h | h | h)
     ·exact .inr (.inl h)
     ·exact .inl h
     ·exact .inr (.inr h)
    ·rintro (h | h | h)
     ·exact .inr (.inl h)
     ·exact .inl h
     ·exact .inr (.inr h)
theorem aAl {k : Y0} : ∀ {xs : LI}, UpL xs → UpL (pF k xs)
 | [], _ => by simp [pF]
 | x :: xs, h => by
  obtain ⟨h1, h2⟩ := List.pairwise_cons.mp h
  unfold pF
  by_cases q1 : ST.ltL k x = true
  ·rw [if_pos q1]
   refine List.pairwise_cons.mpr ⟨fun y hy => ?_, h⟩
   rcases List.mem_cons.mp hy with rfl | hy
   ·exact q1
   ·exact ST.ltL_tr _ _ _ q1 (h1 y hy)
  ·rw [if_neg q1]
   by_cases q2 : k = x
   ·rw [if_pos q2]; exact h
   ·rw [if_neg q2]
    refine List.pairwise_cons.mpr ⟨fun y hy => ?_, aAl h2⟩
    rcases qT.mp hy with rfl | hy
    ·rcases ST.ltL_tot _ _ q2 with z | z
     ·exact absurd z q1
     ·exact z
    ·exact h1 y hy
theorem pU : ∀ ks : LI, UpL (iA ks)
 | [] => List.Pairwise.nil
 | k :: ks => aAl (pU ks)
theorem oP {y : Y0} : ∀ {ks : LI}, y ∈ iA ks ↔ y ∈ ks
 | [] => by simp [iA]
 | k :: ks => by
  show y ∈ pF k (iA ks) ↔ _
  rw [qT, oP (ks := ks), List.mem_cons]
theorem aD9 : ∀ {xs ys : LI}, UpL xs → UpL ys → (∀ z, z ∈ xs ↔ z ∈ ys) → xs = ys
 | [], [], _, _, _ => rfl
 | [], y :: ys, _, _, h => by have := (h y).mpr List.mem_cons_self; cases this
 | x :: xs, [], _, _, h => by have := (h x).mp List.mem_cons_self; cases this
 | x :: xs, y :: ys, h1, h2, h => by
  obtain ⟨p1, p2⟩ := List.pairwise_cons.mp h1
  obtain ⟨q1, q2⟩ := List.pairwise_cons.mp h2
  have e : x = y := by
   rcases List.mem_cons.mp ((h x).mp List.mem_cons_self) with e | e
   ·exact e
   ·rcases List.mem_cons.mp ((h y).mpr List.mem_cons_self) with e' | e'
    ·exact e'.symm
    ·have := ST.ltL_tr _ _ _ (p1 y e') (q1 x e)
     rw [ST.ltL_irr] at this; cases this
  subst e
  congr 1
  refine aD9 p2 q2 fun z => ?_
  constructor
  ·intro hz
   rcases List.mem_cons.mp ((h z).mp (List.mem_cons_of_mem _ hz)) with e | e
   ·subst e; have := p1 _ hz; rw [ST.ltL_irr] at this; cases this
   ·exact e
  ·intro hz
   rcases List.mem_cons.mp ((h z).mpr (List.mem_cons_of_mem _ hz)) with e | e
   ·subst e; have := q1 _ hz; rw [ST.ltL_irr] at this; cases this
   ·exact e
section
variable {X : Cx} {W : XW} {e : Expr} {pos : Pos}
def sM (rs : Y7) : List V := rs.map fun p => V.ref p.2
def rSS (K : FG) : List V → Hp → VK → Prop := fun vs H Q => ∃ l rs, vs = [.ref l] ∧ SqL K H l (sM rs) ∧ (∀ p ∈ rs, SqT K H p.2 (p.1.map V.int)) ∧ rs.length ≤ 18 ∧ (∀ p ∈ rs, p.1 ≠ []) ∧
 ∀ p rs', H p = none → rs'.map (·.1) = iA (rs.map (·.1)) → (∀ q ∈ rs', q ∈ rs) → Q (.ref p) (upd H p (.lst (sM rs')))
theorem xS {prog : Program} {w : World} : ∀ {ns : Y0} {us : Y1}, Vals (ns.map V.int) us → ItemsAre (intKind prog w) ns us
 | [], us, r => by rw [List.map_nil] at r; cases r; exact .nil
 | n :: ns, us, r => by
  rw [List.map_cons] at r
  cases r with
  | cons h t =>
   obtain ⟨t', rfl⟩ := h
   exact .cons (by simp [intKind, Value.isInt]) (xS t)
theorem sV : ∀ {rs : Y7} {us : Y1}, Vals (sM rs) us → us = ST.refs rs
 | [], us, r => by cases r; rfl
 | p :: rs, us, r => by
  have r : Vals (V.ref p.2 :: sM rs) us := r
  cases r with
  | cons h t => rw [sV t]; cases h; rfl
theorem tS : ∀ {rs : Y7}, Vals (sM rs) (ST.refs rs)
 | [] => .nil
 | p :: rs => .cons rfl tS
theorem yI {k : Nat} {t : TA} {p p2 pos2 : Pos} (hr : Room k X.A) (hc : X.calm = true) (hm1 : X.mg "sorted" = none) (hm2 : X.mg "set" = none) (ha : PA X [e] t) (hg1 : Gl X "sorted" := by rfl) (hg2 : Gl X "set" := by rfl)
  (hs1 : starEach [.Call (.Name "set" p2) [e] [] pos2] X.env = (false, eval (.Call (.Name "set" p2) [e] [] pos2) X.env) :: starEach [] X.env := by rfl)
  (hs2 : starEach [e] X.env = (false, eval e X.env) :: starEach [] X.env := by rfl) (hpl1 : (backTo pos (starEach [] X.env)).any (·.1) = false := by rfl) (hpl2 : (backTo pos2 (starEach [] X.env)).any (·.1) = false := by rfl)
  (hb0 : backTo pos (starEach [] X.env) = [] := by rfl)
  (hv1 : bootBuiltins "sorted" = some (.builtin "sorted") := by decide +kernel) (hv2 : bootBuiltins "set" = some (.type "set") := by decide +kernel) :
  PE X (.Call (.Name "sorted" p) [.Call (.Name "set" p2) [e] [] pos2] [] pos) (tCB (rSS X.K) t) := by
 intro pins s σ H Q I h
 refine wpAny_Call_Name_kw (iV I hg1 hm1 hv1 ?_ (by decide) (by decide))
 refine PyProof.Rows.callWith_builtin1 ?_ hs1 hpl1
 rw [hs1]
 show wpAny _ _ (spliced ((false, eval (.Call (.Name "set" p2) [e] [] pos2) X.env) :: backTo pos (starEach [] X.env))) _ _ s
 refine Calls.spliced_cons ?_
 refine wpAny_Call_Name_kw (iV I hg2 hm2 hv2 ?_ (by decide) (by decide))
 refine PyProof.Rows.callWith_type1 (thn (ha pos2 pins s σ H _ I h) fun us s1 ⟨vs, H1, I1, r1, q1⟩ => ?_) hs2 hpl2
 obtain ⟨l, rs, rfl, hl, ht, hlen, hne, q⟩ := q1
 obtain ⟨u, rfl, ru⟩ := vals1 r1
 cases ru
 obtain ⟨its, rv, pl, hz⟩ := I1.list hl
 have eits := sV rv
 subst eits
 have hkey : ∀ p ∈ rs, IsTupleKey (intKind X.prog X.w) s1.heap p.1 p.2 := fun p hp => by
  obtain ⟨its, r, ⟨o, ho, hc, n, hd⟩, _⟩ := I1.tuple (ht p hp)
  exact ⟨o, _, n, ho, hc, hd, xS (by simpa using r)⟩
 have hsz : (ST.refs rs).toArray.size = rs.length := by simp [ST.refs]
 refine ST.call_setT (key := fun i => ((rs[i]?).getD ([], 0)).1) (adr := fun i => ((rs[i]?).getD ([], 0)).2) (I1.ok.hd hc) (fun B hB => by have := hr.un; omega) pl.isList (fun i v e => ?_) (fun i hi => ?_) (by rw [hsz]; exact hlen) fun h' tk kas hS hD keep => ?_
 ·simp [ST.refs] at e
  obtain ⟨a, b, e1, e2⟩ := e
  rw [e1, ← e2]; rfl
 ·rw [hsz] at hi
  rw [List.getElem?_eq_getElem hi]
  exact hkey _ (List.getElem_mem hi)
 ·rw [hsz] at hD
  rw [hb0]
  refine Calls.spliced_nil ?_
  have hin : ∀ p ∈ kas, p ∈ rs := fun p hp => by
   obtain ⟨i, hi, e⟩ := hD.2.1 p hp
   dsimp only at e
   rw [List.getElem?_eq_getElem hi] at e
   rw [e]; exact List.getElem_mem hi
  refine ST.sorted_set (s := { s1 with heap := h', toks := tk }) (I1.ok.hd hc) hS (fun p hp => hne p (hin p hp)) fun kas' D ep h2 tk2 hp hu hD2 hsz2 _ keep2 => ?_
  obtain ⟨oS, _, _, _, hoS, _⟩ := hS
  have hlt : s1.heap.objs.size ≤ D := Nat.le_trans (Nat.le_of_lt (Heap.lt_size hoS)) hsz2
  have k2 : ∀ b u, s1.heap.get? b = some u → h2.get? b = some u := fun b u e => keep2 b u (keep b u (Heap.lt_size e) e)
  refine ⟨.ref D, upd H1 D (.lst (sM kas')), I1.laid (t' := tk2) (o := .lst (sM kas')) k2 hlt ?_, rfl, q D kas' (I1.hok.fresh hlt) ?_ fun p hp' => hin p (hp.mem_iff.mp hp')⟩
  ·refine ⟨?_, ST.refs kas', ep, tS, hD2⟩
   have e1 := hp.length_eq
   have e2 := hD.2.2
   refine gG ?_
   simp [sM]; omega
  ·refine aD9 ?_ (pU _) fun z => ?_
   ·exact List.pairwise_map.mpr hu
   ·rw [oP, (hp.map (·.1)).mem_iff, hD.1 z]
    constructor
    ·rintro ⟨i, hi, e⟩
     dsimp only at e
     rw [List.getElem?_eq_getElem hi] at e
     rw [← e]; exact List.mem_map_of_mem (List.getElem_mem hi)
    ·intro hz'
     obtain ⟨p, hp', e⟩ := List.mem_map.mp hz'
     obtain ⟨i, hi, e'⟩ := List.getElem_of_mem hp'
     exact ⟨i, hi, by dsimp only; rw [List.getElem?_eq_getElem hi]; show rs[i].1 = z; rw [e', e]⟩
theorem sY {K : FG} {F H : Hp} (hs : aW F H) : ∀ (ds : List D) {ks : LI} {xs : List V} {fp : Y2}, kH ds = some ks → aG K F H ds xs fp → ∃ rs : Y7, rs.map (·.1) = ks ∧ xs = sM rs ∧ ∀ p ∈ rs, Own K F H (TI p.1) (.ref p.2) []
 | [], ks, xs, fp, e, o => by
  unfold kH at e; cases e
  unfold aG at o
  exact ⟨[], rfl, o.1, fun p hp => by cases hp⟩
 | d :: ds, ks, xs, fp, e, o => by
  unfold kH at e
  cases d <;> try cases e
  rename_i es
  dsimp only at e
  cases q1 : bY es with
  | none => rw [q1] at e; cases e
  | some k =>
   cases q2 : kH ds with
   | none => rw [q1, q2] at e; cases e
   | some ks' =>
    rw [q1, q2] at e
    have e : some (k :: ks') = some ks := e
    cases e
    unfold aG at o
    obtain ⟨v, r, f1, f2, e1, o1, o2, e2⟩ := o
    obtain ⟨rs, h1, h2, h3⟩ := sY hs ds q2 o2
    unfold Own at o1
    obtain ⟨_, a, ys, ev, hq, ho⟩ := o1
    have ey := dZ es q1 ho
    refine ⟨(k, a) :: rs, by rw [List.map_cons, h1], by rw [e1, h2, ev]; rfl, fun p hp => ?_⟩
    rcases List.mem_cons.mp hp with rfl | hp
    ·unfold TI Own
     exact ⟨rfl, a, ys, rfl, hq, by rw [ey]; exact nW k⟩
    ·exact h3 p hp
theorem yA : ∀ ns : Y0, bY (ns.map D.int) = some ns
 | [] => rfl
 | n :: ns => by
  show (bY (ns.map D.int)).map (n :: ·) = _
  rw [yA ns]; rfl
theorem aAh {K : FG} {F H : Hp} : ∀ (rs : Y7), (∀ p ∈ rs, Own K F H (TI p.1) (.ref p.2) []) → aG K F H ((rs.map (·.1)).map TI) (sM rs) []
 | [], _ => aG.nil
 | p :: rs, h => aG.cons (h p List.mem_cons_self) (aAh rs fun q hq => h q (List.mem_cons_of_mem _ hq))
theorem aMd {K : FG} : OpA K kSS (rSS K) := by
 intro F0 H0 F H xs vs fa Q gr a n k h
 match xs, h, a with
 | [(.lst o ds, b)], h, a =>
  unfold Args at a
  obtain ⟨v, r, fp, f2, e, o1, n1, t, w⟩ := a
  unfold Args at t
  obtain ⟨p, ys, fq, e1, q1, r1, _⟩ := Own.lst gr.inn o1
  have h : (match kH ds with | some ks => (if (decide (ks.length ≤ 18) && ks.all (fun k => !k.isEmpty)) = true then R.ok (D.lst true ((iA ks).map TI), true) else .bad) | none => .bad).holds (EPost K F0 H0 Q) := h
  cases qt : kH ds with
  | none => rw [qt] at h; exact h.elim
  | some ks =>
   rw [qt] at h
   dsimp only at h
   by_cases hc : (decide (ks.length ≤ 18) && ks.all (fun k => !k.isEmpty)) = true
   ·rw [if_pos hc] at h
    rw [Bool.and_eq_true, decide_eq_true_iff] at hc
    obtain ⟨rs, h1, h2, h3⟩ := sY gr.inn ds qt r1
    subst h1
    rw [List.length_map] at hc
    refine ⟨p, rs, by rw [e, t.1, e1], h2 ▸ q1, fun p hp => ?_, hc.1, fun p hp z => ?_, fun q rs' hq e1 e2 => ?_⟩
    ·have := h3 p hp
     unfold TI Own at this
     obtain ⟨_, a, xs, ea, sq, ow⟩ := this
     cases ea
     have ow' := dZ (p.1.map D.int) (ns := p.1) (yA p.1) ow
     rw [← ow']
     exact aW.sO gr.inn sq
    ·have := List.all_eq_true.mp hc.2 p.1 (List.mem_map_of_mem hp)
     rw [z] at this; cases this
    ·rw [← e1] at h
     exact EPost.aCy gr h hq (aAh rs' fun p hp => h3 p (e2 p hp))
   ·rw [if_neg hc] at h; exact h.elim
 | [], h, a => exact h.elim
 | [(.non, _)], h, a => exact h.elim
 | [(.bl _, _)], h, a => exact h.elim
 | [(.int _, _)], h, a => exact h.elim
 | [(.str _, _)], h, a => exact h.elim
 | [(.tup _, _)], h, a => exact h.elim
 | [(.ext _ _, _)], h, a => exact h.elim
 | (x, bx) :: y :: ys, h, a => cases x <;> exact h.elim
theorem yJ {k : Nat} {f : aQ} {p p2 pos2 : Pos} (hr : Room k X.A) (hc : X.calm = true) (hm1 : X.mg "sorted" = none) (hm2 : X.mg "set" = none) (ha : SE X e f) (hg1 : Gl X "sorted" := by rfl) (hg2 : Gl X "set" := by rfl)
  (hs1 : starEach [.Call (.Name "set" p2) [e] [] pos2] X.env = (false, eval (.Call (.Name "set" p2) [e] [] pos2) X.env) :: starEach [] X.env := by rfl)
  (hs2 : starEach [e] X.env = (false, eval e X.env) :: starEach [] X.env := by rfl) (hpl1 : (backTo pos (starEach [] X.env)).any (·.1) = false := by rfl) (hpl2 : (backTo pos2 (starEach [] X.env)).any (·.1) = false := by rfl)
  (hb0 : backTo pos (starEach [] X.env) = [] := by rfl)
  (hv1 : bootBuiltins "sorted" = some (.builtin "sorted") := by decide +kernel) (hv2 : bootBuiltins "set" = some (.type "set") := by decide +kernel) :
  SE X (.Call (.Name "sorted" p) [.Call (.Name "set" p2) [e] [] pos2] [] pos) (vCB kSS (aD f aM)) :=
 L2.PE.imp (yI hr hc hm1 hm2 (aC ha aI hs2) hg1 hg2 hs1 hs2 hpl1 hpl2 hb0 hv1 hv2) fun _ _ _ h => aBa aMd h
end
end VL
end
section
namespace HT
open PySem PyProof.Rows
section
open PySem.SeqAt
open PySem.AutoSeq1 (wpAny_loadPart')
open PySem.MeetsSeq PySem.MeetsSeq2 PySem.MeetsSeq3
def lexLe (a b : Y0) : Bool := !ST.ltL b a
theorem zK (x y : Int) (xs ys : Y0) : lexLe (x :: xs) (y :: ys) = if x = y then lexLe xs ys else decide (x ≤ y) := by
 unfold lexLe; rw [ST.ltL]
 by_cases h : x = y
 ·rw [if_pos h, if_pos h.symm]
 ·rw [if_neg h, if_neg (Ne.symm h)]
  by_cases h2 : x ≤ y
  ·rw [decide_eq_true h2, decide_eq_false (show ¬ y < x by omega)]; rfl
  ·rw [decide_eq_false h2, decide_eq_true (show y < x by omega)]; rfl
theorem aEh (A : Around) (s : Shared) (a : Int) (t : Tok) (c : Int) (u : Tok) (prog : Program) (w : World) (E : Y9) (Q : Y9) (h : Q (.bool (decide (a ≤ c))) s) :
  wpAny (model prog w) A (richCompare .LtE (.int a t) (.int c u)) Q E s :=
 (PyProof.Rows.le_int h : wpAny (model prog w) A (compareOp .LtE (.int a t) (.int c u)) Q E s)
theorem rT (l b : Addr) (items items2 : Array Value) (n n2 : Nat) (dd dd2 : Option Addr) (sl sl2 : Array (Option Value)) (ns ms : Y0) (hi : IntsAre items.toList ns) (hj : IntsAre items2.toList ms) :
  Meets (Builtin.«tuple.__le__» ⟨[.ref l, .ref b], []⟩)
   (fun _ R s => s.heap.get? l = some { cls := .type "tuple", dict := dd, data := .seq items n, slots := sl } ∧ s.heap.get? b = some { cls := .type "tuple", dict := dd2, data := .seq items2 n2, slots := sl2 } ∧
    R (.ok (.ret (.bool (lexLe ns ms)))) s) :=
 .of_wp fun prog w A R s h => by
  obtain ⟨hp, g, d, tk, os⟩ := s; obtain ⟨hl, hb, h⟩ := h
  have f2 := AutoSeq1.sub_tuple_tuple
  have z1 : items.size = ns.length := by rw [← hi.length]; simp
  have z2 : items2.size = ms.length := by rw [← hj.length]; simp
  wp_walk using wpAny_loadPart' hl, wpAny_loadPart' hb, wpAny_forIn_list _ (fun rest b s' => b.1 = none ∧ s' = ⟨hp, g, d, tk, os⟩ ∧ ∃ (vs ws : Y1) (ns' ms' : Y0), rest = vs.zip ws ∧
   IntsAre vs ns' ∧ IntsAre ws ms' ∧ ns'.length + items2.size = ms'.length + items.size ∧ R (.ok (.ret (.bool (lexLe ns' ms')))) ⟨hp, g, d, tk, os⟩) _
  case turn =>
   rintro ⟨y, x⟩ rest b s' ⟨hb', rfl, vs, ws, ns', ms', hz, hvi, hwi, hlen, hR⟩
   cases hvi with
   | nil => rw [List.zip_nil_left] at hz; cases hz
   | cons a t hvi' =>
    cases hwi with
    | nil => rw [List.zip_nil_right] at hz; cases hz
    | cons c u hwi' =>
     rw [List.zip_cons_cons] at hz
     injection hz with hyx hrest
     injection hyx with hy hx
     subst hy hx
     rw [zK] at hR
     simp only [List.length_cons] at hlen
     obtain ⟨e, he, hiff⟩ := aFb A.in1 ⟨hp, g, d, tk, os⟩ a t c u
     refine wpAny_bind (he prog w _ _ ?_)
     cases e with
     | true =>
      rw [if_pos (hiff.mp rfl)] at hR
      wp_walk
      exact ⟨rfl, rfl, _, _, _, _, hrest, hvi', hwi', by omega, hR⟩
     | false =>
      rw [if_neg (fun q => absurd (hiff.mpr q) Bool.false_ne_true)] at hR
      have hri := aEh A.in1 ⟨hp, g, d, tk, os⟩ a t c u prog w
      wp_walk using hri
      exact ⟨_, rfl, by simpa using hR⟩
  case fin =>
   rintro ⟨b1, b2⟩ s' ⟨hb', rfl, vs, ws, ns', ms', hz, hvi, hwi, hlen, hR⟩
   simp only at hb'
   subst hb'
   have hv : lexLe ns' ms' = decide (items.size ≤ items2.size) := by
    cases hvi with
    | nil =>
     cases hwi with
     | nil =>
      simp only [List.length_nil] at hlen
      exact (decide_eq_true (by omega)).symm
     | cons c u hw =>
      simp only [List.length_nil, List.length_cons] at hlen
      exact (decide_eq_true (by omega)).symm
    | cons a t hv =>
     cases hwi with
     | nil =>
      simp only [List.length_nil, List.length_cons] at hlen
      exact (decide_eq_false (by omega)).symm
     | cons c u hw =>
      rw [List.zip_cons_cons] at hz
      cases hz
   rw [hv] at hR
   wp_walk
   exact ⟨_, rfl, by simpa [Builtin.Tuple.tupleCompareSizes] using hR⟩
  case h =>
   exact ⟨rfl, rfl, items.toList, items2.toList, ns, ms, rfl, hi, hj, by omega, h⟩
end
section
variable {prog : Program} {w : World} {A : Around} {E : Y9} {s : Shared}
theorem le_tupInts {l b : Addr} {items items2 : Array Value} {ns ms : Y0} {Q : Y9} (hl : IsTup s.heap l items) (hb : IsTup s.heap b items2) (hi : IntsAre items.toList ns) (hj : IntsAre items2.toList ms)
  (hu : A.units < cLine) (h : Q (.bool (lexLe ns ms)) s) : wpAny (model prog w) A (compareOp .LtE (.ref l) (.ref b)) Q E s := by
 obtain ⟨⟨cls, dd, data, sl⟩, ho, hc, n, hd⟩ := id hl
 obtain ⟨⟨cls2, dd2, data2, sl2⟩, ho2, hc2, n2, hd2⟩ := id hb
 simp only at hc hd hc2 hd2
 subst hc hd hc2 hd2
 exact richCompare_meets_room (op := .LtE) ⟨_, ho, rfl⟩ ⟨_, ho2, rfl⟩ PySem.F.slot_tuple_le PySem.F.entry_tuple_le (PySem.F.args_tuple_le_2 _ _) (rT l b items items2 n n2 dd dd2 sl sl2 ns ms hi hj)
  ⟨ho, ho2, show Value.bool (lexLe ns ms) ≠ Value.notImplemented ∧ Q (.bool (lexLe ns ms)) s from ⟨(fun x => nomatch x), h⟩⟩ hu
end
end HT
namespace VL
open PySem PySem.Spec PyProof.Rows L2
section
variable {X : Cx} {W : XW} {a b e : Expr} {pos : Pos}
def aM2 (K : FG) : R2 := fun x y H Q => ∃ a b ns ms, x = .ref a ∧ y = .ref b ∧ SqT K H a (ns.map V.int) ∧ SqT K H b (ms.map V.int) ∧ Q (.bl (HT.lexLe ns ms)) H
theorem aLn (hu : X.A.units < cLine) : OpR X (compareOp .LtE) (aM2 X.K) := by
 intro pins s σ H x y v u Q I rx ry h
 obtain ⟨a, b, ns, ms, rfl, rfl, ha, hb, q⟩ := h
 cases rx
 cases ry
 obtain ⟨its, r1, p1, _⟩ := I.tuple ha
 obtain ⟨its2, r2, p2, _⟩ := I.tuple hb
 have i1 : IntsAre its.toArray.toList ns := intsAre_of r1
 have i2 : IntsAre its2.toArray.toList ms := intsAre_of r2
 exact HT.le_tupInts p1 p2 i1 i2 hu ⟨.bl (HT.lexLe ns ms), H, I, rfl, q⟩
theorem aH1 {K : FG} : Op2 K aGl (aM2 K) := by
 intro F0 H0 F H x y v u fx fy Q gr o1 n1 k1 o2 n2 k2 h
 obtain ⟨x, bx⟩ := x
 obtain ⟨y, by'⟩ := y
 cases x <;> try exact h.elim
 cases y <;> try exact h.elim
 rename_i ds es
 have h : (match bY ds, bY es with | some a, some b => R.ok (D.bl (!ST.ltL b a), true) | _, _ => .bad).holds (EPost K F0 H0 Q) := h
 cases q1 : bY ds with
 | none => rw [q1] at h; exact h.elim
 | some a =>
  cases q2 : bY es with
  | none => rw [q1, q2] at h; exact h.elim
  | some b =>
   rw [q1, q2] at h
   obtain ⟨p1, xs, e1, s1, r1, _⟩ := Own.tup gr.inn o1
   obtain ⟨p2, ys, e2, s2, r2, _⟩ := Own.tup gr.inn o2
   rw [dZ ds q1 r1] at s1
   rw [dZ es q2 r2] at s2
   exact ⟨p1, p2, a, b, e1, e2, s1, s2, EPost.eN gr h rfl⟩
theorem aLo {k : Nat} {f g : aQ} (hr : Room k X.A) (ha : SE X a f) (hb : SE X b g) : ST X (.Compare a [.LtE] [b] pos) (aV (v2 aGl f g)) := kR (aLn (by have := hr.un; omega)) aH1 ha hb (iM _)
theorem aL4 : PA X [] (mD []) := fun _ _ _ _ H Q I h => Calls.spliced_nil ⟨[], H, I, .nil, h⟩
theorem wK (i : Nat) {x : Str} {p : Pos} {es : List Expr} {is : T0} (hr : PA X es (mD is)) (hN : X.N[i]? = some x := by rfl) (hv : Vis X.env.scope x := by first | exact Or.inl rfl | exact Or.inr (Or.inl rfl) | exact Or.inr (Or.inr rfl)) (hd : (x == ("__debug__" : Str)) = false := by decide)
  (hcd : (x == ("__classdict__" : Str)) = false := by decide) (hs : starEach (.Name x p :: es) X.env = (false, eval (.Name x p) X.env) :: starEach es X.env := by rfl) : PA X (.Name x p :: es) (mD (i :: is)) := by
 have := jY (mI (pos := p) hN hv hd hcd) hr hs
 intro pos pins s σ H Q I h
 exact this pos pins s σ H Q I h
theorem aFf {k n : Nat} {x : Str} {fn : Fn} {is : T0} {p : Pos} {es : List Expr} (F : Kn X.prog X.w X.K X.mg X.base k x n fn) (hr : Room k X.A) (ha : PA X (e :: es) (mD is)) (hn : is.length = n) (hg : Gl X x := by rfl) (hdb : (x == ("__debug__" : Str)) = false := by decide)
  (he : starEach (e :: es) X.env = (false, eval e X.env) :: starEach es X.env := by rfl) (hpl : (backTo pos (starEach es X.env)).any (·.1) = false := by rfl) : SX X W (.Call (.Name x p) (e :: es) [] pos) (lU fn is) := by
 obtain ⟨f, fd, ps, F, hm, hk, hb⟩ := F.ex
 exact (aAe F hr hg hm hk hb .nil (fun _ _ _ _ _ _ _ h => by obtain ⟨_, _, _, _, _, _, _, _, _, _, _, _, _, z⟩ := h; exact z.elim) ha hdb he hpl).imp fun _ _ _ h => aC6 hn h
theorem vX (i : Nat) {x : Str} {f g : aQ} {p sp ap cp pos' : Pos} (hi : SE X b g) (he : SE X e f) (hN : X.N[i]? = some x := by rfl) (hv : Vis X.env.scope x := by first | exact Or.inl rfl | exact Or.inr (Or.inl rfl) | exact Or.inr (Or.inr rfl)) (hd : (x == ("__debug__" : Str)) = false := by decide)
  (hcd : (x == ("__classdict__" : Str)) = false := by decide) (hix : uO b := by intro _ _; rfl) (hs : swapsWith (.Call (.Attribute (.Subscript (.Name x p) b sp) "append" ap) [e] [] cp) none pos'.line X.env = pure false := by rfl)
  (hbase : attributeBase (.Subscript (.Name x p) b sp) "append" X.env (eval (.Subscript (.Name x p) b sp) X.env) = eval (.Subscript (.Name x p) b sp) X.env := by rfl)
  (hfew : ((backTo cp (starEach [e] X.env)).all (fun x => !x.1) && (backToKw cp (keywordEach [] X.env)).all (fun x => x.1.isSome)
   && decide (([e] : List Expr).length + ([] : List Keyword).length + (if ([] : List Keyword).isEmpty then 0 else 1) < 30)) = true := by rfl)
  (hline : (ap.endLine == cp.line) = true := by rfl) (hst : starEach [e] X.env = (false, eval e X.env) :: starEach [] X.env := by rfl) (hplain : (backTo cp (starEach [] X.env)).any (·.1) = false := by rfl) :
  SS X W (.Expr (.Call (.Attribute (.Subscript (.Name x p) b sp) "append" ap) [e] [] cp) pos') (gQ i g f) :=
 (pG (aIc PySem.F.plainAttrs_list PySem.F.slot_list_append PySem.F.type_list_append oR (aIb aBg (mI hN hv hd hcd) hi hix) (jY he rH hst) hbase hfew hline hst hplain) hs).imp fun _ _ _ h => xF h
theorem aFo {K : FG} {F H : Hp} {ds : List D} {xs : List V} (h : aG K F H ds xs []) : aG K F H ds.reverse xs.reverse [] := by
 have hl := aG.length ds h
 refine aG.of_get _ (by simpa using hl) fun i d v e1 e2 => ?_
 have hi : i < ds.length := by simpa using (List.getElem?_eq_some_iff.mp e1).1
 rw [List.getElem?_reverse hi] at e1
 rw [List.getElem?_reverse (by omega)] at e2
 rw [← hl] at e2
 exact aG.aO2 h e1 e2
theorem aKv {K : FG} {σ : L2.St} {H : Hp} {D' : Ends} {i : Nat} (h : sv K W (aE7 i) D' σ H) : xB (aM5 K "list" wY (xJ i)) D' σ H := by
 obtain ⟨ρ, F, fps, S, h⟩ := h
 unfold aE7 at h
 cases eg : getD ρ i with
 | none => rw [eg] at h; exact h.elim
 | some d0 =>
  rw [eg] at h
  have h : cP K W F H fps.flatten ρ σ D' (match aCw d0 with | some d => .next (putD ρ i d) | none => .bad) := h
  cases ek : aCw d0 with
  | none => rw [ek] at h; exact h.elim
  | some d1 =>
   rw [ek] at h
   unfold aCw at ek
   split at ek <;> try cases ek
   rename_i ds
   by_cases hc : (D.bK ds && decide (ds.length < 1000000)) = true
   ·rw [if_pos hc] at ek; cases ek
    rw [Bool.and_eq_true, decide_eq_true_iff] at hc
    obtain ⟨v, fp, h1, h2, h3⟩ := S.get eg
    obtain ⟨a, xs, fq, ev, r, w1, w2, w3⟩ := Own.opened h3
    subst ev; subst w3
    have nfp := S.sub h2
    have := aG.dR ds hc.1 r
    subst this
    refine ⟨.ref a, h1, .inl ⟨rfl, xs, SqL.of w2⟩, a, xs, rfl, rfl, w2, ?_⟩
    refine eJ.mut (fu := []) h S (Grow.refl S.same) (fun b hb => by cases hb) eg h1 h2 List.mem_cons_self (Own.closed (aFo (r.other (by simp))) w1 cD) (by simp) fun b hb => .inl hb
   ·rw [if_neg hc] at ek; cases ek
theorem aJt (i : Nat) {x : Str} {p ap cp pos' : Pos} (hN : X.N[i]? = some x := by rfl) (hv : Vis X.env.scope x := by first | exact Or.inl rfl | exact Or.inr (Or.inl rfl) | exact Or.inr (Or.inr rfl)) (hd : (x == ("__debug__" : Str)) = false := by decide)
  (hcd : (x == ("__classdict__" : Str)) = false := by decide) (hs : swapsWith (.Call (.Attribute (.Name x p) "reverse" ap) [] [] cp) none pos'.line X.env = pure false := by rfl)
  (hbase : attributeBase (.Name x p) "reverse" X.env (eval (.Name x p) X.env) = eval (.Name x p) X.env := by rfl) (hline : (ap.endLine == cp.line) = true := by rfl) :
  SS X W (.Expr (.Call (.Attribute (.Name x p) "reverse" ap) [] [] cp) pos') (aE7 i) :=
 (pG (aLg PySem.F.plainAttrs_list PySem.F.slot_list_reverse PySem.F.type_list_reverse zJ (mI hN hv hd hcd) hbase hline) hs).imp fun _ _ _ h => aKv h
end
end VL
end
section
namespace VL
open PySem PySem.Spec PyProof.Rows L2
def insI (k : Int) : Y0 → Y0
 | [] => [k]
 | x :: xs => if k < x then k :: x :: xs else if k = x then x :: xs else x :: insI k xs
def sortI (ks : Y0) : Y0 := ks.foldr insI []
theorem rD {k y : Int} : ∀ {xs : Y0}, y ∈ insI k xs ↔ y = k ∨ y ∈ xs
 | [] => by simp [insI]
 | x :: xs => by
  unfold insI
  by_cases h1 : k < x
  ·rw [if_pos h1]; simp
  ·rw [if_neg h1]
   by_cases h2 : k = x
   ·rw [if_pos h2]; subst h2; simp
   ·rw [if_neg h2, List.mem_cons, rD (xs := xs), List.mem_cons]
    constructor
    ·rintro (h | h | h)
     ·exact .inr (.inl h)
     ·exact .inl h
     ·exact .inr (.inr h)
    ·rintro (h | h | h)
     ·exact .inr (.inl h)
     ·exact .inl h
     ·exact .inr (.inr h)
abbrev UpI (xs : Y0) : Prop := xs.Pairwise fun x y => x < y
theorem aAn {k : Int} : ∀ {xs : Y0}, UpI xs → UpI (insI k xs)
 | [], _ => by simp [insI]
 | x :: xs, h => by
  obtain ⟨h1, h2⟩ := List.pairwise_cons.mp h
  unfold insI
  by_cases q1 : k < x
  ·rw [if_pos q1]
   refine List.pairwise_cons.mpr ⟨fun y hy => ?_, h⟩
   rcases List.mem_cons.mp hy with rfl | hy
   ·exact q1
   ·have := h1 y hy; omega
  ·rw [if_neg q1]
   by_cases q2 : k = x
   ·rw [if_pos q2]; exact h
   ·rw [if_neg q2]
    refine List.pairwise_cons.mpr ⟨fun y hy => ?_, aAn h2⟩
    rcases rD.mp hy with rfl | hy
    ·omega
    ·exact h1 y hy
theorem rJ : ∀ ks : Y0, UpI (sortI ks)
 | [] => List.Pairwise.nil
 | k :: ks => aAn (rJ ks)
theorem lF {y : Int} : ∀ {ks : Y0}, y ∈ sortI ks ↔ y ∈ ks
 | [] => by simp [sortI]
 | k :: ks => by
  show y ∈ insI k (sortI ks) ↔ _
  rw [rD, lF (ks := ks), List.mem_cons]
theorem aBb : ∀ {xs ys : Y0}, UpI xs → UpI ys → (∀ z, z ∈ xs ↔ z ∈ ys) → xs = ys
 | [], [], _, _, _ => rfl
 | [], y :: ys, _, _, h => by have := (h y).mpr List.mem_cons_self; cases this
 | x :: xs, [], _, _, h => by have := (h x).mp List.mem_cons_self; cases this
 | x :: xs, y :: ys, h1, h2, h => by
  obtain ⟨p1, p2⟩ := List.pairwise_cons.mp h1
  obtain ⟨q1, q2⟩ := List.pairwise_cons.mp h2
  have e : x = y := by
   rcases List.mem_cons.mp ((h x).mp List.mem_cons_self) with e | e
   ·exact e
   ·rcases List.mem_cons.mp ((h y).mpr List.mem_cons_self) with e' | e'
    ·exact e'.symm
    ·have := p1 y e'; have := q1 x e; omega
  subst e
  congr 1
  refine aBb p2 q2 fun z => ?_
  constructor
  ·intro hz
   rcases List.mem_cons.mp ((h z).mp (List.mem_cons_of_mem _ hz)) with e | e
   ·subst e; have := p1 _ hz; omega
   ·exact e
  ·intro hz
   rcases List.mem_cons.mp ((h z).mpr (List.mem_cons_of_mem _ hz)) with e | e
   ·subst e; have := q1 _ hz; omega
   ·exact e
theorem aOz {xs : Y0} (h : xs.Pairwise (· ≤ ·)) (nd : xs.Nodup) : UpI xs :=
 (h.and nd).imp fun {a b} ⟨h1, h2⟩ => by omega
section
variable {X : Cx} {W : XW} {e : Expr} {pos : Pos}
def aM6 (K : FG) : List V → Hp → VK → Prop := fun vs H Q => ∃ l ns, vs = [.ref l] ∧ SqL K H l (ns.map V.int) ∧ ns.length ≤ 18 ∧ ∀ p, H p = none → Q (.ref p) (upd H p (.lst ((sortI ns).map V.int)))
theorem jI : ∀ {ns : Y0} {us : Y1}, IntsAre us ns → Vals (ns.map V.int) us
 | _, _, .nil => .nil
 | _, _, .cons n t h => .cons ⟨t, rfl⟩ (jI h)
theorem ints_get {its : Y1} {ns : Y0} (h : IntsAre its ns) : ∀ (i : Nat) (v : Value), its[i]? = some v → Value.isInt ((ns[i]?).getD 0) v = true := by
 induction h with
 | nil => intro i v e; simp at e
 | cons n t hI ih =>
  intro i v e
  cases i with
  | zero => simp at e; subst e; simp [Value.isInt]
  | succ i => simpa using ih i v (by simpa using e)
theorem xI {k : Nat} {t : TA} {p p2 pos2 : Pos} (hr : Room k X.A) (hc : X.calm = true) (hm1 : X.mg "sorted" = none) (hm2 : X.mg "set" = none) (ha : PA X [e] t) (hg1 : Gl X "sorted" := by rfl) (hg2 : Gl X "set" := by rfl)
  (hs1 : starEach [.Call (.Name "set" p2) [e] [] pos2] X.env = (false, eval (.Call (.Name "set" p2) [e] [] pos2) X.env) :: starEach [] X.env := by rfl)
  (hs2 : starEach [e] X.env = (false, eval e X.env) :: starEach [] X.env := by rfl) (hpl1 : (backTo pos (starEach [] X.env)).any (·.1) = false := by rfl) (hpl2 : (backTo pos2 (starEach [] X.env)).any (·.1) = false := by rfl)
  (hb0 : backTo pos (starEach [] X.env) = [] := by rfl)
  (hv1 : bootBuiltins "sorted" = some (.builtin "sorted") := by decide +kernel) (hv2 : bootBuiltins "set" = some (.type "set") := by decide +kernel) :
  PE X (.Call (.Name "sorted" p) [.Call (.Name "set" p2) [e] [] pos2] [] pos) (tCB (aM6 X.K) t) := by
 intro pins s σ H Q I h
 refine wpAny_Call_Name_kw (iV I hg1 hm1 hv1 ?_ (by decide) (by decide))
 refine PyProof.Rows.callWith_builtin1 ?_ hs1 hpl1
 rw [hs1]
 show wpAny _ _ (spliced ((false, eval (.Call (.Name "set" p2) [e] [] pos2) X.env) :: backTo pos (starEach [] X.env))) _ _ s
 refine Calls.spliced_cons ?_
 refine wpAny_Call_Name_kw (iV I hg2 hm2 hv2 ?_ (by decide) (by decide))
 refine PyProof.Rows.callWith_type1 (thn (ha pos2 pins s σ H _ I h) fun us s1 ⟨vs, H1, I1, r1, q1⟩ => ?_) hs2 hpl2
 obtain ⟨l, ns, rfl, hl, hlen, q⟩ := q1
 obtain ⟨u, rfl, ru⟩ := vals1 r1
 cases ru
 obtain ⟨its, rv, pl, hz⟩ := I1.list hl
 have hsz : its.toArray.size = ns.length := by rw [List.size_toArray, ← rv.length, List.length_map]
 have hget : ∀ (i : Nat) (v : Value), its.toArray[i]? = some v → Value.isInt ((ns[i]?).getD 0) v = true := fun i v e => ints_get (intsAre_of rv) i v (by rw [List.getElem?_toArray] at e; exact e)
 refine SU.call_setI (key := fun i => (ns[i]?).getD 0) (I1.ok.hd hc) pl.isList hget (by rw [hsz]; exact hlen) fun h' tk kas hS hD keep => ?_
 rw [hsz] at hD
 rw [hb0]
 refine Calls.spliced_nil ?_
 have nd : (kas.map (·.1)).Nodup := by
  obtain ⟨_, _, _, _, _, _, _, _, _, _, nd, _⟩ := hS
  exact nd
 obtain ⟨oS, _, _, _, hoS, _⟩ := id hS
 refine SU.sorted_setI (s := { s1 with heap := h', toks := tk }) (I1.ok.hd hc) hS fun ns' vs' D ep h2 tk2 hI hp hu hD2 hsz2 keep2 => ?_
 have hlt : s1.heap.objs.size ≤ D := Nat.le_trans (Nat.le_of_lt (Heap.lt_size hoS)) hsz2
 have k2 : ∀ b u, s1.heap.get? b = some u → h2.get? b = some u := fun b u e => keep2 b u (keep b u (Heap.lt_size e) e)
 have ens : ns' = sortI ns := by
  refine aBb (aOz hu (hp.nodup_iff.mpr nd)) (rJ _) fun z => ?_
  rw [lF, hp.mem_iff, hD.1 z]
  constructor
  ·rintro ⟨i, hi, e⟩
   dsimp only at e
   rw [List.getElem?_eq_getElem hi] at e
   rw [← e]; exact List.getElem_mem hi
  ·intro hz'
   obtain ⟨i, hi, e'⟩ := List.getElem_of_mem hz'
   exact ⟨i, hi, by dsimp only; rw [List.getElem?_eq_getElem hi]; exact e'⟩
 subst ens
 refine ⟨.ref D, upd H1 D (.lst ((sortI ns).map V.int)), I1.laid (t' := tk2) (o := .lst ((sortI ns).map V.int)) k2 hlt ?_, rfl, q D (I1.hok.fresh hlt)⟩
 refine ⟨?_, vs', ep, jI hI, hD2⟩
 have e1 := hp.length_eq
 have e2 := hD.2
 rw [List.length_map] at e1
 refine gG ?_
 simp; omega
def aH2 : List (D × Bool) → R (D × Bool)
 | [(.lst _ ds, _)] => (match bY ds with
  | some ns => if ns.length ≤ 18 then .ok (.lst true ((sortI ns).map .int), true) else .bad
  | none => .bad)
 | _ => .bad
theorem aG6 {K : FG} : OpA K aH2 (aM6 K) := by
 intro F0 H0 F H xs vs fa Q gr a n k h
 match xs, h, a with
 | [(.lst o ds, b)], h, a =>
  unfold Args at a
  obtain ⟨v, r, fp, f2, e, o1, n1, t, w⟩ := a
  unfold Args at t
  obtain ⟨p, ys, fq, e1, q1, r1, _⟩ := Own.lst gr.inn o1
  have h : (match bY ds with | some ns => (if ns.length ≤ 18 then R.ok (D.lst true ((sortI ns).map .int), true) else .bad) | none => .bad).holds (EPost K F0 H0 Q) := h
  cases qt : bY ds with
  | none => rw [qt] at h; exact h.elim
  | some ns =>
   rw [qt] at h
   dsimp only at h
   by_cases hc : ns.length ≤ 18
   ·rw [if_pos hc] at h
    rw [dZ ds qt r1] at q1
    exact ⟨p, ns, by rw [e, t.1, e1], q1, hc, fun q hq => EPost.aCy gr h hq (nW (sortI ns))⟩
   ·rw [if_neg hc] at h; exact h.elim
 | [], h, a => exact h.elim
 | [(.non, _)], h, a => exact h.elim
 | [(.bl _, _)], h, a => exact h.elim
 | [(.int _, _)], h, a => exact h.elim
 | [(.str _, _)], h, a => exact h.elim
 | [(.tup _, _)], h, a => exact h.elim
 | [(.ext _ _, _)], h, a => exact h.elim
 | (x, bx) :: y :: ys, h, a => cases x <;> exact h.elim
theorem wQ {k : Nat} {f : aQ} {p p2 pos2 : Pos} (hr : Room k X.A) (hc : X.calm = true) (hm1 : X.mg "sorted" = none) (hm2 : X.mg "set" = none) (ha : SE X e f) (hg1 : Gl X "sorted" := by rfl) (hg2 : Gl X "set" := by rfl)
  (hs1 : starEach [.Call (.Name "set" p2) [e] [] pos2] X.env = (false, eval (.Call (.Name "set" p2) [e] [] pos2) X.env) :: starEach [] X.env := by rfl)
  (hs2 : starEach [e] X.env = (false, eval e X.env) :: starEach [] X.env := by rfl) (hpl1 : (backTo pos (starEach [] X.env)).any (·.1) = false := by rfl) (hpl2 : (backTo pos2 (starEach [] X.env)).any (·.1) = false := by rfl)
  (hb0 : backTo pos (starEach [] X.env) = [] := by rfl)
  (hv1 : bootBuiltins "sorted" = some (.builtin "sorted") := by decide +kernel) (hv2 : bootBuiltins "set" = some (.type "set") := by decide +kernel) :
  SE X (.Call (.Name "sorted" p) [.Call (.Name "set" p2) [e] [] pos2] [] pos) (vCB aH2 (aD f aM)) :=
 L2.PE.imp (xI hr hc hm1 hm2 (aC ha aI hs2) hg1 hg2 hs1 hs2 hpl1 hpl2 hb0 hv1 hv2) fun _ _ _ h => aBa aG6 h
end
end VL
end
section
namespace VL.PY
open VL PySem
def fuel : Nat := 1000
def qE : aU := (cO (xOf (zS (v1 (iE "int") (aB 0)) (v1 aC7 (v1 (iE "bool") (aB 0))))))
def mO : Fn := fnOf 1 qE
def oB : aU := (cO (xOf (zS (bC mO (aD (aB 0) aM)) (uK (fun i j => decide (i ≤ j)) (fun i j => decide (i ≤ j)) (aB 1) (aB 0) (aB 2)))))
def bL : Fn := fnOf 3 oB
def tB : aU := (aN (sIf (kN (dJ (eW (v1 (iE "tuple") (aB 1)))) (aV (v2 (kEq true) (vCB iD (aD (aB 1) aM)) (vC (.int 4))))) (cO (xOf (vC (.bl false)))) bI) (aN (aY 2 (xOf (v2 sA (v2 kIx (aB 0) (vC (.int 0))) (vC (.int 1))))) (aN (sIf (kN (dJ (eW (bC bL (aD (v2 kIx (aB 1) (vC (.int 0))) (aD (vC (.int 0)) (aD (aB 2) aM)))))) (dJ (eW (bC bL (aD (v2 kIx (aB 1) (vC (.int 2))) (aD (vC (.int 0)) (aD (aB 2) aM))))))) (cO (xOf (vC (.bl false)))) bI) (cO (xOf (zS (bC bL (aD (v2 kIx (aB 1) (vC (.int 1))) (aD (vC (.int 0)) (aD (v2 sA (v2 kIx (aB 0) (vC (.int 1))) (vC (.int 1))) aM)))) (bC bL (aD (v2 kIx (aB 1) (vC (.int 3))) (aD (vC (.int 0)) (aD (vC (.int 1000)) aM))))))))))
def oI : Fn := fnOf 3 tB
def nB : aU := (aN (aY 1 (xOf (v2 kIx (aB 0) (vC (.int 2))))) (aN (sIf (kN (dJ (eW (v1 (iE "list") (aB 1)))) (aV (v2 kGt (vCB iD (aD (aB 1) aM)) (vC (.int 600))))) (fA "BadMachine" (zTop (gC (fun _ => some ("the deeds are a list of " : Str).length) (gC (qY (vC (.int 600))) (gC (fun _ => some (" at most" : Str).length) (fun _ => some 0)))))) bI) (aN (fI (rR (aB 1)) (dE [2, 3]) (sIf (dJ (eW (bC oI (aD (aB 0) (aD (aB 3) aM))))) (fA "BadMachine" (zTop (gC (fun _ => some ("number " : Str).length) (gC (qY (aB 2)) (gC (fun _ => some (" is no deed of such a machine" : Str).length) (fun _ => some 0)))))) bI)) (fI (iR2 (aD (vC (.int 1)) (aD (vCB iD (aD (aB 1) aM)) aM))) (bA 2) (sIf (aV (v2 aGl (v2 kIx (aB 1) (aB 2)) (v2 kIx (aB 1) (v2 sA (aB 2) (vC (.int 1)))))) (fA "BadMachine" (zTop (gC (fun _ => some ("deed " : Str).length) (gC (qY (aB 2)) (gC (fun _ => some (" does not rise above the one ahead of it" : Str).length) (fun _ => some 0)))))) bI)))))
def jM : Fn := fnOf 4 nB
def kX : aU := (aN (sIf (kN (dJ (eW (v1 (iE "tuple") (aB 0)))) (aV (v2 (kEq true) (vCB iD (aD (aB 0) aM)) (vC (.int 3))))) (fA "BadMachine" (fun _ => some ("a machine is a triple of places, kinds and deeds" : Str).length)) bI) (aN (sIf (dJ (eW (bC bL (aD (v2 kIx (aB 0) (vC (.int 0))) (aD (vC (.int 1)) (aD (vC (.int 200)) aM)))))) (fA "BadMachine" (zTop (gC (fun _ => some ("a machine has 1 to " : Str).length) (gC (qY (vC (.int 200))) (gC (fun _ => some (" places" : Str).length) (fun _ => some 0)))))) bI) (aN (sIf (dJ (eW (bC bL (aD (v2 kIx (aB 0) (vC (.int 1))) (aD (vC (.int 1)) (aD (vC (.int 8)) aM)))))) (fA "BadMachine" (zTop (gC (fun _ => some ("a machine has 1 to " : Str).length) (gC (qY (vC (.int 8))) (gC (fun _ => some (" kinds of deeds" : Str).length) (fun _ => some 0)))))) bI) (iH (dS jM (aD (aB 0) aM))))))
def dX : Fn := fnOf 1 kX
def aAa : aU := (aN (iH (dS dX (aD (aB 0) aM))) (aN (sIf (dJ (eW (v1 (iE "list") (aB 1)))) (fA "BadRow" (fun _ => some ("a row is a list of the numbers of deeds" : Str).length)) bI) (aN (aY 2 (xOf (v2 kIx (aB 0) (vC (.int 2))))) (aN (aY 3 (xOf (iX (aD (vC (.int 0)) aM)))) (aN (fI (kA (aB 1)) (bA 4) (aN (sIf (dJ (eW (bC bL (aD (aB 4) (aD (vC (.int 0)) (aD (v2 sA (vCB iD (aD (aB 2) aM)) (vC (.int 1))) aM)))))) (fA "BadRow" (fun _ => some ("the row has a number that no deed has" : Str).length)) bI) (aN (sIf (aV (v2 (kEq true) (v2 kIx (v2 kIx (aB 2) (aB 4)) (vC (.int 0))) (v2 kIx (aB 3) (v1 (kU fun i => .int (-i)) (vC (.int 1)))))) (fA "BadRow" (zTop (gC (fun _ => some ("deed " : Str).length) (gC (qY (aB 4)) (gC (fun _ => some (" does not begin where the row has come to" : Str).length) (fun _ => some 0)))))) bI) (cG 3 (v2 kIx (v2 kIx (aB 2) (aB 4)) (vC (.int 2))))))) (iW 3))))))
def zO : Fn := fnOf 5 aAa
def nM : aU := (aN (aY 1 (xOf (cB (iR1 (aD (v2 kIx (aB 0) (vC (.int 0))) aM)) 1 [] (bA 0) dD (iX aM)))) (aN (fI (rR (v2 kIx (aB 0) (vC (.int 2)))) (dE [2, 3]) (gQ 1 (v2 kIx (aB 3) (vC (.int 0))) (aB 2))) (iW 1)))
def jN : Fn := fnOf 4 nM
def sZ : aU := (aN (aY 1 (xOf (bC jN (aD (aB 0) aM)))) (aN (aY 2 (xOf (cB (iR1 (aD (v2 kIx (aB 0) (vC (.int 0))) aM)) 1 [] (bA 0) dD (vC .non)))) (aN (aY 3 (xOf (iX (aD (vC (.int 0)) aM)))) (aN (aY 4 (xOf (vC (.int 0)))) (aN (mU [1] (cF (aV (v2 kLt (aB 4) (vCB iD (aD (aB 3) aM)))) (aN (fI (kA (v2 kIx (aB 1) (v2 kIx (aB 3) (aB 4)))) (bA 5) (aN (aY 6 (xOf (v2 kIx (v2 kIx (v2 kIx (aB 0) (vC (.int 2))) (aB 5)) (vC (.int 2))))) (sIf (jH (aV (v2 (kEq true) (aB 6) (vC (.int 0)))) (aV (v2 (kJ false) (v2 kIx (aB 2) (aB 6)) (vC .non)))) (aN (dU 2 (aB 6) (aB 5)) (cG 3 (aB 6))) bI))) (uT 4 (fun i j => i + j) (vC (.int 1)))) fuel)) (iW 2))))))
def jA : Fn := fnOf 7 sZ
def tP : aU := (aN (iH (dS dX (aD (aB 0) aM))) (cO (xOf (cB (rR (bC jA (aD (aB 0) aM))) 2 [] (dE [0, 1]) dD (vOr (v2 (kEq false) (aB 0) (vC (.int 0))) (v2 (kJ true) (aB 1) (vC .non)))))))
def lA : Fn := fnOf 1 tP
def sX : aU := (cO (xOf (vCB aH3 (aD (cB (kA (aB 1)) 1 [0] (bA 0) dD (v2 kIx (aB 1) (aB 0))) aM))))
def gP : Fn := fnOf 2 sX
def wA : aU := (aN (aY 2 (xOf (bC jA (aD (aB 0) aM)))) (aN (aY 3 (xOf (iX aM))) (aN (cF (aV (v2 (kJ true) (v2 kIx (aB 2) (aB 1)) (vC .non))) (aN (cG 3 (v2 kIx (aB 2) (aB 1))) (aY 1 (xOf (v2 kIx (v2 kIx (v2 kIx (aB 0) (vC (.int 2))) (v2 kIx (aB 2) (aB 1))) (vC (.int 0)))))) fuel) (aN (aE7 3) (iW 3)))))
def qK : Fn := fnOf 4 wA
def mV : aU := (aN (aY 3 (xOf (iX aM))) (aN (cF (aV (v2 (kJ true) (v2 kIx (aB 1) (aB 2)) (vC .non))) (aN (cG 3 (v2 kIx (aB 1) (aB 2))) (aY 2 (xOf (v2 kIx (v2 kIx (v2 kIx (aB 0) (vC (.int 2))) (v2 kIx (aB 1) (aB 2))) (vC (.int 2)))))) fuel) (iW 3)))
def jT : Fn := fnOf 4 mV
def lN : aU := (aN (fI (iR1 (aD (v2 kIx (aB 0) (vC (.int 0))) aM)) (bA 3) (aY 2 (xOf (v2 kIx (v2 kIx (v2 kIx (aB 0) (vC (.int 2))) (v2 kIx (aB 1) (aB 2))) (vC (.int 2)))))) (aN (aY 4 (xOf (iX (aD (v2 kIx (aB 1) (aB 2)) aM)))) (aN (aY 5 (xOf (v2 kIx (v2 kIx (v2 kIx (aB 0) (vC (.int 2))) (v2 kIx (aB 1) (aB 2))) (vC (.int 2))))) (aN (cF (aV (v2 (kEq true) (aB 5) (aB 2))) (aN (cG 4 (v2 kIx (aB 1) (aB 5))) (aY 5 (xOf (v2 kIx (v2 kIx (v2 kIx (aB 0) (vC (.int 2))) (v2 kIx (aB 1) (aB 5))) (vC (.int 2)))))) fuel) (iW 4)))))
def iQ : Fn := fnOf 6 lN
def gI : aU := (aN (aY 5 (xOf (vC .non))) (aN (fI (kA (aB 2)) (bA 6) (aN (aY 7 (xOf (v2 kIx (v2 kIx (aB 0) (vC (.int 2))) (aB 6)))) (aN (aY 8 (xOf (v2 bU (v2 kIx (aB 1) (aB 6)) (v2 kIx (aB 3) (v2 kIx (aB 7) (vC (.int 2))))))) (sIf (aV (v2 kGt (aB 8) (v2 kIx (aB 3) (v2 kIx (aB 7) (vC (.int 0)))))) (aN (dU 3 (v2 kIx (aB 7) (vC (.int 0))) (aB 8)) (aN (dU 4 (v2 kIx (aB 7) (vC (.int 0))) (aB 6)) (aY 5 (xOf (v2 kIx (aB 7) (vC (.int 0))))))) bI)))) (iW 5)))
def fH : Fn := fnOf 9 gI
def nO : aU := (aN (aY 2 (dS lA (aD (aB 0) aM))) (aN (aY 3 (xOf (cB (rR (v2 kIx (aB 0) (vC (.int 2)))) 2 [2] (dE [0, 1]) (eW (v2 kIx (aB 2) (v2 kIx (aB 1) (vC (.int 0))))) (aB 0)))) (aN (aY 4 (xOf (cB (iR1 (aD (v2 kIx (aB 0) (vC (.int 0))) aM)) 1 [] (bA 0) dD (vC (.int 0))))) (aN (aY 5 (xOf (cB (iR1 (aD (v2 kIx (aB 0) (vC (.int 0))) aM)) 1 [] (bA 0) dD (vC .non)))) (aN (aY 6 (xOf (vC (.int 0)))) (aN (aY 7 (xOf (vC (.int 0)))) (aN (mU [3] (cF (jH (aV (v2 (kJ true) (aB 6) (vC .non))) (aV (v2 kLt (aB 7) (v2 kIx (aB 0) (vC (.int 0)))))) (aN (aY 6 (lU fH [0, 1, 3, 4, 5])) (uT 7 (fun i j => i + j) (vC (.int 1)))) fuel)) (mU [4, 5] (cO (xOf (rL (aD (aB 4) (aD (aB 5) (aD (aB 6) aM))))))))))))))
def jX : Fn := fnOf 8 nO
def fV : aU := (aN (iH (dS dX (aD (aB 0) aM))) (aN (sIf (kN (dJ (eW (v1 (iE "list") (aB 1)))) (aV (v2 (kEq true) (vCB iD (aD (aB 1) aM)) (v2 kIx (aB 0) (vC (.int 1)))))) (fA "BadPrices" (fun _ => some ("prices are a list of one for each kind" : Str).length)) bI) (fI (rR (aB 1)) (dE [2, 3]) (sIf (dJ (eW (bC bL (aD (aB 3) (aD (vC (.int 0)) (aD (vC (.int 1000)) aM)))))) (fA "BadPrices" (zTop (gC (fun _ => some ("the price of kind " : Str).length) (gC (qY (aB 2)) (gC (fun _ => some (" is not from 0 to " : Str).length) (gC (qY (vC (.int 1000))) (fun _ => some 0))))))) bI))))
def dN : Fn := fnOf 4 fV
def nR : aU := (cO (xOf (cB (kA (v2 kIx (aB 0) (vC (.int 2)))) 1 [1] (bA 0) dD (v2 sA (v2 kIx (aB 0) (vC (.int 3))) (v2 kIx (aB 1) (v2 kIx (aB 0) (vC (.int 1))))))))
def gM : Fn := fnOf 2 nR
def qB : aU := (aN (iH (dS dN (aD (aB 0) (aD (aB 1) aM)))) (aN (sIf (kN (aV (v2 (kEq true) (vCB iD (aD (aB 2) aM)) (v2 kIx (aB 0) (vC (.int 0))))) (kN (aV (v2 (kEq true) (v2 kIx (aB 2) (vC (.int 0))) (vC (.int 0)))) (aV (v2 kLt (vCB aGf (aD (aB 2) aM)) (vC (.int 0)))))) (cO (xOf (vC (.bl false)))) bI) (aN (aY 3 (dS lA (aD (aB 0) aM))) (aN (fI (kA (v2 kIx (aB 0) (vC (.int 2)))) (bA 4) (sIf (jH (eW (v2 kIx (aB 3) (v2 kIx (aB 4) (vC (.int 0))))) (aV (v2 kLt (v2 bU (v2 kIx (aB 2) (v2 kIx (aB 4) (vC (.int 0)))) (v2 kIx (aB 1) (v2 kIx (aB 4) (vC (.int 1))))) (v2 bU (v2 kIx (aB 4) (vC (.int 3))) (v2 kIx (aB 2) (v2 kIx (aB 4) (vC (.int 2)))))))) (cO (xOf (vC (.bl false)))) bI)) (cO (xOf (vC (.bl true))))))))
def vD : Fn := fnOf 5 qB
def nS : aU := (aN (iH (dS dN (aD (aB 0) (aD (aB 1) aM)))) (aN (aY 5 (dS zO (aD (aB 0) (aD (v2 bU (aB 2) (aB 3)) aM)))) (aN (sIf (kN (aV (v2 kLt (aB 4) (vC (.int 0)))) (aV (v2 (kEq true) (v2 kIx (aB 5) (vCB iD (aD (aB 2) aM))) (v2 kIx (aB 5) (v1 (kU fun i => .int (-i)) (vC (.int 1))))))) (cO (xOf (vC (.bl false)))) bI) (aN (aY 6 (xOf (bC gM (aD (aB 0) (aD (aB 1) aM))))) (cO (xOf (v2 kGt (v2 bU (bC gP (aD (aB 6) (aD (aB 2) aM))) (v2 jW (aB 4) (bC gP (aD (aB 6) (aD (aB 3) aM))))) (vC (.int 0)))))))))
def nA : Fn := fnOf 7 nS
def iY : aU := (aN (aY 3 (xOf (bC qK (aD (aB 0) (aD (v2 kIx (v2 kIx (v2 kIx (aB 0) (vC (.int 2))) (v2 kIx (aB 2) (vC (.int 0)))) (vC (.int 0))) aM))))) (aN (aY 4 (xOf (vCB (k2i fun i j => if j > i then j else i) (aD (vC (.int 0)) (aD (v2 bU (v2 tJ (v1 (kU fun i => .int (-i)) (bC gP (aD (aB 1) (aD (aB 3) aM)))) (bC gP (aD (aB 1) (aD (aB 2) aM)))) (vC (.int 1))) aM))))) (mU [3] (cO (xOf (rL (aD (vC (.str "row")) (aD (aB 3) (aD (aB 2) (aD (aB 4) aM))))))))))
def fO : Fn := fnOf 5 iY
def fW : aU := (aN (iH (dS dN (aD (aB 0) (aD (aB 1) aM)))) (aN (aY 2 (xOf (bC gM (aD (aB 0) (aD (aB 1) aM))))) (aN (mU [2] (aY 3 (dS jX (aD (aB 0) (aD (aB 2) aM))))) (aN (aY 4 (xOf (v2 kIx (aB 3) (vC (.int 0))))) (aN (aY 5 (xOf (v2 kIx (aB 3) (vC (.int 1))))) (aN (aY 6 (xOf (v2 kIx (aB 3) (vC (.int 2))))) (aN (sIf (aV (v2 (kJ true) (aB 6) (vC .non))) (cO (xOf (bC fO (aD (aB 0) (aD (aB 2) (aD (bC iQ (aD (aB 0) (aD (aB 5) (aD (aB 6) aM)))) aM)))))) bI) (aN (sIf (aV (v2 kGt (v2 kIx (aB 4) (vC (.int 0))) (vC (.int 0)))) (cO (xOf (rL (aD (vC (.str "row")) (aD (bC jT (aD (aB 0) (aD (aB 5) (aD (vC (.int 0)) aM)))) (aD (iX aM) (aD (vC (.int 0)) aM))))))) bI) (cO (xOf (rL (aD (vC (.str "purse")) (aD (aB 4) aM)))))))))))))
def fU : Fn := fnOf 7 fW
end VL.PY
end
section
namespace VL.K10
open VL PySem PY
def qG : aU := (aN (sIf (eW (aB 0)) (cO (xOf (v2 kIx (aB 0) (v2 kS (aB 1) (vCB iD (aD (aB 0) aM)))))) bI) (cO (xOf (vC (.int 0)))))
def qW : Fn := fnOf 2 qG
def aAf : aU := (aN (aY 2 (xOf (v2 kS (v2 bU (bC qW (aD (aB 0) (aD (aB 1) aM))) (v2 jW (vC (.int 104729)) (v2 bU (aB 1) (vC (.int 1))))) (vC (.int 4294967291))))) (aN (aY 2 (xOf (v2 kS (v2 jW (aB 2) (vC (.int 48271))) (vC (.int 4294967279))))) (cO (xOf (v2 kS (v2 bU (v2 jW (v2 tJ (aB 2) (vC (.int 64))) (vC (.int 69621))) (aB 2)) (vC (.int 4294967231)))))))
def cU : Fn := fnOf 3 aAf
def oV : aU := (aN (aY 3 (xOf (v2 bU (vC (.int 1)) (v2 kS (bC cU (aD (aB 0) (aD (aB 1) aM))) (aB 2))))) (aN (aY 4 (xOf (v2 bU (vC (.int 1)) (v2 kS (bC cU (aD (aB 0) (aD (v2 bU (aB 1) (vC (.int 1))) aM))) (vC (.int 3)))))) (aN (aY 5 (xOf (iX aM))) (aN (fI (iR1 (aD (v2 kS (bC cU (aD (aB 0) (aD (v2 bU (aB 1) (vC (.int 2))) aM))) (v2 bU (v2 jW (vC (.int 2)) (aB 2)) (vC (.int 1)))) aM)) (bA 6) (aN (aY 7 (xOf (bC cU (aD (aB 0) (aD (v2 bU (v2 bU (aB 1) (vC (.int 3))) (aB 6)) aM))))) (aN (aY 8 (xOf (v2 kIx (iX (aD (vC (.int 0)) (aD (vC (.int 1)) (aD (vC (.int 2)) (aD (vC (.int 3)) (aD (vC (.int 5)) (aD (vC (.int 9)) (aD (vC (.int 1)) (aD (vC (.int 0)) aM))))))))) (v2 kS (v2 tJ (aB 7) (vC (.int 4096))) (vC (.int 8)))))) (cG 5 (rL (aD (v2 kS (aB 7) (aB 3)) (aD (v2 kS (v2 tJ (aB 7) (vC (.int 16))) (aB 4)) (aD (v2 kS (v2 tJ (aB 7) (vC (.int 64))) (aB 3)) (aD (aB 8) aM))))))))) (mU [5] (cO (xOf (rL (aD (aB 3) (aD (aB 4) (aD (vCB kSS (aD (aB 5) aM)) aM)))))))))))
def iK : Fn := fnOf 9 oV
def aA4 : aU := (aN (aY 4 (xOf (iX aM))) (aN (aY 5 (xOf (vC (.int 0)))) (aN (fI (iR1 (aD (v2 kS (bC cU (aD (aB 0) (aD (aB 1) aM))) (v2 bU (aB 3) (vC (.int 1)))) aM)) (bA 6) (aN (aY 7 (xOf (cB (iR1 (aD (vCB iD (aD (v2 kIx (aB 2) (vC (.int 2))) aM)) aM)) 1 [5, 2] (bA 0) (aV (v2 (kEq false) (v2 kIx (v2 kIx (v2 kIx (aB 2) (vC (.int 2))) (aB 0)) (vC (.int 0))) (aB 1))) (aB 0)))) (sIf (eW (aB 7)) (aN (cG 4 (v2 kIx (aB 7) (v2 kS (bC cU (aD (aB 0) (aD (v2 bU (v2 bU (aB 1) (vC (.int 1))) (aB 6)) aM))) (vCB iD (aD (aB 7) aM))))) (aY 5 (xOf (v2 kIx (v2 kIx (v2 kIx (aB 2) (vC (.int 2))) (v2 kIx (aB 4) (v1 (kU fun i => .int (-i)) (vC (.int 1))))) (vC (.int 2)))))) bI))) (iW 4))))
def nQ : Fn := fnOf 8 aA4
def oW : aU := (aN (aY 1 (xOf (iX (aD (vC (.int 0)) aM)))) (aN (aY 2 (xOf (vC (.int 0)))) (aN (cF (aV (v2 kLt (aB 2) (vCB iD (aD (aB 1) aM)))) (aN (fI (kA (v2 kIx (aB 0) (vC (.int 2)))) (dE [3, 4, 5, 6]) (sIf (jH (aV (v2 (kEq false) (aB 3) (v2 kIx (aB 1) (aB 2)))) (aV (v2 (kIn true) (aB 5) (aB 1)))) (cG 1 (aB 5)) bI)) (aY 2 (xOf (v2 bU (aB 2) (vC (.int 1)))))) fuel) (iW 1))))
def iG : Fn := fnOf 7 oW
end VL.K10
end
section
namespace VL.K11
open VL PySem PY K10
def uC : aU := (cO (xOf (zS (v1 (iE "int") (aB 0)) (v1 aC7 (v1 (iE "bool") (aB 0))))))
def lC : Fn := fnOf 1 uC
def rN : aU := (aN (aY 4 (xOf (iX (aD (aB 3) aM)))) (aN (fI (iR1 (aD (v2 bU (v2 kIx (aB 0) (vC (.int 0))) (vC (.int 1))) aM)) (bA 5) (aN (aY 6 (xOf (iX aM))) (aN (mU [4] (fI (kA (aB 4)) (bA 7) (aN (sIf (aV (v2 (kEq false) (v2 kIx (aB 2) (aB 7)) (vC (.int 0)))) (cO (xOf (vC (.bl true)))) bI) (fI (kA (v2 kIx (aB 0) (vC (.int 2)))) (dE [8, 9, 10, 11]) (sIf (jH (aV (v2 (kEq false) (aB 8) (aB 7))) (aV (v2 (kEq false) (v2 kIx (aB 2) (aB 8)) (v2 bU (v2 sA (aB 11) (v2 kIx (aB 1) (aB 9))) (v2 kIx (aB 2) (aB 10)))))) (cG 6 (aB 10)) bI))))) (aY 4 (xOf (vCB aH2 (aD (aB 6) aM))))))) (cO (xOf (vC (.bl false))))))
def kB : Fn := fnOf 12 rN
def b_law : aU := (aN (aY 1 (xOf (bC iK (aD (aB 0) (aD (vC (.int 0)) (aD (vC (.int 7)) aM)))))) (aN (aY 2 (xOf (cB (iR1 (aD (v2 kIx (aB 1) (vC (.int 1))) aM)) 1 [0] (bA 0) dD (v2 kIx (iX (aD (vC (.int 0)) (aD (vC (.int 1)) (aD (vC (.int 2)) (aD (vC (.int 3)) (aD (vC (.int 5)) (aD (vC (.int 9)) aM))))))) (v2 kS (bC cU (aD (aB 1) (aD (v2 bU (vC (.int 30)) (aB 0)) aM))) (vC (.int 6))))))) (aN (mU [2] (aY 3 (dS fU (aD (aB 1) (aD (vCB tH (aD (aB 2) aM)) aM))))) (aN (sIf (kN (dJ (eW (v1 (iE "tuple") (aB 3)))) (aV (v2 (kIn true) (v2 kIx (aB 3) (vC (.int 0))) (rL (aD (vC (.str "purse")) (aD (vC (.str "row")) aM)))))) (cO (xOf (vC (.bl false)))) bI) (aN (sIf (aV (v2 (kEq false) (v2 kIx (aB 3) (vC (.int 0))) (vC (.str "row")))) (aN (gH [4, 5, 6, 7] (xOf (aB 3))) (cO (dS nA (aD (aB 1) (aD (aB 2) (aD (aB 5) (aD (aB 6) (aD (aB 7) aM)))))))) bI) (aN (aY 8 (xOf (v2 kIx (aB 3) (vC (.int 1))))) (aN (sIf (kN (dJ (eW (v1 (iE "list") (aB 8)))) (dJ (eW (bC vD (aD (aB 1) (aD (aB 2) (aD (aB 8) aM))))))) (cO (xOf (vC (.bl false)))) bI) (aN (aY 9 (xOf (bC iG (aD (aB 1) aM)))) (aN (fI (iR1 (aD (v2 kIx (aB 1) (vC (.int 0))) aM)) (bA 10) (aN (sIf (kN (dJ (eW (bC lC (aD (v2 kIx (aB 8) (aB 10)) aM)))) (jH (aV (v2 (kIn true) (aB 10) (aB 9))) (aV (v2 (kEq true) (v2 kIx (aB 8) (aB 10)) (vC (.int 0)))))) (cO (xOf (vC (.bl false)))) bI) (sIf (dJ (eW (bC kB (aD (aB 1) (aD (aB 2) (aD (aB 8) (aD (aB 10) aM))))))) (cO (xOf (vC (.bl false)))) bI))) (aN (fI (iR1 (aD (vC (.int 6)) aM)) (bA 11) (aN (aY 12 (xOf (bC nQ (aD (aB 0) (aD (v2 bU (vC (.int 40)) (v2 jW (vC (.int 12)) (aB 11))) (aD (aB 1) (aD (vC (.int 10)) aM))))))) (aN (aY 13 (xOf (vC (.int 0)))) (aN (aY 14 (xOf (vC (.int 0)))) (aN (mU [12] (fI (kA (aB 12)) (bA 15) (aN (gH [16, 17, 14, 18] (xOf (v2 kIx (v2 kIx (aB 1) (vC (.int 2))) (aB 15)))) (aY 13 (xOf (v2 sA (v2 bU (aB 13) (v2 kIx (aB 2) (aB 17))) (aB 18))))))) (sIf (aV (v2 kLt (aB 13) (v2 kIx (aB 8) (aB 14)))) (cO (xOf (vC (.bl false)))) bI)))))) (cO (xOf (vC (.bl true))))))))))))))
def f_law : Fn := fnOf 19 b_law
end VL.K11
end
section
namespace VL
open PySem PySem.Spec PyProof.Rows L2
theorem fE {X : Cx} {pos : Pos} {x : Str} {i : Int} (hm : ∃ t, X.mg x = some (.int i t)) (hg : Gl X x := by rfl) (hd : (x == ("__debug__" : Str)) = false := by decide) : SE X (.Name x pos) (vC (.int i)) := by
 obtain ⟨t, hm⟩ := hm
 exact aGr hm hg hd
theorem al1 {f0 : aQ} : sI 1 (aD f0 aM) := jB aDa
theorem al2 {f0 f1 : aQ} : sI 2 (aD f0 (aD f1 aM)) := jB al1
theorem al3 {f0 f1 f2 : aQ} : sI 3 (aD f0 (aD f1 (aD f2 aM))) := jB al2
theorem al4 {f0 f1 f2 f3 : aQ} : sI 4 (aD f0 (aD f1 (aD f2 (aD f3 aM)))) := jB al3
theorem al5 {f0 f1 f2 f3 f4 : aQ} : sI 5 (aD f0 (aD f1 (aD f2 (aD f3 (aD f4 aM))))) := jB al4
namespace K11
open PY K10
structure XT (K : FG) (mg : Y6) (M R C : Addr) : Prop where
 mM : mg "BadMachine" = some (.ref M)
 cM : oZ K "BadMachine" M
 xM : PySem.W.excIn K M bmV "ValueError.__new__" = true
 mR : mg "BadRow" = some (.ref R)
 cR : oZ K "BadRow" R
 xR : PySem.W.excIn K R bmV "ValueError.__new__" = true
 mC : mg "BadPrices" = some (.ref C)
 cC : oZ K "BadPrices" C
 xC : PySem.W.excIn K C bmV "ValueError.__new__" = true
def top (i : Nat) : Stmt := PySem.Challenge.pw_pursehall_k11_whole_least_purse.main.body.getD i (.Pass ⟨0, 0, 0, 0⟩)
structure Txt (K : FG) (mg : Y6) : Prop where
 n_bool : mg "bool" = none
 n_enumerate : mg "enumerate" = none
 n_int : mg "int" = none
 n_isinstance : mg "isinstance" = none
 n_len : mg "len" = none
 n_list : mg "list" = none
 n_max : mg "max" = none
 n_min : mg "min" = none
 n_range : mg "range" = none
 n_set : mg "set" = none
 n_sorted : mg "sorted" = none
 n_sum : mg "sum" = none
 n_tuple : mg "tuple" = none
 i_MOST_PLACES : ∃ t, mg "MOST_PLACES" = some (.int 200 t)
 i_MOST_KINDS : ∃ t, mg "MOST_KINDS" = some (.int 8 t)
 i_MOST_DEEDS : ∃ t, mg "MOST_DEEDS" = some (.int 600 t)
 i_MOST_COST : ∃ t, mg "MOST_COST" = some (.int 1000 t)
 i_MOST_PRICE : ∃ t, mg "MOST_PRICE" = some (.int 1000 t)
 d_is_whole : FnAt K "is_whole" (top 6)
 d_is_between : FnAt K "is_between" (top 7)
 d_is_deed : FnAt K "is_deed" (top 13)
 d_look_deeds : FnAt K "look_deeds" (top 14)
 d_look_machine : FnAt K "look_machine" (top 15)
 d_gone : FnAt K "gone" (top 16)
 d_deeds_from : FnAt K "deeds_from" (top 17)
 d_came_by : FnAt K "came_by" (top 18)
 d_reached : FnAt K "reached" (top 19)
 d_gain_of : FnAt K "gain_of" (top 21)
 d_way_to : FnAt K "way_to" (top 22)
 d_row_onward : FnAt K "row_onward" (top 23)
 d_ring_onward : FnAt K "ring_onward" (top 24)
 d_raise_once : FnAt K "raise_once" (top 25)
 d_most_gains : FnAt K "most_gains" (top 26)
 d_look_prices : FnAt K "look_prices" (top 29)
 d_costs_over : FnAt K "costs_over" (top 30)
 d_pays : FnAt K "pays" (top 31)
 d_breaks : FnAt K "breaks" (top 32)
 d_broken_by_ring : FnAt K "broken_by_ring" (top 33)
 d_least_purse : FnAt K "least_purse" (top 34)
 d_q_cell : FnAt K "_law_cell" (top 36)
 d_q_mix : FnAt K "_law_mix" (top 37)
 d_q_whole : FnAt K "_law_whole" (top 38)
 d_q_machine : FnAt K "_law_machine" (top 39)
 d_q_row : FnAt K "_law_row" (top 40)
 d_q_reached : FnAt K "_law_reached" (top 41)
 d_q_wanted : FnAt K "_law_wanted" (top 42)
 d_law : FnAt K "law" (top 43)
 xc : ∃ M R C, XT K mg M R C
abbrev KnT (P : Program) (w : World) (K : FG) (mg : Y6) (base : Heap) (l : Nat) (n : Str) (k : Nat) (f : Fn) : Prop := Txt K mg → K.In base → base.Ns mainGlobals mg → Kn P w K mg base l n k f
section
variable {P : Program} {w : World} {K : FG} {mg : Y6} {base : Heap}
def yY : List Str := ["thing"]
theorem yC : FnScope yY ["thing"] (aK (top 6)) := ⟨rfl, rfl, rfl, by decide +kernel, rfl, by decide +kernel, by decide +kernel⟩
theorem vU : KnT P w K mg base 1 "is_whole" 1 mO := fun T kb nb =>
 cZ T.d_is_whole kb nb yC rfl rfl (by decide) (fun _ _ _ _ _ _ us hl => match us, hl with | [_], _ => rfl) fun f cdv A outer s H E hr =>
  (aJ (bH (aR (vJ (gX (T' := "int") (by decide) (aA 0) T.n_isinstance T.n_int (by decide +kernel)) (qD (aDx (gX (T' := "bool") (by decide) (aA 0) T.n_isinstance T.n_bool (by decide +kernel))))))))
def uS : List Str := ["thing", "least", "most"]
theorem sF : FnScope uS ["thing", "least", "most"] (aK (top 7)) := ⟨rfl, rfl, rfl, by decide +kernel, rfl, by decide +kernel, by decide +kernel⟩
theorem cJ : KnT P w K mg base 2 "is_between" 3 bL := fun T kb nb =>
 cZ T.d_is_between kb nb sF rfl rfl (by decide) (fun _ _ _ _ _ _ us hl => match us, hl with | [_, _, _], _ => rfl) fun f cdv A outer s H E hr =>
  (aJ (bH (aR (vJ (aX (vU T kb nb) (hr.mono (by decide)) (aC (aA 0) aI) al1) (qD (aDb aJc aJc (aA 1) (aA 0) (aA 2)))))))
def aBx : List Str := ["machine", "deed", "last_place"]
theorem pX : FnScope aBx ["machine", "deed"] (aK (top 13)) := ⟨rfl, rfl, rfl, by decide +kernel, rfl, by decide +kernel, by decide +kernel⟩
theorem yR : KnT P w K mg base 3 "is_deed" 2 oI := fun T kb nb =>
 cZ T.d_is_deed kb nb pX rfl rfl (by decide) (fun _ _ _ _ _ _ us hl => match us, hl with | [_, _], _ => rfl) fun f cdv A outer s H E hr =>
  (aF (cL (lJ (kO (dW (cX (gX (T' := "tuple") (by decide) (aA 1) T.n_isinstance T.n_tuple (by decide +kernel)))) (iP (lP hr (fM T.n_len (aA 1)) aE)))) (aJ (bH (aR iJ))) bP) (aF (aT 2 pX.nd (aR (mK (aH (aA 0) aE) aE))) (aF (cL (lJ (kO (dW (cX (aX (cJ T kb nb) (hr.mono (by decide)) (aC (aH (aA 1) aE) (aC aE (aC (aA 2) aI))) al3))) (iP (dW (cX (aX (cJ T kb nb) (hr.mono (by decide)) (aC (aH (aA 1) aE) (aC aE (aC (aA 2) aI))) al3)))))) (aJ (bH (aR iJ))) bP) (aJ (bH (aR (vJ (aX (cJ T kb nb) (hr.mono (by decide)) (aC (aH (aA 1) aE) (aC aE (aC (mK (aH (aA 0) aE) aE) aI))) al3) (qD (aX (cJ T kb nb) (hr.mono (by decide)) (aC (aH (aA 1) aE) (aC aE (aC (fE T.i_MOST_COST) aI))) al3)))))))))
def uV : List Str := ["machine", "deeds", "number", "deed"]
theorem eM : FnScope uV ["machine"] (aK (top 14)) := ⟨rfl, rfl, rfl, by decide +kernel, rfl, by decide +kernel, by decide +kernel⟩
theorem rX (T : Txt K mg) (kb : K.In base) (nb : base.Ns mainGlobals mg) : Kn P w K mg base 4 "look_deeds" 1 jM := by
 obtain ⟨_, _, _, XX⟩ := T.xc
 exact cZ T.d_look_deeds kb nb eM rfl rfl (by decide) (fun _ _ _ _ _ _ us hl => match us, hl with | [_], _ => rfl) fun f cdv A outer s H E hr =>
   (aF (aT 1 eM.nd (aR (aH (aA 0) aE))) (aF (cL (lJ (kO (dW (cX (gX (T' := "list") (by decide) (aA 1) T.n_isinstance T.n_list (by decide +kernel)))) (iP (aDi (fM T.n_len (aA 1)) (fE T.i_MOST_DEEDS))))) (aJ (dY gR rfl XX.cM XX.xM XX.mM (jP (bF dQ (bF (iF (fE T.i_MOST_DEEDS)) (bF dQ jQ)))))) bP) (aF (dP bT.own rfl (oA T.n_enumerate (aA 1)) (kL rfl (dG (cK 2 eM.nd) (dG (cK 3 eM.nd) nP)) rfl rfl) (jO rfl) (aJ (cL (dW (cX (aX (yR T kb nb) (hr.mono (by decide)) (aC (aA 0) (aC (aA 3) aI)) al2))) (aJ (dY gR rfl XX.cM XX.xM XX.mM (jP (bF dQ (bF (iF (aA 2)) (bF dQ jQ)))))) bP))) (aJ (dP bT.own rfl (aBs T.n_range (aC aE (aC (fM T.n_len (aA 1)) aI))) (cK 2 eM.nd) bJ (aJ (cL (aLo hr (aH (aA 1) (aA 2)) (aH (aA 1) (mK (aA 2) aE))) (aJ (dY gR rfl XX.cM XX.xM XX.mM (jP (bF dQ (bF (iF (aA 2)) (bF dQ jQ)))))) bP)))))))
def rG : List Str := ["machine"]
theorem pE : FnScope rG ["machine"] (aK (top 15)) := ⟨rfl, rfl, rfl, by decide +kernel, rfl, by decide +kernel, by decide +kernel⟩
theorem gA (T : Txt K mg) (kb : K.In base) (nb : base.Ns mainGlobals mg) : Kn P w K mg base 5 "look_machine" 1 dX := by
 obtain ⟨_, _, _, XX⟩ := T.xc
 exact cZ T.d_look_machine kb nb pE rfl rfl (by decide) (fun _ _ _ _ _ _ us hl => match us, hl with | [_], _ => rfl) fun f cdv A outer s H E hr =>
   (aF (cL (lJ (kO (dW (cX (gX (T' := "tuple") (by decide) (aA 0) T.n_isinstance T.n_tuple (by decide +kernel)))) (iP (lP hr (fM T.n_len (aA 0)) aE)))) (aJ (dY gR rfl XX.cM XX.xM XX.mM dQ)) bP) (aF (cL (dW (cX (aX (cJ T kb nb) (hr.mono (by decide)) (aC (aH (aA 0) aE) (aC aE (aC (fE T.i_MOST_PLACES) aI))) al3))) (aJ (dY gR rfl XX.cM XX.xM XX.mM (jP (bF dQ (bF (iF (fE T.i_MOST_PLACES)) (bF dQ jQ)))))) bP) (aF (cL (dW (cX (aX (cJ T kb nb) (hr.mono (by decide)) (aC (aH (aA 0) aE) (aC aE (aC (fE T.i_MOST_KINDS) aI))) al3))) (aJ (dY gR rfl XX.cM XX.xM XX.mM (jP (bF dQ (bF (iF (fE T.i_MOST_KINDS)) (bF dQ jQ)))))) bP) (aJ (jS (eE bT (rX T kb nb) (hr.mono (by decide)) (aC (aA 0) aI) al1))))))
def aJx : List Str := ["machine", "row", "deeds", "places", "number"]
theorem pK : FnScope aJx ["machine", "row"] (aK (top 16)) := ⟨rfl, rfl, rfl, by decide +kernel, rfl, by decide +kernel, by decide +kernel⟩
theorem aHd (T : Txt K mg) (kb : K.In base) (nb : base.Ns mainGlobals mg) : Kn P w K mg base 6 "gone" 2 zO := by
 obtain ⟨_, _, _, XX⟩ := T.xc
 exact cZ T.d_gone kb nb pK rfl rfl (by decide) (fun _ _ _ _ _ _ us hl => match us, hl with | [_, _], _ => rfl) fun f cdv A outer s H E hr =>
   (aF (jS (eE bT (gA T kb nb) (hr.mono (by decide)) (aC (aA 0) aI) al1)) (aF (cL (dW (cX (gX (T' := "list") (by decide) (aA 1) T.n_isinstance T.n_list (by decide +kernel)))) (aJ (dY gR rfl XX.cR XX.xR XX.mR dQ)) bP) (aF (aT 2 pK.nd (aR (aH (aA 0) aE))) (aF (aT 3 pK.nd (aR (eY (aC aE aI)))) (aF (dP bT.own rfl (iR (aA 1)) (cK 4 pK.nd) bJ (aF (cL (dW (cX (aX (cJ T kb nb) (hr.mono (by decide)) (aC (aA 4) (aC aE (aC (mK (fM T.n_len (aA 2)) aE) aI))) al3))) (aJ (dY gR rfl XX.cR XX.xR XX.mR dQ)) bP) (aF (cL (lP hr (aH (aH (aA 2) (aA 4)) aE) (aH (aA 3) (vF aE))) (aJ (dY gR rfl XX.cR XX.xR XX.mR (jP (bF dQ (bF (iF (aA 4)) (bF dQ jQ)))))) bP) (aJ (eF 3 (aH (aH (aA 2) (aA 4)) aE)))))) (aJ (gL 3)))))))
def nK : List Str := ["machine", "numbers", "number", "deed"]
theorem fR : FnScope nK ["machine"] (aK (top 17)) := ⟨rfl, rfl, rfl, by decide +kernel, rfl, by decide +kernel, by decide +kernel⟩
theorem sN : KnT P w K mg base 1 "deeds_from" 1 jN := fun T kb nb =>
 cZ T.d_deeds_from kb nb fR rfl rfl (by decide) (fun _ _ _ _ _ _ us hl => match us, hl with | [_], _ => rfl) fun f cdv A outer s H E hr =>
  (aF (eA 1 fR.nd (aK (top 17)) nK ["place"] 1 [] rfl rfl rfl (cS T.n_range (aC (aH (aA 0) aE) aI)) bJ (by decide +kernel) fun _ _ _ _ => ⟨(cK 0 (show List.Nodup (["place"] : List Str) from (by decide +kernel))), vT, (eY aI)⟩) (aF (dP bT.own rfl (oA T.n_enumerate (aH (aA 0) aE)) (kL rfl (dG (cK 2 fR.nd) (dG (cK 3 fR.nd) nP)) rfl rfl) (jO rfl) (aJ (vX 1 (aH (aA 3) aE) (aA 2)))) (aJ (gL 1))))
def tQ : List Str := ["machine", "onward", "came", "places", "at", "number", "place"]
theorem eB : FnScope tQ ["machine"] (aK (top 18)) := ⟨rfl, rfl, rfl, by decide +kernel, rfl, by decide +kernel, by decide +kernel⟩
theorem rP : KnT P w K mg base 2 "came_by" 1 jA := fun T kb nb =>
 cZ T.d_came_by kb nb eB rfl rfl (by decide) (fun _ _ _ _ _ _ us hl => match us, hl with | [_], _ => rfl) fun f cdv A outer s H E hr =>
  (aF (aT 1 eB.nd (aR (aX (sN T kb nb) (hr.mono (by decide)) (aC (aA 0) aI) al1))) (aF (eA 2 eB.nd (aK (top 18)) tQ ["place"] 1 [] rfl rfl rfl (cS T.n_range (aC (aH (aA 0) aE) aI)) bJ (by decide +kernel) fun _ _ _ _ => ⟨(cK 0 (show List.Nodup (["place"] : List Str) from (by decide +kernel))), vT, jR⟩) (aF (aT 3 eB.nd (aR (eY (aC aE aI)))) (aF (aT 4 eB.nd (aR aE)) (aF (jZ [1] (jE fuel bT.own (qA (aA 4) (fM T.n_len (aA 3))) (aF (dP bT.own rfl (iR (aH (aA 1) (aH (aA 3) (aA 4)))) (cK 5 eB.nd) bJ (aF (aT 6 eB.nd (aR (aH (aH (aH (aA 0) aE) (aA 5)) aE))) (aJ (cL (lJ (oT (lP hr (aA 6) aE) (lD (aL2 (aH (aA 2) (aA 6)) jR)))) (aF (lV 2 (aA 6) (aA 5)) (aJ (eF 3 (aA 6)))) bP)))) (aJ (aDv 4 eB.nd aDg aE))))) (aJ (gL 2)))))))
def tF : List Str := ["machine"]
theorem yS : FnScope tF ["machine"] (aK (top 19)) := ⟨rfl, rfl, rfl, by decide +kernel, rfl, by decide +kernel, by decide +kernel⟩
theorem qJ : KnT P w K mg base 6 "reached" 1 lA := fun T kb nb =>
 cZ T.d_reached kb nb yS rfl rfl (by decide) (fun _ _ _ _ _ _ us hl => match us, hl with | [_], _ => rfl) fun f cdv A outer s H E hr =>
  (aF (jS (eE bT (gA T kb nb) (hr.mono (by decide)) (aC (aA 0) aI) al1)) (aJ (bH (aR (pQ (aK (top 19)) tF ["place", "number"] 2 [] rfl rfl rfl (oA T.n_enumerate (aX (rP T kb nb) (hr.mono (by decide)) (aC (aA 0) aI) al1)) (jO rfl) (by decide +kernel) fun _ _ _ _ => ⟨(kL rfl (dG (cK 0 (show List.Nodup (["place", "number"] : List Str) from (by decide +kernel))) (dG (cK 1 (show List.Nodup (["place", "number"] : List Str) from (by decide +kernel))) nP)) rfl rfl), vT, (aN0 (aOk hr (aA 0) aE) (qD (aGg (aA 1) jR)))⟩)))))
def tD : List Str := ["gains", "row"]
theorem zZ : FnScope tD ["gains", "row"] (aK (top 21)) := ⟨rfl, rfl, rfl, by decide +kernel, rfl, by decide +kernel, by decide +kernel⟩
theorem kC : KnT P w K mg base 1 "gain_of" 2 gP := fun T kb nb =>
 cZ T.d_gain_of kb nb zZ rfl rfl (by decide) (fun _ _ _ _ _ _ us hl => match us, hl with | [_, _], _ => rfl) fun f cdv A outer s H E hr =>
  (aJ (bH (aR (aK7 rfl T.n_sum (pQ (aK (top 21)) tD ["number", "gains"] 1 [0] rfl rfl rfl (iR (aA 1)) bJ (by decide +kernel) fun _ _ _ _ => ⟨(cK 0 (show List.Nodup (["number", "gains"] : List Str) from (by decide +kernel))), vT, (aH (aA 1) (aA 0))⟩)))))
def aD0 : List Str := ["machine", "place", "came", "way"]
theorem lH : FnScope aD0 ["machine", "place"] (aK (top 22)) := ⟨rfl, rfl, rfl, by decide +kernel, rfl, by decide +kernel, by decide +kernel⟩
theorem aCa : KnT P w K mg base 3 "way_to" 2 qK := fun T kb nb =>
 cZ T.d_way_to kb nb lH rfl rfl (by decide) (fun _ _ _ _ _ _ us hl => match us, hl with | [_, _], _ => rfl) fun f cdv A outer s H E hr =>
  (aF (aT 2 lH.nd (aR (aX (rP T kb nb) (hr.mono (by decide)) (aC (aA 0) aI) al1))) (aF (aT 3 lH.nd (aR (eY aI))) (aF (jE fuel bT.own (pM (aH (aA 2) (aA 1)) jR) (aF (eF 3 (aH (aA 2) (aA 1))) (aJ (aT 1 lH.nd (aR (aH (aH (aH (aA 0) aE) (aH (aA 2) (aA 1))) aE)))))) (aF (aJt 3) (aJ (gL 3))))))
def uW : List Str := ["machine", "onward", "place", "row"]
theorem iO : FnScope uW ["machine", "onward", "place"] (aK (top 23)) := ⟨rfl, rfl, rfl, by decide +kernel, rfl, by decide +kernel, by decide +kernel⟩
theorem rV : KnT P w K mg base 1 "row_onward" 3 jT := fun T kb nb =>
 cZ T.d_row_onward kb nb iO rfl rfl (by decide) (fun _ _ _ _ _ _ us hl => match us, hl with | [_, _, _], _ => rfl) fun f cdv A outer s H E hr =>
  (aF (aT 3 iO.nd (aR (eY aI))) (aF (jE fuel bT.own (pM (aH (aA 1) (aA 2)) jR) (aF (eF 3 (aH (aA 1) (aA 2))) (aJ (aT 2 iO.nd (aR (aH (aH (aH (aA 0) aE) (aH (aA 1) (aA 2))) aE)))))) (aJ (gL 3))))
def sG : List Str := ["machine", "onward", "place", "step", "ring", "at"]
theorem dA : FnScope sG ["machine", "onward", "place"] (aK (top 24)) := ⟨rfl, rfl, rfl, by decide +kernel, rfl, by decide +kernel, by decide +kernel⟩
theorem qP : KnT P w K mg base 1 "ring_onward" 3 iQ := fun T kb nb =>
 cZ T.d_ring_onward kb nb dA rfl rfl (by decide) (fun _ _ _ _ _ _ us hl => match us, hl with | [_, _, _], _ => rfl) fun f cdv A outer s H E hr =>
  (aF (dP bT.own rfl (cS T.n_range (aC (aH (aA 0) aE) aI)) (cK 3 dA.nd) bJ (aJ (aT 2 dA.nd (aR (aH (aH (aH (aA 0) aE) (aH (aA 1) (aA 2))) aE))))) (aF (aT 4 dA.nd (aR (eY (aC (aH (aA 1) (aA 2)) aI)))) (aF (aT 5 dA.nd (aR (aH (aH (aH (aA 0) aE) (aH (aA 1) (aA 2))) aE))) (aF (jE fuel bT.own (lP hr (aA 5) (aA 2)) (aF (eF 4 (aH (aA 1) (aA 5))) (aJ (aT 5 dA.nd (aR (aH (aH (aH (aA 0) aE) (aH (aA 1) (aA 5))) aE)))))) (aJ (gL 4))))))
def uL : List Str := ["machine", "gains", "numbers", "most", "onward", "raised", "number", "deed", "gain"]
theorem dO : FnScope uL ["machine", "gains", "numbers", "most", "onward"] (aK (top 25)) := ⟨rfl, rfl, rfl, by decide +kernel, rfl, by decide +kernel, by decide +kernel⟩
theorem rZ : KnT P w K mg base 1 "raise_once" 5 fH := fun T kb nb =>
 cZ T.d_raise_once kb nb dO rfl rfl (by decide) (fun _ _ _ _ _ _ us hl => match us, hl with | [_, _, _, _, _], _ => rfl) fun f cdv A outer s H E hr =>
  (aF (aT 5 dO.nd (aR jR)) (aF (dP bT.own rfl (iR (aA 2)) (cK 6 dO.nd) bJ (aF (aT 7 dO.nd (aR (aH (aH (aA 0) aE) (aA 6)))) (aF (aT 8 dO.nd (aR (bO (aH (aA 1) (aA 6)) (aH (aA 3) (aH (aA 7) aE))))) (aJ (cL (aDi (aA 8) (aH (aA 3) (aH (aA 7) aE))) (aF (lV 3 (aH (aA 7) aE) (aA 8)) (aF (lV 4 (aH (aA 7) aE) (aA 6)) (aJ (aT 5 dO.nd (aR (aH (aA 7) aE)))))) bP))))) (aJ (gL 5))))
def gJ : List Str := ["machine", "gains", "come_to", "numbers", "most", "onward", "raised", "rounds"]
theorem bW : FnScope gJ ["machine", "gains"] (aK (top 26)) := ⟨rfl, rfl, rfl, by decide +kernel, rfl, by decide +kernel, by decide +kernel⟩
theorem sL : KnT P w K mg base 7 "most_gains" 2 jX := fun T kb nb =>
 cZ T.d_most_gains kb nb bW rfl rfl (by decide) (fun _ _ _ _ _ _ us hl => match us, hl with | [_, _], _ => rfl) fun f cdv A outer s H E hr =>
  (aF (aT 2 bW.nd (eE bT (qJ T kb nb) (hr.mono (by decide)) (aC (aA 0) aI) al1)) (aF (eA 3 bW.nd (aK (top 26)) gJ ["number", "deed", "come_to"] 2 [2] rfl rfl rfl (oA T.n_enumerate (aH (aA 0) aE)) (jO rfl) (by decide +kernel) fun _ _ _ _ => ⟨(kL rfl (dG (cK 0 (show List.Nodup (["number", "deed", "come_to"] : List Str) from (by decide +kernel))) (dG (cK 1 (show List.Nodup (["number", "deed", "come_to"] : List Str) from (by decide +kernel))) nP)) rfl rfl), (aOy (cX (aH (aA 2) (aH (aA 1) aE)))), (aA 0)⟩) (aF (eA 4 bW.nd (aK (top 26)) gJ ["place"] 1 [] rfl rfl rfl (cS T.n_range (aC (aH (aA 0) aE) aI)) bJ (by decide +kernel) fun _ _ _ _ => ⟨(cK 0 (show List.Nodup (["place"] : List Str) from (by decide +kernel))), vT, aE⟩) (aF (eA 5 bW.nd (aK (top 26)) gJ ["place"] 1 [] rfl rfl rfl (cS T.n_range (aC (aH (aA 0) aE) aI)) bJ (by decide +kernel) fun _ _ _ _ => ⟨(cK 0 (show List.Nodup (["place"] : List Str) from (by decide +kernel))), vT, jR⟩) (aF (aT 6 bW.nd (aR aE)) (aF (aT 7 bW.nd (aR aE)) (aF (jZ [3] (jE fuel bT.own (lJ (oT (pM (aA 6) jR) (lD (qA (aA 7) (aH (aA 0) aE))))) (aF (aT 6 bW.nd (aFf (rZ T kb nb) (hr.mono (by decide)) (wK 0 (wK 1 (wK 3 (wK 4 (wK 5 aL4))))) rfl)) (aJ (aDv 7 bW.nd aDg aE))))) (aJ (jZ [4, 5] (bH (aR (mE (aC (aA 4) (aC (aA 5) (aC (aA 6) aI)))))))))))))))
def sC : List Str := ["machine", "prices", "kind", "price"]
theorem gZ : FnScope sC ["machine", "prices"] (aK (top 29)) := ⟨rfl, rfl, rfl, by decide +kernel, rfl, by decide +kernel, by decide +kernel⟩
theorem gY (T : Txt K mg) (kb : K.In base) (nb : base.Ns mainGlobals mg) : Kn P w K mg base 6 "look_prices" 2 dN := by
 obtain ⟨_, _, _, XX⟩ := T.xc
 exact cZ T.d_look_prices kb nb gZ rfl rfl (by decide) (fun _ _ _ _ _ _ us hl => match us, hl with | [_, _], _ => rfl) fun f cdv A outer s H E hr =>
   (aF (jS (eE bT (gA T kb nb) (hr.mono (by decide)) (aC (aA 0) aI) al1)) (aF (cL (lJ (kO (dW (cX (gX (T' := "list") (by decide) (aA 1) T.n_isinstance T.n_list (by decide +kernel)))) (iP (lP hr (fM T.n_len (aA 1)) (aH (aA 0) aE))))) (aJ (dY gR rfl XX.cC XX.xC XX.mC dQ)) bP) (aJ (dP bT.own rfl (oA T.n_enumerate (aA 1)) (kL rfl (dG (cK 2 gZ.nd) (dG (cK 3 gZ.nd) nP)) rfl rfl) (jO rfl) (aJ (cL (dW (cX (aX (cJ T kb nb) (hr.mono (by decide)) (aC (aA 3) (aC aE (aC (fE T.i_MOST_PRICE) aI))) al3))) (aJ (dY gR rfl XX.cC XX.xC XX.mC (jP (bF dQ (bF (iF (aA 2)) (bF dQ (bF (iF (fE T.i_MOST_PRICE)) jQ))))))) bP))))))
def mY : List Str := ["machine", "prices"]
theorem sJ : FnScope mY ["machine", "prices"] (aK (top 30)) := ⟨rfl, rfl, rfl, by decide +kernel, rfl, by decide +kernel, by decide +kernel⟩
theorem lQ : KnT P w K mg base 1 "costs_over" 2 gM := fun T kb nb =>
 cZ T.d_costs_over kb nb sJ rfl rfl (by decide) (fun _ _ _ _ _ _ us hl => match us, hl with | [_, _], _ => rfl) fun f cdv A outer s H E hr =>
  (aJ (bH (aR (pQ (aK (top 30)) mY ["deed", "prices"] 1 [1] rfl rfl rfl (iR (aH (aA 0) aE)) bJ (by decide +kernel) fun _ _ _ _ => ⟨(cK 0 (show List.Nodup (["deed", "prices"] : List Str) from (by decide +kernel))), vT, (mK (aH (aA 0) aE) (aH (aA 1) (aH (aA 0) aE)))⟩))))
def aKb : List Str := ["machine", "prices", "purse", "come_to", "deed"]
theorem vE : FnScope aKb ["machine", "prices", "purse"] (aK (top 31)) := ⟨rfl, rfl, rfl, by decide +kernel, rfl, by decide +kernel, by decide +kernel⟩
theorem aHx : KnT P w K mg base 7 "pays" 3 vD := fun T kb nb =>
 cZ T.d_pays kb nb vE rfl rfl (by decide) (fun _ _ _ _ _ _ us hl => match us, hl with | [_, _, _], _ => rfl) fun f cdv A outer s H E hr =>
  (aF (jS (eE bT (gY T kb nb) (hr.mono (by decide)) (aC (aA 0) (aC (aA 1) aI)) al2)) (aF (cL (lJ (kO (lP hr (fM T.n_len (aA 2)) (aH (aA 0) aE)) (kO (lP hr (aH (aA 2) aE) aE) (iP (qA (aLf rfl T.n_min (aA 2)) aE))))) (aJ (bH (aR iJ))) bP) (aF (aT 3 vE.nd (eE bT (qJ T kb nb) (hr.mono (by decide)) (aC (aA 0) aI) al1)) (aF (dP bT.own rfl (iR (aH (aA 0) aE)) (cK 4 vE.nd) bJ (aJ (cL (lJ (oT (cX (aH (aA 3) (aH (aA 4) aE))) (lD (qA (bO (aH (aA 2) (aH (aA 4) aE)) (aH (aA 1) (aH (aA 4) aE))) (bO (aH (aA 4) aE) (aH (aA 2) (aH (aA 4) aE))))))) (aJ (bH (aR iJ))) bP))) (aJ (bH (aR iJ)))))))
def aE9 : List Str := ["machine", "prices", "way", "ring", "many", "places", "over"]
theorem oO : FnScope aE9 ["machine", "prices", "way", "ring", "many"] (aK (top 32)) := ⟨rfl, rfl, rfl, by decide +kernel, rfl, by decide +kernel, by decide +kernel⟩
theorem aB5 : KnT P w K mg base 7 "breaks" 5 nA := fun T kb nb =>
 cZ T.d_breaks kb nb oO rfl rfl (by decide) (fun _ _ _ _ _ _ us hl => match us, hl with | [_, _, _, _, _], _ => rfl) fun f cdv A outer s H E hr =>
  (aF (jS (eE bT (gY T kb nb) (hr.mono (by decide)) (aC (aA 0) (aC (aA 1) aI)) al2)) (aF (aT 5 oO.nd (eE bT (aHd T kb nb) (hr.mono (by decide)) (aC (aA 0) (aC (bO (aA 2) (aA 3)) aI)) al2)) (aF (cL (lJ (kO (qA (aA 4) aE) (iP (lP hr (aH (aA 5) (fM T.n_len (aA 2))) (aH (aA 5) (vF aE)))))) (aJ (bH (aR iJ))) bP) (aF (aT 6 oO.nd (aR (aX (lQ T kb nb) (hr.mono (by decide)) (aC (aA 0) (aC (aA 1) aI)) al2))) (aJ (bH (aR (aOe (bO (aX (kC T kb nb) (hr.mono (by decide)) (aC (aA 6) (aC (aA 2) aI)) al2) (jC (aA 4) (aX (kC T kb nb) (hr.mono (by decide)) (aC (aA 6) (aC (aA 3) aI)) al2))) aE))))))))
def oN : List Str := ["machine", "over", "ring", "way", "many"]
theorem fC : FnScope oN ["machine", "over", "ring"] (aK (top 33)) := ⟨rfl, rfl, rfl, by decide +kernel, rfl, by decide +kernel, by decide +kernel⟩
theorem oC : KnT P w K mg base 4 "broken_by_ring" 3 fO := fun T kb nb =>
 cZ T.d_broken_by_ring kb nb fC rfl rfl (by decide) (fun _ _ _ _ _ _ us hl => match us, hl with | [_, _, _], _ => rfl) fun f cdv A outer s H E hr =>
  (aF (aT 3 fC.nd (aR (aX (aCa T kb nb) (hr.mono (by decide)) (aC (aA 0) (aC (aH (aH (aH (aA 0) aE) (aH (aA 2) aE)) aE) aI)) al2))) (aF (aT 4 fC.nd (aR (aHq rfl T.n_max aE (bO (nZ (vF (aX (kC T kb nb) (hr.mono (by decide)) (aC (aA 1) (aC (aA 3) aI)) al2)) (aX (kC T kb nb) (hr.mono (by decide)) (aC (aA 1) (aC (aA 2) aI)) al2)) aE)))) (aJ (jZ [3] (bH (aR (mE (aC oU (aC (aA 3) (aC (aA 2) (aC (aA 4) aI)))))))))))
def rW : List Str := ["machine", "prices", "over", "found", "purse", "onward", "raised"]
theorem dB : FnScope rW ["machine", "prices"] (aK (top 34)) := ⟨rfl, rfl, rfl, by decide +kernel, rfl, by decide +kernel, by decide +kernel⟩
theorem pT : KnT P w K mg base 8 "least_purse" 2 fU := fun T kb nb =>
 cZ T.d_least_purse kb nb dB rfl rfl (by decide) (fun _ _ _ _ _ _ us hl => match us, hl with | [_, _], _ => rfl) fun f cdv A outer s H E hr =>
  (aF (jS (eE bT (gY T kb nb) (hr.mono (by decide)) (aC (aA 0) (aC (aA 1) aI)) al2)) (aF (aT 2 dB.nd (aR (aX (lQ T kb nb) (hr.mono (by decide)) (aC (aA 0) (aC (aA 1) aI)) al2))) (aF (jZ [2] (aT 3 dB.nd (eE bT (sL T kb nb) (hr.mono (by decide)) (aC (aA 0) (aC (aA 2) aI)) al2))) (aF (aT 4 dB.nd (aR (aH (aA 3) aE))) (aF (aT 5 dB.nd (aR (aH (aA 3) aE))) (aF (aT 6 dB.nd (aR (aH (aA 3) aE))) (aF (cL (pM (aA 6) jR) (aJ (bH (aR (aX (oC T kb nb) (hr.mono (by decide)) (aC (aA 0) (aC (aA 2) (aC (aX (qP T kb nb) (hr.mono (by decide)) (aC (aA 0) (aC (aA 5) (aC (aA 6) aI))) al3) aI))) al3)))) bP) (aF (cL (aDi (aH (aA 4) aE) aE) (aJ (bH (aR (mE (aC oU (aC (aX (rV T kb nb) (hr.mono (by decide)) (aC (aA 0) (aC (aA 5) (aC aE aI))) al3) (aC (eY aI) (aC aE aI)))))))) bP) (aJ (bH (aR (mE (aC oU (aC (aA 4) aI))))))))))))))
def aD2 : List Str := ["_law_script", "_law_k"]
theorem aCf : FnScope aD2 ["_law_script", "_law_k"] (aK (top 36)) := ⟨rfl, rfl, rfl, by decide +kernel, rfl, by decide +kernel, by decide +kernel⟩
theorem aCv : KnT P w K mg base 1 "_law_cell" 2 qW := fun T kb nb =>
 cZ T.d_q_cell kb nb aCf rfl rfl (by decide) (fun _ _ _ _ _ _ us hl => match us, hl with | [_, _], _ => rfl) fun f cdv A outer s H E hr =>
  (aF (cL (cX (aA 0)) (aJ (bH (aR (aH (aA 0) (eZ (aA 1) (fM T.n_len (aA 0))))))) bP) (aJ (bH (aR aE))))
def aHs : List Str := ["_law_script", "_law_k", "_law_number"]
theorem pZ : FnScope aHs ["_law_script", "_law_k"] (aK (top 37)) := ⟨rfl, rfl, rfl, by decide +kernel, rfl, by decide +kernel, by decide +kernel⟩
theorem hV : KnT P w K mg base 2 "_law_mix" 2 cU := fun T kb nb =>
 cZ T.d_q_mix kb nb pZ rfl rfl (by decide) (fun _ _ _ _ _ _ us hl => match us, hl with | [_, _], _ => rfl) fun f cdv A outer s H E hr =>
  (aF (aT 2 pZ.nd (aR (eZ (bO (aX (aCv T kb nb) (hr.mono (by decide)) (aC (aA 0) (aC (aA 1) aI)) al2) (jC aE (bO (aA 1) aE))) aE))) (aF (aT 2 pZ.nd (aR (eZ (jC (aA 2) aE) aE))) (aJ (bH (aR (eZ (bO (jC (nZ (aA 2) aE) aE) (aA 2)) aE))))))
def aBt : List Str := ["_law_found"]
theorem zP : FnScope aBt ["_law_found"] (aK (top 38)) := ⟨rfl, rfl, rfl, by decide +kernel, rfl, by decide +kernel, by decide +kernel⟩
theorem zH : KnT P w K mg base 1 "_law_whole" 1 lC := fun T kb nb =>
 cZ T.d_q_whole kb nb zP rfl rfl (by decide) (fun _ _ _ _ _ _ us hl => match us, hl with | [_], _ => rfl) fun f cdv A outer s H E hr =>
  (aJ (bH (aR (vJ (gX (T' := "int") (by decide) (aA 0) T.n_isinstance T.n_int (by decide +kernel)) (qD (aDx (gX (T' := "bool") (by decide) (aA 0) T.n_isinstance T.n_bool (by decide +kernel))))))))
def wW : List Str := ["_law_script", "_law_k", "_law_most", "_law_places", "_law_kinds", "_law_deeds", "_law_j", "_law_number", "_law_cost"]
theorem dH : FnScope wW ["_law_script", "_law_k", "_law_most"] (aK (top 39)) := ⟨rfl, rfl, rfl, by decide +kernel, rfl, by decide +kernel, by decide +kernel⟩
theorem vI : KnT P w K mg base 3 "_law_machine" 3 iK := fun T kb nb =>
 cZ T.d_q_machine kb nb dH rfl rfl (by decide) (fun _ _ _ _ _ _ us hl => match us, hl with | [_, _, _], _ => rfl) fun f cdv A outer s H E hr =>
  (aF (aT 3 dH.nd (aR (bO aE (eZ (aX (hV T kb nb) (hr.mono (by decide)) (aC (aA 0) (aC (aA 1) aI)) al2) (aA 2))))) (aF (aT 4 dH.nd (aR (bO aE (eZ (aX (hV T kb nb) (hr.mono (by decide)) (aC (aA 0) (aC (bO (aA 1) aE) aI)) al2) aE)))) (aF (aT 5 dH.nd (aR (eY aI))) (aF (dP bT.own rfl (cS T.n_range (aC (eZ (aX (hV T kb nb) (hr.mono (by decide)) (aC (aA 0) (aC (bO (aA 1) aE) aI)) al2) (bO (jC aE (aA 2)) aE)) aI)) (cK 6 dH.nd) bJ (aF (aT 7 dH.nd (aR (aX (hV T kb nb) (hr.mono (by decide)) (aC (aA 0) (aC (bO (bO (aA 1) aE) (aA 6)) aI)) al2))) (aF (aT 8 dH.nd (aR (aH (eY (aC aE (aC aE (aC aE (aC aE (aC aE (aC aE (aC aE (aC aE aI))))))))) (eZ (nZ (aA 7) aE) aE)))) (aJ (eF 5 (mE (aC (eZ (aA 7) (aA 3)) (aC (eZ (nZ (aA 7) aE) (aA 4)) (aC (eZ (nZ (aA 7) aE) (aA 3)) (aC (aA 8) aI)))))))))) (aJ (jZ [5] (bH (aR (mE (aC (aA 3) (aC (aA 4) (aC (yJ hr rfl T.n_sorted T.n_set (aA 5)) aI))))))))))))
def aAt : List Str := ["_law_script", "_law_k", "_law_machine_here", "_law_most", "_law_found", "_law_here", "_law_j", "_law_some"]
theorem jG : FnScope aAt ["_law_script", "_law_k", "_law_machine_here", "_law_most"] (aK (top 40)) := ⟨rfl, rfl, rfl, by decide +kernel, rfl, by decide +kernel, by decide +kernel⟩
theorem aFt : KnT P w K mg base 3 "_law_row" 4 nQ := fun T kb nb =>
 cZ T.d_q_row kb nb jG rfl rfl (by decide) (fun _ _ _ _ _ _ us hl => match us, hl with | [_, _, _, _], _ => rfl) fun f cdv A outer s H E hr =>
  (aF (aT 4 jG.nd (aR (eY aI))) (aF (aT 5 jG.nd (aR aE)) (aF (dP bT.own rfl (cS T.n_range (aC (eZ (aX (hV T kb nb) (hr.mono (by decide)) (aC (aA 0) (aC (aA 1) aI)) al2) (bO (aA 3) aE)) aI)) (cK 6 jG.nd) bJ (aF (eA 7 jG.nd (aK (top 40)) aAt ["_law_number", "_law_here", "_law_machine_here"] 1 [5, 2] rfl rfl rfl (cS T.n_range (aC (fM T.n_len (aH (aA 2) aE)) aI)) bJ (by decide +kernel) fun _ _ _ _ => ⟨(cK 0 (show List.Nodup (["_law_number", "_law_here", "_law_machine_here"] : List Str) from (by decide +kernel))), (aOy (tV hr (aH (aH (aH (aA 2) aE) (aA 0)) aE) (aA 1))), (aA 0)⟩) (aJ (cL (cX (aA 7)) (aF (eF 4 (aH (aA 7) (eZ (aX (hV T kb nb) (hr.mono (by decide)) (aC (aA 0) (aC (bO (bO (aA 1) aE) (aA 6)) aI)) al2) (fM T.n_len (aA 7))))) (aJ (aT 5 jG.nd (aR (aH (aH (aH (aA 2) aE) (aH (aA 4) (vF aE))) aE))))) bP)))) (aJ (gL 4)))))
def xP : List Str := ["_law_machine_here", "_law_found", "_law_at", "_law_one", "_law_kind", "_law_other", "_law_cost"]
theorem cW : FnScope xP ["_law_machine_here"] (aK (top 41)) := ⟨rfl, rfl, rfl, by decide +kernel, rfl, by decide +kernel, by decide +kernel⟩
theorem uQ : KnT P w K mg base 1 "_law_reached" 1 iG := fun T kb nb =>
 cZ T.d_q_reached kb nb cW rfl rfl (by decide) (fun _ _ _ _ _ _ us hl => match us, hl with | [_], _ => rfl) fun f cdv A outer s H E hr =>
  (aF (aT 1 cW.nd (aR (eY (aC aE aI)))) (aF (aT 2 cW.nd (aR aE)) (aF (jE fuel bT.own (qA (aA 2) (fM T.n_len (aA 1))) (aF (dP bT.own rfl (iR (aH (aA 0) aE)) (kL rfl (dG (cK 3 cW.nd) (dG (cK 4 cW.nd) (dG (cK 5 cW.nd) (dG (cK 6 cW.nd) nP)))) rfl rfl) (jO rfl) (aJ (cL (lJ (oT (tV hr (aA 3) (aH (aA 1) (aA 2))) (lD (zN hr (aA 5) (aA 1))))) (aJ (eF 1 (aA 5))) bP))) (aJ (aT 2 cW.nd (aR (bO (aA 2) aE)))))) (aJ (gL 1)))))
def zY : List Str := ["_law_machine_here", "_law_prices", "_law_purse", "_law_here", "_law_level", "_law_k", "_law_later", "_law_place", "_law_one", "_law_kind", "_law_other", "_law_cost"]
theorem cI : FnScope zY ["_law_machine_here", "_law_prices", "_law_purse", "_law_here"] (aK (top 42)) := ⟨rfl, rfl, rfl, by decide +kernel, rfl, by decide +kernel, by decide +kernel⟩
theorem wG : KnT P w K mg base 1 "_law_wanted" 4 kB := fun T kb nb =>
 cZ T.d_q_wanted kb nb cI rfl rfl (by decide) (fun _ _ _ _ _ _ us hl => match us, hl with | [_, _, _, _], _ => rfl) fun f cdv A outer s H E hr =>
  (aF (aT 4 cI.nd (aR (eY (aC (aA 3) aI)))) (aF (dP bT.own rfl (cS T.n_range (aC (bO (aH (aA 0) aE) aE) aI)) (cK 5 cI.nd) bJ (aF (aT 6 cI.nd (aR (eY aI))) (aF (jZ [4] (dP bT.own rfl (iR (aA 4)) (cK 7 cI.nd) bJ (aF (cL (tV hr (aH (aA 2) (aA 7)) aE) (aJ (bH (aR iJ))) bP) (aJ (dP bT.own rfl (iR (aH (aA 0) aE)) (kL rfl (dG (cK 8 cI.nd) (dG (cK 9 cI.nd) (dG (cK 10 cI.nd) (dG (cK 11 cI.nd) nP)))) rfl rfl) (jO rfl) (aJ (cL (lJ (oT (tV hr (aA 8) (aA 7)) (lD (tV hr (aH (aA 2) (aA 8)) (bO (mK (aA 11) (aH (aA 1) (aA 9))) (aH (aA 2) (aA 10))))))) (aJ (eF 6 (aA 10))) bP))))))) (aJ (aT 4 cI.nd (aR (wQ hr rfl T.n_sorted T.n_set (aA 6)))))))) (aJ (bH (aR iJ)))))
def aEo : List Str := ["_law_script", "_law_machine_here", "_law_prices", "_law_found", "_law_word", "_law_way", "_law_ring", "_law_many", "_law_purse", "_law_some", "_law_place", "_law_k", "_law_row_here", "_law_left", "_law_here", "_law_number", "_law_one", "_law_kind", "_law_cost"]
theorem cY : FnScope aEo ["_law_script"] (aK (top 43)) := ⟨rfl, rfl, rfl, by decide +kernel, rfl, by decide +kernel, by decide +kernel⟩
theorem aL7 (T : Txt K mg) (base : Heap) (kb : K.In base) (nb : base.Ns mainGlobals mg) (f : Addr) (cdv : Value) (A : Around) (outer : List PySem.Env) (s : Shared) (H : Hp) (E : XK) (hr : Room 8 (A.deeper (envOfC "law" (aK (top 43)) s.heap.objs.size f cdv))) : SSs (lK (CX1 P w) P w K mg base aEo "law" (aK (top 43)) f cdv A outer s H E) (wOf K E) (fF (top 43)) b_law :=
 (aF (aT 1 cY.nd (aR (aX (vI T kb nb) (hr.mono (by decide)) (aC (aA 0) (aC aE (aC aE aI))) al3))) (aF (eA 2 cY.nd (aK (top 43)) aEo ["_law_k", "_law_script"] 1 [0] rfl rfl rfl (cS T.n_range (aC (aH (aA 1) aE) aI)) bJ (by decide +kernel) fun _ _ _ _ => ⟨(cK 0 (show List.Nodup (["_law_k", "_law_script"] : List Str) from (by decide +kernel))), vT, (aH (eY (aC aE (aC aE (aC aE (aC aE (aC aE (aC aE aI))))))) (eZ (aX (hV T kb nb) (hr.mono (by decide)) (aC (aA 1) (aC (bO aE (aA 0)) aI)) al2) aE))⟩) (aF (jZ [2] (aT 3 cY.nd (eE bT (pT T kb nb) (hr.mono (by decide)) (aC (aA 1) (aC (aF8 T.n_list (aA 2)) aI)) al2))) (aF (cL (lJ (kO (dW (cX (gX (T' := "tuple") (by decide) (aA 3) T.n_isinstance T.n_tuple (by decide +kernel)))) (iP (zN hr (aH (aA 3) aE) (mE (aC oU (aC oU aI))))))) (aJ (bH (aR iJ))) bP) (aF (cL (tV hr (aH (aA 3) aE) oU) (aF (sU rfl (aR (aA 3)) (dG (cK 4 cY.nd) (dG (cK 5 cY.nd) (dG (cK 6 cY.nd) (dG (cK 7 cY.nd) nP)))) rfl) (aJ (bH (eE bT (aB5 T kb nb) (hr.mono (by decide)) (aC (aA 1) (aC (aA 2) (aC (aA 5) (aC (aA 6) (aC (aA 7) aI))))) al5)))) bP) (aF (aT 8 cY.nd (aR (aH (aA 3) aE))) (aF (cL (lJ (kO (dW (cX (gX (T' := "list") (by decide) (aA 8) T.n_isinstance T.n_list (by decide +kernel)))) (iP (dW (cX (aX (aHx T kb nb) (hr.mono (by decide)) (aC (aA 1) (aC (aA 2) (aC (aA 8) aI))) al3)))))) (aJ (bH (aR iJ))) bP) (aF (aT 9 cY.nd (aR (aX (uQ T kb nb) (hr.mono (by decide)) (aC (aA 1) aI) al1))) (aF (dP bT.own rfl (cS T.n_range (aC (aH (aA 1) aE) aI)) (cK 10 cY.nd) bJ (aF (cL (lJ (kO (dW (cX (aX (zH T kb nb) (hr.mono (by decide)) (aC (aH (aA 8) (aA 10)) aI) al1))) (iP (lJ (oT (zN hr (aA 10) (aA 9)) (lD (lP hr (aH (aA 8) (aA 10)) aE))))))) (aJ (bH (aR iJ))) bP) (aJ (cL (dW (cX (aX (wG T kb nb) (hr.mono (by decide)) (aC (aA 1) (aC (aA 2) (aC (aA 8) (aC (aA 10) aI)))) al4))) (aJ (bH (aR iJ))) bP)))) (aF (dP bT.own rfl (cS T.n_range (aC aE aI)) (cK 11 cY.nd) bJ (aF (aT 12 cY.nd (aR (aX (aFt T kb nb) (hr.mono (by decide)) (aC (aA 0) (aC (bO aE (jC aE (aA 11))) (aC (aA 1) (aC aE aI)))) al4))) (aF (aT 13 cY.nd (aR aE)) (aF (aT 14 cY.nd (aR aE)) (aF (jZ [12] (dP bT.own rfl (iR (aA 12)) (cK 15 cY.nd) bJ (aF (sU rfl (aR (aH (aH (aA 1) aE) (aA 15))) (dG (cK 16 cY.nd) (dG (cK 17 cY.nd) (dG (cK 14 cY.nd) (dG (cK 18 cY.nd) nP)))) rfl) (aJ (aT 13 cY.nd (aR (mK (bO (aA 13) (aH (aA 2) (aA 17))) (aA 18)))))))) (aJ (cL (qA (aA 13) (aH (aA 8) (aA 14))) (aJ (bH (aR iJ))) bP))))))) (aJ (bH (aR iJ)))))))))))))
end
end K11
end VL
end
section
namespace VL
open PySem L2
def kF (r : R (D × Bool)) (k : D → Bool → Out) : Out := match r with | .ok (d, b) => k d b | _ => .bad
def onT (r : R Bool) (a b : Out) : Out := match r with | .ok true => a | .ok false => b | _ => .bad
def onI (r : R (List D)) (k : List D → Out) : Out := match r with | .ok ds => k ds | _ => .bad
def wF (fn : Fn) (ds : List D) (k : Bool) : R (D × Bool) := (fn ds).bind fun y => if k || isScal y.1 then .ok (y.1, true) else .bad
def Ret (fn : Fn) (ds : List D) (d : D) : Prop := ∃ os, fn ds = .ok (d, os)
theorem wU {fn : Fn} {ds : List D} {k : Bool} {d : D} (h : Ret fn ds d) : wF fn ds k = if k || isScal d then .ok (d, true) else .bad := by
 obtain ⟨os, h⟩ := h
 unfold wF; rw [h]; rfl
theorem aZ {fn : Fn} {ds : List D} {d : D} (h : Ret fn ds d) : wF fn ds true = .ok (d, true) := by rw [wU h]; rfl
theorem iL {fn : Fn} {ds : List D} {k : Bool} {d : D} (h : Ret fn ds d) (hs : isScal d = true) : wF fn ds k = .ok (d, true) := by rw [wU h, hs, Bool.or_true]; rfl
theorem pP {n : Nat} {body : aU} {ds : List D} {d : D} (h : ∃ ρ, body (entry n ds) = .ret d ρ) : Ret (fnOf n body) ds d := by
 obtain ⟨ρ, h⟩ := h
 exact ⟨_, by unfold fnOf; rw [h]⟩
theorem aE4 {n : Nat} {body : aU} {ds : List D} (h : ∃ ρ, body (entry n ds) = .next ρ) : Ret (fnOf n body) ds .non := by
 obtain ⟨ρ, h⟩ := h
 exact ⟨_, by unfold fnOf; rw [h]⟩
@[simp] theorem aH0 {d : D} {b : Bool} {k : D → Bool → Out} : kF (.ok (d, b)) k = k d b := rfl
@[simp] theorem aRs {a b : Out} : onT (.ok true) a b = a := rfl
@[simp] theorem aNr {a b : Out} : onT (.ok false) a b = b := rfl
@[simp] theorem aQz {ds : List D} {k : List D → Out} : onI (.ok ds) k = k ds := rfl
@[simp] theorem cN {α β : Type} {a : α} {f : α → R β} : (R.ok a).bind f = f a := rfl
@[simp] theorem aOg {α β : Type} {f : α → R β} : (R.bad : R α).bind f = .bad := rfl
@[simp] theorem cT {ρ : Env} {g : aU} : (Out.next ρ).andThen g = g ρ := rfl
@[simp] theorem aIj {ρ : Env} {d : D} {g : aU} : (Out.ret d ρ).andThen g = .ret d ρ := rfl
@[simp] theorem fG {f g : aU} {ρ : Env} : aN f g ρ = (f ρ).andThen g := rfl
@[simp] theorem aEx {ρ : Env} : bI ρ = .next ρ := rfl
@[simp] theorem aPi {ρ : Env} : aQb ρ = .bad := rfl
@[simp] theorem aNu {d : D} {ρ : Env} : vC d ρ = .ok (d, true) := rfl
@[simp] theorem aNp {k : D × Bool → D × Bool → R (D × Bool)} {f g : aQ} {ρ : Env} : v2 k f g ρ = (f ρ).bind fun x => (g ρ).bind fun y => k x y := rfl
@[simp] theorem aRr {k : D × Bool → R (D × Bool)} {f : aQ} {ρ : Env} : v1 k f ρ = (f ρ).bind k := rfl
@[simp] theorem aFx {ρ : Env} : aM ρ = .ok [] := rfl
@[simp] theorem aEa {f : aQ} {g : dC} {ρ : Env} : aD f g ρ = (f ρ).bind fun x => (g ρ).bind fun xs => .ok (x :: xs) := rfl
@[simp] theorem aQ1 {k : List (D × Bool) → R (D × Bool)} {g : dC} {ρ : Env} : vCB k g ρ = (g ρ).bind k := rfl
@[simp] theorem aPu {f g : aQ} {ρ : Env} : zS f g ρ = (f ρ).bind fun x => match x.1 with | .bl true => g ρ | .bl false => .ok (.bl false, true) | _ => .bad := rfl
@[simp] theorem aPc {b c : Bool} : aC7 (.bl b, c) = .ok (.bl (!b), true) := rfl
@[simp] theorem aMp {p q : Int → Int → Bool} {f g h : aQ} {ρ : Env} : uK p q f g h ρ = (f ρ).bind fun x => (g ρ).bind fun y => match x.1, y.1 with
 | .int i, .int j => if p i j then (h ρ).bind fun z => (match z.1 with | .int k => .ok (.bl (q j k), true) | _ => .bad) else .ok (.bl false, true)
 | _, _ => .bad := rfl
@[simp] theorem aN9 {fn : Fn} {g : dC} {ρ : Env} : bC fn g ρ = (g ρ).bind fun xs => wF fn (D.frzs (xs.map (·.1))) (xs.all aL) := rfl
@[simp] theorem aDf {f : aQ} {ρ : Env} : aV f ρ = (f ρ).bind fun x => match x.1 with | .bl b => .ok b | _ => .bad := rfl
@[simp] theorem aO6 {f : aQ} {ρ : Env} : eW f ρ = (f ρ).bind fun x => if dF x.1 then .ok (fZ x.1) else .bad := rfl
@[simp] theorem aP2 {f g : bZ} {ρ : Env} : jH f g ρ = (f ρ).bind fun c => if c = true then g ρ else .ok false := rfl
@[simp] theorem aQ7 {f g : bZ} {ρ : Env} : kN f g ρ = (f ρ).bind fun c => if c = true then .ok true else g ρ := rfl
@[simp] theorem aO9 {f : bZ} {ρ : Env} : dJ f ρ = (f ρ).bind fun c => .ok (!c) := rfl
@[simp] theorem aNi {ρ : Env} : dD ρ = .ok true := rfl
@[simp] theorem aPv {g : dC} {ρ : Env} : iX g ρ = (g ρ).bind fun xs => if xs.all aL && decide (xs.length ≤ 1000000) then .ok (.lst true (xs.map (·.1)), true) else .bad := rfl
@[simp] theorem aGk {g : dC} {ρ : Env} : rL g ρ = (g ρ).bind fun xs => if xs.all aL && decide (xs.length ≤ 1000000) then .ok (.tup (D.frzs (xs.map (·.1))), true) else .bad := rfl
@[simp] theorem aP3 {f : aQ} {ρ : Env} : kA f ρ = (f ρ).bind aBv := rfl
@[simp] theorem aPs {f : aQ} {ρ : Env} : rR f ρ = (f ρ).bind fun x => (vL x).bind fun ds => .ok (lM ds) := rfl
@[simp] theorem aQ6 {ds : List D} {b : Bool} : vL (.lst false ds, b) = if aL (.lst false ds, b) then .ok (D.frzs ds) else .bad := rfl
@[simp] theorem aQf {o : Bool} {ds : List D} : vL (.lst o ds, true) = .ok (D.frzs ds) := rfl
@[simp] theorem aQv {o : Bool} {ds : List D} : aBv (.lst o ds, true) = .ok (D.frzs ds) := rfl
@[simp] theorem aQs {b : Bool} {ds : List D} : aBv (.lst false ds, b) = if aL (.lst false ds, b) then .ok (D.frzs ds) else .bad := rfl
@[simp] theorem aQx {b : Bool} {ds : List D} : aBv (.tup ds, b) = .ok ds := rfl
@[irreducible] def zR (j : Int) : R (List D) := if bX j then .ok (fD 0 j.toNat) else .bad
def kR1 : List (D × Bool) → R (List D)
 | [(.int j, _)] => zR j | _ => .bad
@[simp] theorem aRb {g : dC} {ρ : Env} : iR1 g ρ = (g ρ).bind kR1 := by
 unfold iR1 kR1 zR; rfl
@[simp] theorem aQ4 {j : Int} {b : Bool} : kR1 [(.int j, b)] = zR j := rfl
@[simp] theorem aC0 {d : D} {ρ : Env} : aB 0 (.val d :: ρ) = .ok (d, false) := rfl
@[simp] theorem aQl {d : D} {ρ : Env} : aB 0 (.pin d :: ρ) = .ok (d, false) := rfl
@[simp] theorem aIi {i : Nat} {s : Slot} {ρ : Env} : aB (i + 1) (s :: ρ) = aB i ρ := rfl
def np (s : Slot) : Prop := ∀ d, s ≠ .pin d
@[simp] theorem bE : np .un := fun _ h => by cases h
@[simp] theorem aS {d : D} : np (.val d) := fun _ h => by cases h
@[simp] theorem aRd {d : D} : ¬ np (.pin d) := fun h => h d rfl
@[simp] theorem aFu {s : Slot} {ρ : Env} (h : np s) : free (s :: ρ) 0 = true := by
 cases s <;> first | rfl | exact absurd rfl (h _)
@[simp] theorem aLk {i : Nat} {s : Slot} {ρ : Env} : free (s :: ρ) (i + 1) = free ρ i := by unfold free; simp
@[simp] theorem aPz {d : D} {ρ : Env} : getD (.val d :: ρ) 0 = some d := rfl
@[simp] theorem aO7 {d : D} {ρ : Env} : getD (.pin d :: ρ) 0 = some d := rfl
@[simp] theorem aO8 {ρ : Env} : getD (.un :: ρ) 0 = none := rfl
@[simp] theorem aLs {i : Nat} {s : Slot} {ρ : Env} : getD (s :: ρ) (i + 1) = getD ρ i := rfl
@[simp] theorem aPf {c d : D} {ρ : Env} : putD (.val c :: ρ) 0 d = .val d :: ρ := rfl
@[simp] theorem aQd {i : Nat} {d : D} {s : Slot} {ρ : Env} : putD (s :: ρ) (i + 1) d = s :: putD ρ i d := by
 unfold putD
 simp only [List.getElem?_cons_succ]
 cases ρ[i]? with
 | none => rfl
 | some t => cases t <;> rfl
@[simp] theorem xV {i : Nat} {d : D} {ρ : Env} : bA i d ρ = if free ρ i then some (ρ.set i (.val d)) else none := rfl
@[simp] theorem aN4 {is : T0} {ds : List D} {ρ : Env} : dE is (.tup ds) ρ = cQ is ds ρ := rfl
@[simp] theorem aLa {ρ : Env} : cQ [] [] ρ = some ρ := rfl
@[simp] theorem aIk {i : Nat} {is : T0} {d : D} {ds : List D} {ρ : Env} : cQ (i :: is) (d :: ds) ρ = if d.calm then (bA i d ρ).bind (cQ is ds) else none := rfl
@[simp] theorem aNq {g : Int → Int → D} {i j : Int} {b c : Bool} : kI g (.int i, b) (.int j, c) = .ok (g i j, true) := rfl
@[simp] theorem aQa {p : Int → Int → Bool} {g : Int → Int → D} {i j : Int} {b c : Bool} : kIc p g (.int i, b) (.int j, c) = if p i j = true then .ok (g i j, true) else .bad := rfl
@[simp] theorem aRw {g : Int → D} {i : Int} {b : Bool} : kU g (.int i, b) = .ok (g i, true) := rfl
@[simp] theorem aOt {i j : Int} {b c : Bool} : bU (.int i, b) (.int j, c) = .ok (.int (i + j), true) := rfl
@[simp] theorem aPq {o p : Bool} {ds es : List D} {b c : Bool} : bU (.lst o ds, b) (.lst p es, c) = if D.bK ds && D.bK es && decide (ds.length + es.length ≤ 1000000) then .ok (.lst true (ds ++ es), true) else .bad := rfl
@[simp] theorem aMn {i j : Int} {b c : Bool} : jW (.int i, b) (.int j, c) = if (fits i && fits j) = true then .ok (.int (i * j), true) else .bad := rfl
@[simp] theorem aRn {o b c : Bool} {ds : List D} {i : Int} : kIx (.lst o ds, b) (.int i, c) = R.of ((atI ds i).map (·, b)) := rfl
@[simp] theorem aRu {b c : Bool} {ds : List D} {i : Int} : kIx (.tup ds, b) (.int i, c) = R.of ((atI ds i).map (·, b)) := rfl
@[simp] theorem aPk {α : Type} {a : α} : R.of (some a) = .ok a := rfl
@[simp] theorem aQ9 {o b : Bool} {ds : List D} : iD [(.lst o ds, b)] = .ok (.int ds.length, true) := rfl
@[simp] theorem aRa {b : Bool} {ds : List D} : iD [(.tup ds, b)] = .ok (.int ds.length, true) := rfl
@[simp] theorem aP1 {b : Bool} {ds : List D} : tH [(.tup ds, b)] = .ok (.lst true ds, true) := rfl
@[simp] theorem aPb {n : Bool} {d : D} {b c : Bool} : kJ n (d, b) (.non, c) = .ok (.bl (if n then !fK d else fK d), true) := rfl
@[simp] theorem aJ7 {i : Nat} {f : aQ} {ρ : Env} : aY i (xOf f) ρ = kF (f ρ) fun d b => if (b || d.calm) && free ρ i then .next (ρ.set i (.val d)) else .bad := by
 unfold aY xOf kF; cases f ρ <;> rfl
@[simp] theorem aLd {f : aQ} {ρ : Env} : cO (xOf f) ρ = kF (f ρ) fun d b => if (b || d.calm) then .ret d ρ else .bad := by
 unfold cO xOf kF; cases f ρ <;> rfl
@[simp] theorem aO5 {f : aQ} {ρ : Env} : iH (xOf f) ρ = kF (f ρ) fun _ _ => .next ρ := by
 unfold iH xOf kF; cases f ρ <;> rfl
@[simp] theorem aM3 {c : bZ} {f g : aU} {ρ : Env} : sIf c f g ρ = onT (c ρ) (f ρ) (g ρ) := by
 unfold sIf onT; cases c ρ with
 | ok a => cases a <;> rfl
 | exc c => rfl
 | bad => rfl
@[simp] theorem aQp {f : iT} {set : D → Env → Option Env} {b : aU} {ρ : Env} : fI f set b ρ = onI (f ρ) fun ds => forL set b ds ρ := by
 unfold fI onI; cases f ρ <;> rfl
@[simp] theorem aQ5 {i : Nat} {f : aQ} {ρ : Env} : cG i f ρ = kF (f ρ) fun d b => match (getD ρ i).bind fun e => pD e (d, b) with | some e => .next (putD ρ i e) | none => .bad := by
 unfold cG kF; cases f ρ <;> rfl
@[simp] theorem aPr {ds : List D} {x : D × Bool} : pD (.lst true ds) x = if aL x && decide (ds.length < 1000000) then some (.lst true (ds ++ [x.1])) else none := rfl
@[simp] theorem aPo {i : Nat} {ρ : Env} : iW i ρ = match ρ[i]? with | some (.val d) => .ret d (ρ.set i .un) | some (.pin d) => if d.calm then .ret d ρ else .bad | _ => .bad := rfl
@[simp] theorem aL9 {is : T0} {g : aU} {ρ : Env} : mU is g ρ = g (is.foldl frz1 ρ) := rfl
@[simp] theorem aG2 {d : D} {ρ : Env} : frz1 (.val d :: ρ) 0 = .val d.frz :: ρ := rfl
@[simp] theorem aPn {ρ : Env} : frz1 (.un :: ρ) 0 = .un :: ρ := rfl
@[simp] theorem aMe {i : Nat} {s : Slot} {ρ : Env} : frz1 (s :: ρ) (i + 1) = s :: frz1 ρ i := by
 unfold frz1
 rw [aLs]
 cases getD ρ i <;> simp
@[simp] theorem aQy {d : D} : aL (d, true) = true := rfl
@[simp] theorem aLx {d : D} : aL (d, false) = d.calm := rfl
def I (xs : Y0) : List D := xs.map D.int
@[simp] theorem aRl : I [] = [] := rfl
@[simp] theorem aOx (xs : Y0) : (I xs).length = xs.length := by simp [I]
@[simp] theorem aRc (xs : Y0) (x : Int) : I xs ++ [.int x] = I (xs ++ [x]) := by simp [I]
def gt (xs : Y0) (k : Nat) : Int := xs.getD k 0
theorem aOh {xs : Y0} {k : Nat} (h : k < xs.length) : xs[k]? = some (gt xs k) := by simp [gt, List.getElem?_eq_getElem h]
theorem aJd {xs : Y0} {k : Nat} (h : k < xs.length) : (I xs)[k]? = some (.int (gt xs k)) := by simp [I, aOh h]
@[simp] theorem aBf : ∀ xs : Y0, D.bK (I xs) = true
 | [] => rfl
 | _ :: xs => by show (true && D.bK (I xs)) = true; rw [aBf xs]; rfl
@[simp] theorem aDl : ∀ xs : Y0, D.frzs (I xs) = I xs
 | [] => rfl
 | x :: xs => by show D.int x :: D.frzs (I xs) = _; rw [aDl xs]; rfl
@[simp] theorem vA : ∀ xs : Y0, bY (I xs) = some xs
 | [] => rfl
 | x :: xs => by show (bY (I xs)).map (x :: ·) = _; rw [vA xs]; rfl
@[simp] theorem aNn {i : Int} : (D.int i).calm = true := rfl
@[simp] theorem aM8 {x : Str} : (D.str x).calm = true := rfl
@[simp] theorem aOj : D.non.calm = true := rfl
@[simp] theorem aP7 {x : Bool} : (D.bl x).calm = true := rfl
@[simp] theorem aMz {ds : List D} : (D.tup ds).calm = D.bK ds := rfl
@[simp] theorem vZ {o : Bool} {ds : List D} : (D.lst o ds).calm = (!o && D.bK ds) := rfl
@[simp] theorem aMk : D.bK [] = true := rfl
@[simp] theorem pO {d : D} {ds : List D} : D.bK (d :: ds) = (d.calm && D.bK ds) := rfl
@[simp] theorem aPm {i : Int} : (D.int i).frz = .int i := rfl
@[simp] theorem aPj {x : Str} : (D.str x).frz = .str x := rfl
@[simp] theorem aP5 : D.non.frz = .non := rfl
@[simp] theorem aP8 {x : Bool} : (D.bl x).frz = .bl x := rfl
@[simp] theorem aHc {ds : List D} : (D.tup ds).frz = .tup (D.frzs ds) := rfl
@[simp] theorem aA1 {o : Bool} {ds : List D} : (D.lst o ds).frz = .lst false (D.frzs ds) := rfl
@[simp] theorem aE5 : D.frzs [] = [] := rfl
@[simp] theorem sT {d : D} {ds : List D} : D.frzs (d :: ds) = d.frz :: D.frzs ds := rfl
mutual
theorem frz_calm : ∀ d : D, d.frz.calm = true
 | .non => rfl | .bl _ => rfl | .int _ => rfl | .str _ => rfl
 | .tup ds => frzs_calm ds
 | .lst _ ds => by show (!false && D.bK (D.frzs ds)) = true; rw [frzs_calm ds]; rfl
 | .ext _ _ => rfl
theorem frzs_calm : ∀ ds : List D, D.bK (D.frzs ds) = true
 | [] => rfl
 | d :: ds => by show (d.frz.calm && D.bK (D.frzs ds)) = true; rw [frz_calm d, frzs_calm ds]; rfl
end
mutual
theorem mX : ∀ d : D, d.calm = true → d.frz = d
 | .non, _ => rfl | .bl _, _ => rfl | .int _, _ => rfl | .str _, _ => rfl
 | .tup ds, h => by rw [aHc, jK ds h]
 | .lst o ds, h => by
  rw [vZ, Bool.and_eq_true] at h
  rw [aA1, jK ds h.2]
  cases o
  ·rfl
  ·cases h.1
 | .ext o t, h => by
  cases o
  ·rfl
  ·cases h
theorem jK : ∀ ds : List D, D.bK ds = true → D.frzs ds = ds
 | [], _ => rfl
 | d :: ds, h => by
  rw [pO, Bool.and_eq_true] at h
  rw [sT, mX d h.1, jK ds h.2]
end
@[simp] theorem aPy (d : D) : d.frz.frz = d.frz := mX _ (frz_calm d)
@[simp] theorem aMj (ds : List D) : D.frzs (D.frzs ds) = D.frzs ds := jK _ (frzs_calm ds)
@[simp] theorem eq_int {n : Bool} {i j : Int} {b c : Bool} : kEq n (.int i, b) (.int j, c) = .ok (.bl (if n then !decide (i = j) else decide (i = j)), true) := by
 unfold kEq
 have : zE (.int i) (.int j) = true := rfl
 rw [if_pos this]
 show R.ok (D.bl (if n then !(i == j) else (i == j)), true) = _
 rw [show (i == j) = decide (i = j) from by by_cases h : i = j <;> simp [h]]
@[simp] theorem aMm {lo : Int} {n : Nat} : (fD lo n).length = n := by simp [fD]
theorem aG7 {n : Nat} : fD 0 n = (List.range n).map fun i : Nat => D.int (i : Int) := by simp [fD]
theorem tR {n : Nat} (h : n ≤ 1000000) : bX (n : Int) = true := by
 unfold bX; rw [Bool.and_eq_true, decide_eq_true_iff, decide_eq_true_iff]; omega
theorem eO {n : Nat} (h : n ≤ 1000000) : zR (n : Int) = .ok ((List.range n).map fun i : Nat => D.int (i : Int)) := by
 unfold zR
 rw [if_pos (tR h), aG7, Int.toNat_natCast]
theorem eD {α : Type} {xs : List α} {k : Nat} : atI xs (k : Int) = xs[k]? := by
 unfold atI ixN
 by_cases h : (k : Int) < xs.length
 ·rw [if_pos (by omega), if_pos h]; simp
 ·rw [if_pos (by omega), if_neg h]
  have : xs.length ≤ k := by omega
  simp [this]
theorem aDj {α : Type} {xs : List α} : atI xs (-1) = xs.getLast? := by
 unfold atI ixN
 rw [if_neg (by omega)]
 by_cases h : xs = []
 ·subst h; rfl
 ·have : 0 < xs.length := List.length_pos_iff.mpr h
  rw [if_pos (by omega)]
  show xs[(-1 + (xs.length : Int)).toNat]? = _
  rw [List.getLast?_eq_getElem?]
  congr 1; omega
theorem aI2 {α : Type} {bV : Env} {e : aQ} {φ ψ : α → D} {b : α → Bool} : ∀ (xs : List α) (t : Slot), np t → (∀ x ∈ xs, e (.val (φ x) :: bV) = .ok (ψ x, b x) ∧ aL (ψ x, b x) = true) → fX (bA 0) dD e (xs.map φ) (t :: bV) = .ok (xs.map ψ)
 | [], _, _, _ => rfl
 | x :: xs, t, ht, h => by
  obtain ⟨h1, h2⟩ := h x List.mem_cons_self
  have ih := aI2 xs (.val (φ x)) aS fun y hy => h y (List.mem_cons_of_mem _ hy)
  show (match bA 0 (φ x) (t :: bV) with | none => R.bad | some ρ1 => _) = _
  rw [xV, if_pos (aFu ht)]
  show (R.ok true).bind _ = _
  rw [cN, if_pos rfl]
  show (e (.val (φ x) :: bV)).bind _ = _
  rw [h1, cN, if_pos h2]
  show (fX (bA 0) dD e (xs.map φ) (.val (φ x) :: bV)).bind _ = _
  rw [ih]; rfl
theorem aIu {α : Type} {bV : Env} {e : aQ} {φ χ ψ : α → D} {b : α → Bool} : ∀ (xs : List α) (t u : Slot), np t → np u → (∀ x ∈ xs, (φ x).calm = true ∧ (χ x).calm = true ∧ e (.val (φ x) :: .val (χ x) :: bV) = .ok (ψ x, b x) ∧ aL (ψ x, b x) = true) →
  fX (dE [0, 1]) dD e (xs.map fun x => .tup [φ x, χ x]) (t :: u :: bV) = .ok (xs.map ψ)
 | [], _, _, _, _, _ => rfl
 | x :: xs, t, u, ht, hu, h => by
  obtain ⟨c1, c2, h1, h2⟩ := h x List.mem_cons_self
  have ih := aIu xs (.val (φ x)) (.val (χ x)) aS aS fun y hy => h y (List.mem_cons_of_mem _ hy)
  have hb : dE [0, 1] (.tup [φ x, χ x]) (t :: u :: bV) = some (.val (φ x) :: .val (χ x) :: bV) := by
   simp [c1, c2, ht, hu]
  show (match dE [0, 1] (.tup [φ x, χ x]) (t :: u :: bV) with | none => R.bad | some ρ1 => _) = _
  rw [hb]
  show (R.ok true).bind _ = _
  rw [cN, if_pos rfl]
  show (e (.val (φ x) :: .val (χ x) :: bV)).bind _ = _
  rw [h1, cN, if_pos h2]
  show (fX (dE [0, 1]) dD e (xs.map fun x => .tup [φ x, χ x]) (.val (φ x) :: .val (χ x) :: bV)).bind _ = _
  rw [ih]; rfl
theorem mF {α : Type} {it : iT} {js : T0} {e : aQ} {ρ : Env} (bV : Env) (xs : List α) (φ ψ : α → D) (b : α → Bool) (hi : it ρ = .ok (xs.map φ)) (hl : xs.length ≤ 1000000) (hc : js.map (jJ ρ) = bV)
  (he : ∀ x ∈ xs, e (.val (φ x) :: bV) = .ok (ψ x, b x) ∧ aL (ψ x, b x) = true) (hk : js.all (lR ρ) = true ∨ ∀ x ∈ xs, isScal (ψ x) = true) : cB it 1 js (bA 0) dD e ρ = .ok (.lst true (xs.map ψ), true) := by
 unfold cB
 rw [hi, cN, if_pos (by simpa using hl), hc]
 show (fX (bA 0) dD e (xs.map φ) (.un :: bV)).bind _ = _
 rw [aI2 xs .un bE he, cN, if_pos]
 rcases hk with h | h
 ·rw [h]; rfl
 ·rw [Bool.or_eq_true]; right; rw [List.all_eq_true]
  intro d hd
  obtain ⟨x, hx, rfl⟩ := List.mem_map.mp hd
  exact h x hx
theorem aL3 {α : Type} {it : iT} {js : T0} {e : aQ} {ρ : Env} (bV : Env) (xs : List α) (φ χ ψ : α → D) (b : α → Bool) (hi : it ρ = .ok (xs.map fun x => .tup [φ x, χ x])) (hl : xs.length ≤ 1000000) (hc : js.map (jJ ρ) = bV)
  (he : ∀ x ∈ xs, (φ x).calm = true ∧ (χ x).calm = true ∧ e (.val (φ x) :: .val (χ x) :: bV) = .ok (ψ x, b x) ∧ aL (ψ x, b x) = true) (hk : js.all (lR ρ) = true ∨ ∀ x ∈ xs, isScal (ψ x) = true) : cB it 2 js (dE [0, 1]) dD e ρ = .ok (.lst true (xs.map ψ), true) := by
 unfold cB
 rw [hi, cN, if_pos (by simpa using hl), hc]
 show (fX (dE [0, 1]) dD e (xs.map fun x => .tup [φ x, χ x]) (.un :: .un :: bV)).bind _ = _
 rw [aIu xs .un .un bE bE he, cN, if_pos]
 rcases hk with h | h
 ·rw [h]; rfl
 ·rw [Bool.or_eq_true]; right; rw [List.all_eq_true]
  intro d hd
  obtain ⟨x, hx, rfl⟩ := List.mem_map.mp hd
  exact h x hx
theorem wL {α : Type} {set : D → Env → Option Env} {b : aU} {φ : α → D} (J : List α → Env → Prop) (xs : List α) : ∀ (post pre : List α) (ρ : Env), xs = pre ++ post →
  (∀ pre x post ρ, xs = pre ++ x :: post → J pre ρ → ∃ ρ1 ρ2, set (φ x) ρ = some ρ1 ∧ b ρ1 = .next ρ2 ∧ J (pre ++ [x]) ρ2) → J pre ρ → ∃ ρ', forL set b (post.map φ) ρ = .next ρ' ∧ J xs ρ'
 | [], pre, ρ, e, _, h0 => ⟨ρ, rfl, by rw [e, List.append_nil]; exact h0⟩
 | x :: post, pre, ρ, e, h, h0 => by
  obtain ⟨ρ1, ρ2, h1, h2, h3⟩ := h pre x post ρ e h0
  obtain ⟨ρ', h4, h5⟩ := wL J xs post (pre ++ [x]) ρ2 (by rw [e]; simp) h h3
  refine ⟨ρ', ?_, h5⟩
  show (match set (φ x) ρ with | none => Out.bad | some ρ1 => fT (b ρ1) (forL set b (post.map φ))) = _
  rw [h1]; dsimp only; rw [h2]; exact h4
theorem rM {α : Type} {xs : List α} {φ : α → D} : lM (xs.map φ) = (xs.zipIdx).map fun p => .tup [.int (p.2 : Nat), φ p.1] := by
 unfold lM
 rw [List.zipIdx_map, List.map_map]
 rfl
theorem aGh {c : bZ} {b : aU} {n : Nat} {ρ : Env} (hc : c ρ = .ok false) : cF c b (n + 1) ρ = .next ρ := by
 rw [cF, hc]
def out (o : Out) (P : Env → Prop) (Q : D → Prop) : Prop := match o with | .next ρ => P ρ | .ret d _ => Q d | _ => False
def stp (o : Option Env) (b : aU) : Out := match o with | some ρ => b ρ | none => .bad
@[simp] theorem aFm {ρ : Env} {P : Env → Prop} {Q : D → Prop} : out (.next ρ) P Q = P ρ := rfl
@[simp] theorem aG3 {ρ : Env} {d : D} {P : Env → Prop} {Q : D → Prop} : out (.ret d ρ) P Q = Q d := rfl
@[simp] theorem xW {ρ : Env} {b : aU} : stp (some ρ) b = b ρ := rfl
theorem bR {o : Out} {g : aU} {P P' : Env → Prop} {Q : D → Prop} (h : out o P' Q) (h2 : ∀ ρ, P' ρ → out (g ρ) P Q) : out (o.andThen g) P Q := by
 cases o <;> first | exact h2 _ h | exact h | exact h.elim
theorem nC {o : Out} {P P' : Env → Prop} {Q Q' : D → Prop} (h : out o P' Q') (h1 : ∀ ρ, P' ρ → P ρ) (h2 : ∀ d, Q' d → Q d) : out o P Q := by
 cases o <;> first | exact h1 _ h | exact h2 _ h | exact h.elim
def nY (fn : Fn) (ds : List D) (P : D → Prop) : Prop := ∃ d, Ret fn ds d ∧ P d
theorem eP {n : Nat} {body : aU} {ds : List D} {P : D → Prop} (h : out (body (entry n ds)) (fun _ => P .non) P) : nY (fnOf n body) ds P := by
 cases e : body (entry n ds) with
 | next ρ => rw [e] at h; exact ⟨_, aE4 ⟨ρ, e⟩, h⟩
 | ret d ρ => rw [e] at h; exact ⟨_, pP ⟨ρ, e⟩, h⟩
 | brk ρ => rw [e] at h; exact h.elim
 | cont ρ => rw [e] at h; exact h.elim
 | exc c ρ => rw [e] at h; exact h.elim
 | bad => rw [e] at h; exact h.elim
theorem pB {n : Nat} {body : aU} {ds : List D} {d : D} (h : out (body (entry n ds)) (fun _ => D.non = d) (· = d)) : Ret (fnOf n body) ds d := by
 obtain ⟨_, h1, rfl⟩ := eP (P := (· = d)) h
 exact h1
theorem aBh {α : Type} {set : D → Env → Option Env} {b : aU} {φ : α → D} {Q : D → Prop} (J : List α → Env → Prop) (xs : List α) (h : ∀ pre x post ρ, xs = pre ++ x :: post → J pre ρ → out (stp (set (φ x) ρ) b) (J (pre ++ [x])) Q) : ∀ (post pre : List α) (ρ : Env), xs = pre ++ post → J pre ρ → out (forL set b (post.map φ) ρ) (J xs) Q
 | [], pre, ρ, e, h0 => by show J xs ρ; rw [e, List.append_nil]; exact h0
 | x :: post, pre, ρ, e, h0 => by
  have h1 := h pre x post ρ e h0
  show out (match set (φ x) ρ with | none => Out.bad | some ρ1 => fT (b ρ1) (forL set b (post.map φ))) _ _
  cases es : set (φ x) ρ with
  | none => rw [es] at h1; exact h1.elim
  | some ρ1 =>
   rw [es, xW] at h1
   dsimp only
   cases eb : b ρ1 with
   | next ρ2 => rw [eb] at h1; exact aBh J xs h post (pre ++ [x]) ρ2 (by rw [e]; simp) h1
   | ret d ρ2 => rw [eb] at h1; exact h1
   | brk ρ => rw [eb] at h1; exact h1.elim
   | cont ρ => rw [eb] at h1; exact h1.elim
   | exc c ρ => rw [eb] at h1; exact h1.elim
   | bad => rw [eb] at h1; exact h1.elim
theorem dI {α : Type} {set : D → Env → Option Env} {b : aU} {φ : α → D} {Q : D → Prop} {ρ : Env} (J : List α → Env → Prop) (xs : List α) (h0 : J [] ρ) (h : ∀ pre x post ρ, xs = pre ++ x :: post → J pre ρ → out (stp (set (φ x) ρ) b) (J (pre ++ [x])) Q) : out (forL set b (xs.map φ) ρ) (J xs) Q := aBh J xs h xs [] ρ rfl h0
end VL
end
section
namespace VL
open PySem L2
def kE (o : Out) (P : Env → Prop) (Q : D → Prop) (X : Str → Prop) : Prop := match o with | .next ρ => P ρ | .ret d _ => Q d | .exc c _ => X c | _ => False
@[simp] theorem aMl {ρ : Env} {P : Env → Prop} {Q : D → Prop} {X : Str → Prop} : kE (.next ρ) P Q X = P ρ := rfl
@[simp] theorem aNb {ρ : Env} {d : D} {P : Env → Prop} {Q : D → Prop} {X : Str → Prop} : kE (.ret d ρ) P Q X = Q d := rfl
@[simp] theorem aNm {ρ : Env} {c : Str} {P : Env → Prop} {Q : D → Prop} {X : Str → Prop} : kE (.exc c ρ) P Q X = X c := rfl
@[simp] theorem aIr {ρ : Env} {c : Str} {g : aU} : (Out.exc c ρ).andThen g = .exc c ρ := rfl
theorem aCp {o : Out} {g : aU} {P P' : Env → Prop} {Q : D → Prop} {X : Str → Prop} (h : kE o P' Q X) (h2 : ∀ ρ, P' ρ → kE (g ρ) P Q X) : kE (o.andThen g) P Q X := by
 cases o <;> first | exact h2 _ h | exact h | exact h.elim
theorem lB {o : Out} {P P' : Env → Prop} {Q Q' : D → Prop} {X X' : Str → Prop} (h : kE o P' Q' X') (h1 : ∀ ρ, P' ρ → P ρ) (h2 : ∀ d, Q' d → Q d) (h3 : ∀ c, X' c → X c) : kE o P Q X := by
 cases o <;> first | exact h1 _ h | exact h2 _ h | exact h3 _ h | exact h.elim
def aGo (fn : Fn) (ds : List D) (c : Str) : Prop := fn ds = .exc c
theorem aK6 {n : Nat} {body : aU} {ds : List D} {P : D → Prop} {X : Str → Prop} (h : kE (body (entry n ds)) (fun _ => P .non) P X) : nY (fnOf n body) ds P ∨ ∃ c, aGo (fnOf n body) ds c ∧ X c := by
 cases e : body (entry n ds) with
 | next ρ => rw [e] at h; exact .inl ⟨_, aE4 ⟨ρ, e⟩, h⟩
 | ret d ρ => rw [e] at h; exact .inl ⟨_, pP ⟨ρ, e⟩, h⟩
 | exc c ρ => rw [e] at h; exact .inr ⟨c, by unfold aGo fnOf; rw [e], h⟩
 | brk ρ => rw [e] at h; exact h.elim
 | cont ρ => rw [e] at h; exact h.elim
 | bad => rw [e] at h; exact h.elim
def pA (fn : Fn) (ds : List D) (k : Bool) (ρ : Env) (f : D → Out) : Out := match fn ds with
 | .ok y => if k || isScal y.1 then f y.1 else .bad
 | .exc c => .exc c ρ | .bad => .bad
theorem bM {fn : Fn} {ds : List D} {d : D} {ρ : Env} {f : D → Out} (h : Ret fn ds d) : pA fn ds true ρ f = f d := by
 obtain ⟨os, h⟩ := h
 unfold pA; rw [h]; rfl
def onA (r : R (List (D × Bool))) (k : List (D × Bool) → Out) : Out := match r with | .ok xs => k xs | _ => .bad
@[simp] theorem aQr {xs : List (D × Bool)} {k : List (D × Bool) → Out} : onA (.ok xs) k = k xs := rfl
@[simp] theorem aMu {fn : Fn} {g : dC} {ρ : Env} : iH (dS fn g) ρ = onA (g ρ) fun xs => pA fn (D.frzs (xs.map (·.1))) (xs.all aL) ρ fun _ => .next ρ := by
 unfold iH dS onA pA
 cases g ρ with
 | ok xs =>
  dsimp only
  cases fn (D.frzs (xs.map (·.1))) with
  | ok y => by_cases hk : (xs.all aL || isScal y.1) = true <;> simp [hk]
  | exc c => rfl
  | bad => rfl
 | exc _ => rfl
 | bad => rfl
@[simp] theorem aPh {i : Nat} {fn : Fn} {g : dC} {ρ : Env} : aY i (dS fn g) ρ = onA (g ρ) fun xs => pA fn (D.frzs (xs.map (·.1))) (xs.all aL) ρ fun d => if free ρ i then .next (ρ.set i (.val d)) else .bad := by
 unfold aY dS onA pA
 cases g ρ with
 | ok xs =>
  dsimp only
  cases fn (D.frzs (xs.map (·.1))) with
  | ok y => by_cases hk : (xs.all aL || isScal y.1) = true <;> simp [hk]
  | exc c => rfl
  | bad => rfl
 | exc _ => rfl
 | bad => rfl
@[simp] theorem aOr {c : Str} {f : mJ} {ρ : Env} : fA c f ρ = match f ρ with | some _ => .exc c ρ | none => .bad := rfl
@[simp] theorem aPe {f : mJ} {ρ : Env} : zTop f ρ = (f ρ).bind fun n => if n ≤ 1000000 then some n else none := rfl
@[simp] theorem aP0 {f g : mJ} {ρ : Env} : gC f g ρ = (f ρ).bind fun a => (g ρ).map fun b => a + b := rfl
def zI (r : R (D × Bool)) : Option Nat := match r with | .ok (.int a, _) => if a.natAbs ≤ 100000 then some 100002 else none | _ => none
@[simp] theorem aP6 {g : aQ} {ρ : Env} : qY g ρ = zI (g ρ) := rfl
@[simp] theorem aQi {a : Int} {b : Bool} : zI (.ok (.int a, b)) = if a.natAbs ≤ 100000 then some 100002 else none := rfl
theorem vS {α : Type} {set : D → Env → Option Env} {b : aU} {φ : α → D} {Q : D → Prop} {X : Str → Prop} (J : List α → Env → Prop) (xs : List α) (h : ∀ pre x post ρ, xs = pre ++ x :: post → J pre ρ → kE (stp (set (φ x) ρ) b) (J (pre ++ [x])) Q X) : ∀ (post pre : List α) (ρ : Env), xs = pre ++ post → J pre ρ → kE (forL set b (post.map φ) ρ) (J xs) Q X
 | [], pre, ρ, e, h0 => by show J xs ρ; rw [e, List.append_nil]; exact h0
 | x :: post, pre, ρ, e, h0 => by
  have h1 := h pre x post ρ e h0
  show kE (match set (φ x) ρ with | none => Out.bad | some ρ1 => fT (b ρ1) (forL set b (post.map φ))) (J xs) Q X
  cases es : set (φ x) ρ with
  | none => rw [es] at h1; exact h1.elim
  | some ρ1 =>
   rw [es] at h1
   have h1 : kE (b ρ1) (J (pre ++ [x])) Q X := h1
   dsimp only
   cases eb : b ρ1 with
   | next ρ2 => rw [eb] at h1; exact vS J xs h post (pre ++ [x]) ρ2 (by rw [e]; simp) h1
   | ret d ρ2 => rw [eb] at h1; exact h1
   | exc c ρ2 => rw [eb] at h1; exact h1
   | brk _ => rw [eb] at h1; exact h1.elim
   | cont _ => rw [eb] at h1; exact h1.elim
   | bad => rw [eb] at h1; exact h1.elim
theorem xY {α : Type} {set : D → Env → Option Env} {b : aU} {φ : α → D} {Q : D → Prop} {X : Str → Prop} {ρ : Env} (J : List α → Env → Prop) (xs : List α) (h0 : J [] ρ) (h : ∀ pre x post ρ, xs = pre ++ x :: post → J pre ρ → kE (stp (set (φ x) ρ) b) (J (pre ++ [x])) Q X) : kE (forL set b (xs.map φ) ρ) (J xs) Q X := vS J xs h xs [] ρ rfl h0
end VL
end
section
namespace VL.QQ
open VL
structure E where
 a : Nat
 k : Nat
 b : Nat
 c : Int
 deriving Inhabited
inductive Reach (es : List E) : Nat → Prop
 | zero : Reach es 0
 | step {e : E} : e ∈ es → Reach es e.a → Reach es e.b
theorem oJ : ∀ (n : Nat) (xs : T0), xs.Nodup → (∀ x ∈ xs, x < n) → xs.length ≤ n
 | 0, [], _, _ => Nat.le_refl _
 | 0, x :: xs, _, h => absurd (h x List.mem_cons_self) (Nat.not_lt_zero x)
 | n + 1, xs, nd, h => by
  have h1 := oJ n (xs.erase n) (nd.erase n) fun x hx => by
   have := h x (List.mem_of_mem_erase hx)
   have ne : x ≠ n := fun z => by subst z; exact absurd hx (List.Nodup.not_mem_erase nd)
   omega
  rw [List.length_erase] at h1
  split at h1 <;> omega
def ed (es : List E) (d : Nat) : E := es.getD d default
def og (ow : Y4) (v : Nat) : Option Nat := ow.getD v none
def Rel (es : List E) (gs : Y0) (most : Y0) (d : Nat) : Prop := gt gs d + gt most (ed es d).b ≤ gt most (ed es d).a
structure BF (es : List E) (gs : Y0) (num : T0) (n r : Nat) (most : Y0) (ow : Y4) (L rk : Nat → Nat) (cnt : Nat) : Prop where
 lm : most.length = n
 lo : ow.length = n
 on : ∀ v d, og ow v = some d → d ∈ num ∧ (ed es d).a = v ∧ gt most v ≤ gt gs d + gt most (ed es d).b ∧ (gt most v = gt gs d + gt most (ed es d).b → rk (ed es d).b < rk v) ∧ L v ≤ L (ed es d).b + 1
 no : ∀ v, v < n → og ow v = none → L v = 0
 rc : ∀ v, rk v ≤ cnt
 lr : ∀ v, L v ≤ r
theorem yZ {xs : Y0} {a v : Nat} {x : Int} (ha : a < xs.length) : gt (xs.set a x) v = if v = a then x else gt xs v := by
 unfold gt
 rw [List.getD_eq_getElem?_getD, List.getD_eq_getElem?_getD]
 by_cases h : v = a
 ·subst h; rw [if_pos rfl, List.getElem?_set_self ha]; rfl
 ·rw [if_neg h, List.getElem?_set_ne (Ne.symm h)]
theorem yN {xs : Y4} {a v : Nat} {x : Option Nat} (ha : a < xs.length) : og (xs.set a x) v = if v = a then x else og xs v := by
 unfold og
 rw [List.getD_eq_getElem?_getD, List.getD_eq_getElem?_getD]
 by_cases h : v = a
 ·subst h; rw [if_pos rfl, List.getElem?_set_self ha]; rfl
 ·rw [if_neg h, List.getElem?_set_ne (Ne.symm h)]
section
variable {es : List E} {gs : Y0} {num : T0} {n r : Nat} {most : Y0} {ow : Y4} {L rk : Nat → Nat} {cnt : Nat}
theorem BF.raise (h : BF es gs num n r most ow L rk cnt) {d : Nat} (hd : d ∈ num) (ha : (ed es d).a < n) (hv : gt most (ed es d).a < gt gs d + gt most (ed es d).b) (hl : r ≤ L (ed es d).b + 1) :
  ∃ L' rk', BF es gs num n r (most.set (ed es d).a (gt gs d + gt most (ed es d).b)) (ow.set (ed es d).a (some d)) L' rk' (cnt + 1) ∧ L' (ed es d).a = r ∧
   (Rel es gs (most.set (ed es d).a (gt gs d + gt most (ed es d).b)) d ∨ r ≤ L' (ed es d).b) ∧
   ∀ (d' m : Nat), m ≤ r → (Rel es gs most d' ∨ m ≤ L (ed es d').b) → (Rel es gs (most.set (ed es d).a (gt gs d + gt most (ed es d).b)) d' ∨ m ≤ L' (ed es d').b) := by
 generalize ea : (ed es d).a = A at *
 generalize eb : (ed es d).b = B at *
 have gm : ∀ v, gt (most.set A (gt gs d + gt most B)) v = if v = A then gt gs d + gt most B else gt most v := fun v => yZ (by rw [h.lm]; exact ha)
 have go : ∀ v, og (ow.set A (some d)) v = if v = A then some d else og ow v := fun v => yN (by rw [h.lo]; exact ha)
 refine ⟨fun v => if v = A then r else L v, fun v => if v = A then rk B + 1 else rk v, ⟨by rw [List.length_set]; exact h.lm, by rw [List.length_set]; exact h.lo, fun v d' e => ?_, fun v hv' e => ?_, fun v => ?_, fun v => ?_⟩, by simp, ?_, fun d' m hm hr => ?_⟩
 ·rw [go] at e
  rw [gm, gm]
  by_cases hva : v = A
  ·rw [if_pos hva] at e; cases e
   subst hva
   rw [eb, ea]
   refine ⟨hd, rfl, ?_, ?_, ?_⟩
   ·by_cases hB : B = v
    ·rw [if_pos rfl, if_pos hB]; rw [hB] at hv ⊢; omega
    ·rw [if_pos rfl, if_neg hB]; omega
   ·by_cases hB : B = v
    ·rw [if_pos rfl, if_pos hB]; rw [hB] at hv ⊢; omega
    ·intro _; rw [if_neg hB, if_pos rfl]; omega
   ·rw [if_pos rfl]
    by_cases hB : B = v
    ·rw [if_pos hB]; omega
    ·rw [if_neg hB]; exact hl
  ·rw [if_neg hva] at e
   obtain ⟨o1, o2, o3, o4, o5⟩ := h.on v d' e
   rw [if_neg hva, if_neg hva, if_neg hva]
   refine ⟨o1, o2, ?_, ?_, ?_⟩
   ·by_cases hB : (ed es d').b = A
    ·rw [if_pos hB]; rw [hB] at o3; omega
    ·rw [if_neg hB]; exact o3
   ·by_cases hB : (ed es d').b = A
    ·rw [if_pos hB]; rw [hB] at o3; omega
    ·rw [if_neg hB, if_neg hB]; exact o4
   ·by_cases hB : (ed es d').b = A
    ·rw [if_pos hB]; have := h.lr v; omega
    ·rw [if_neg hB]; exact o5
 ·rw [go] at e
  by_cases hva : v = A
  ·rw [if_pos hva] at e; cases e
  ·rw [if_neg hva] at e ⊢; exact h.no v hv' e
 ·have h1 := h.rc v
  have h2 := h.rc B
  show (if v = A then rk B + 1 else rk v) ≤ _
  split <;> omega
 ·have h1 := h.lr v
  show (if v = A then r else L v) ≤ _
  split <;> omega
 ·unfold Rel
  rw [gm, gm, ea, eb, if_pos rfl]
  by_cases hB : B = A
  ·right; show r ≤ (if B = A then r else L B); rw [if_pos hB]; exact Nat.le_refl _
  ·left; rw [if_neg hB]; exact Int.le_refl _
 ·dsimp only
  by_cases hB : (ed es d').b = A
  ·right; rw [if_pos hB]; exact hm
  ·rw [if_neg hB]
   rcases hr with hr | hr
   ·left
    unfold Rel at hr ⊢
    rw [gm, gm, if_neg hB]
    by_cases hA : (ed es d').a = A
    ·rw [if_pos hA]; rw [hA] at hr; omega
    ·rw [if_neg hA]; exact hr
   ·exact .inr hr
def nx (es : List E) (ow : Y4) (v : Nat) : Nat := match og ow v with | some d => (ed es d).b | none => v
def ch (es : List E) (ow : Y4) (v : Nat) : Nat → Nat
 | 0 => v
 | i + 1 => nx es ow (ch es ow v i)
def dl (es : List E) (ow : Y4) (v k : Nat) : T0 := (List.range k).map fun i => (og ow (ch es ow v i)).getD 0
theorem nL {v k : Nat} : dl es ow v (k + 1) = dl es ow v k ++ [(og ow (ch es ow v k)).getD 0] := by
 unfold dl; rw [List.range_succ, List.map_append]; rfl
theorem lY {v i : Nat} : ∀ j, ch es ow v (i + j) = ch es ow (ch es ow v i) j
 | 0 => rfl
 | j + 1 => by show nx es ow (ch es ow v (i + j)) = nx es ow (ch es ow (ch es ow v i) j); rw [lY j]
theorem wX (hb : ∀ d ∈ num, (ed es d).b < n) (h : BF es gs num n r most ow L rk cnt) {v : Nat} (hv : v < n) : ∀ i, ch es ow v i < n
 | 0 => hv
 | i + 1 => by
  show nx es ow (ch es ow v i) < n
  unfold nx
  cases e : og ow (ch es ow v i) with
  | none => exact wX hb h hv i
  | some d => exact hb d (h.on _ d e).1
theorem aDc (h : BF es gs num n r most ow L rk cnt) {v : Nat} : ∀ k, (∀ i, i < k → og ow (ch es ow v i) ≠ none) →
  gt most v ≤ ((dl es ow v k).map (gt gs)).sum + gt most (ch es ow v k) ∧ (gt most v = ((dl es ow v k).map (gt gs)).sum + gt most (ch es ow v k) → k = 0 ∨ rk (ch es ow v k) < rk v)
 | 0, _ => by simp [dl, ch]
 | k + 1, hn => by
  obtain ⟨h1, h2⟩ := aDc h k fun i hi => hn i (Nat.lt_succ_of_lt hi)
  rw [nL, List.map_append, List.sum_append]
  cases e : og ow (ch es ow v k) with
  | none => exact absurd e (hn k (Nat.lt_succ_self k))
  | some d =>
   obtain ⟨_, _, o3, o4, _⟩ := h.on _ d e
   have ec : ch es ow v (k + 1) = (ed es d).b := by show nx es ow _ = _; unfold nx; rw [e]
   rw [ec]
   have es1 : (([(some d : Option Nat).getD 0]).map (gt gs)).sum = gt gs d := by simp
   rw [es1]
   refine ⟨by omega, fun q => .inr ?_⟩
   have q1 : gt most (ch es ow v k) = gt gs d + gt most (ed es d).b := by omega
   have q2 : gt most v = ((dl es ow v k).map (gt gs)).sum + gt most (ch es ow v k) := by omega
   have r1 := o4 q1
   rcases h2 q2 with z | z
   ·subst z; exact r1
   ·omega
theorem aGa (hb : ∀ d ∈ num, (ed es d).b < n) (h : BF es gs num n n most ow L rk cnt) {v : Nat} (hv : v < n) (hL : L v = n) :
  (∀ i, og ow (ch es ow v i) ≠ none) ∧ ∃ p, 1 ≤ p ∧ p ≤ n ∧ ch es ow v (n + p) = ch es ow v n := by
 have lt := wX hb h hv
 have hLi : ∀ i, i ≤ n → n ≤ L (ch es ow v i) + i := by
  intro i
  induction i with
  | zero => intro _; show n ≤ L v + 0; omega
  | succ i ih =>
   intro hi
   have h1 := ih (by omega)
   cases e : og ow (ch es ow v i) with
   | none => have := h.no _ (lt i) e; omega
   | some d =>
    have o5 := (h.on _ d e).2.2.2.2
    have ec : ch es ow v (i + 1) = (ed es d).b := by show nx es ow _ = _; unfold nx; rw [e]
    rw [ec]; omega
 have hne : ∀ i, i < n → og ow (ch es ow v i) ≠ none := fun i hi z => by
  have := h.no _ (lt i) z
  have := hLi i (by omega)
  omega
 obtain ⟨i, j, hij, hj, hch⟩ : ∃ i j, i < j ∧ j ≤ n ∧ ch es ow v i = ch es ow v j := by
  refine Classical.byContradiction fun hno => ?_
  have nd : ((List.range (n + 1)).map (ch es ow v)).Nodup := by
   refine List.pairwise_map.mpr (List.Pairwise.imp_of_mem (R := (· < ·)) (fun {a b} ha hb' hlt z => hno ⟨a, b, hlt, ?_, z⟩) List.pairwise_lt_range)
   have := List.mem_range.mp hb'; omega
  have := oJ n _ nd fun x hx => by
   obtain ⟨i, _, rfl⟩ := List.mem_map.mp hx
   exact lt i
  simp at this
  omega
 have hper : ∀ t, ch es ow v (i + t) = ch es ow v (j + t) := fun t => by rw [lY, lY, hch]
 refine ⟨fun k => ?_, j - i, by omega, by omega, ?_⟩
 ·induction k using Nat.strongRecOn with
  | ind k ih =>
   rcases Nat.lt_or_ge k n with hk | hk
   ·exact hne k hk
   ·have e := hper (k - j)
    rw [show j + (k - j) = k by omega] at e
    rw [← e]
    exact ih _ (by omega)
 ·have e := hper (n - i)
  rw [show i + (n - i) = n by omega] at e
  rw [show n + (j - i) = j + (n - i) by omega, ← e]
theorem aBq (h : BF es gs num n r most ow L rk cnt) {v k : Nat} (hk : 1 ≤ k) (hn : ∀ i, i < k → og ow (ch es ow v i) ≠ none) (hc : ch es ow v k = v) : 0 < ((dl es ow v k).map (gt gs)).sum := by
 obtain ⟨h1, h2⟩ := aDc h k hn
 rw [hc] at h1 h2
 rcases Decidable.em (0 < ((dl es ow v k).map (gt gs)).sum) with q | q
 ·exact q
 ·rcases h2 (by omega) with z | z
  ·omega
  ·exact absurd z (Nat.lt_irrefl _)
theorem aAi (h : BF es gs num n r most ow L rk cnt) (hr : ∀ d ∈ num, Rel es gs most d) {v d : Nat} (e : og ow v = some d) : rk (ed es d).b < rk v := by
 obtain ⟨o1, o2, o3, o4, _⟩ := h.on v d e
 have := hr d o1
 unfold Rel at this
 rw [o2] at this
 exact o4 (by omega)
theorem yX {v : Nat} : og (List.replicate n none) v = none := by
 unfold og
 rw [List.getD_eq_getElem?_getD, List.getElem?_replicate]
 by_cases h : v < n
 ·rw [if_pos h]; rfl
 ·rw [if_neg h]; rfl
theorem BF.init {m : Nat} : BF es gs num n 0 (List.replicate n 0) (List.replicate n none) (fun _ => 0) (fun _ => 0) m :=
 ⟨by simp, by simp, fun v d e => (by rw [yX] at e; cases e), fun _ _ _ => rfl, fun _ => Nat.zero_le _, fun _ => Nat.le_refl _⟩
theorem BF.up {r' : Nat} (h : BF es gs num n r most ow L rk cnt) (hr : r ≤ r') : BF es gs num n r' most ow L rk cnt := ⟨h.lm, h.lo, h.on, h.no, h.rc, fun v => Nat.le_trans (h.lr v) hr⟩
end
end VL.QQ
end
section
namespace VL.QQ
open VL PySem L2 PY
abbrev nI (k : Nat) : D := .int (k : Int)
def E.l (e : E) : Y0 := [(e.a : Int), (e.k : Int), (e.b : Int), e.c]
def E.d (e : E) : D := .tup [nI e.a, nI e.k, nI e.b, .int e.c]
def ME (es : List E) : List D := es.map E.d
def dM (n kd : Nat) (es : List E) : D := .tup [nI n, nI kd, .lst false (ME es)]
@[simp] theorem E.calm (e : E) : e.d.calm = true := rfl
@[simp] theorem E.frz (e : E) : e.d.frz = e.d := rfl
theorem fP {α : Type} {φ : α → D} (h : ∀ x, (φ x).calm = true) : ∀ xs : List α, D.bK (xs.map φ) = true
 | [] => rfl
 | x :: xs => by rw [List.map_cons, pO, h x, fP h xs]; rfl
theorem lE {α : Type} {φ : α → D} (h : ∀ x, (φ x).calm = true) (xs : List α) : D.frzs (xs.map φ) = xs.map φ := jK _ (fP h xs)
@[simp] theorem aN7 (es : List E) : D.bK (ME es) = true := fP E.calm es
@[simp] theorem aPl (es : List E) : D.frzs (ME es) = ME es := lE E.calm es
@[simp] theorem aQw (es : List E) : (ME es).length = es.length := by simp [ME]
@[simp] theorem aF0 {n kd : Nat} {es : List E} : (dM n kd es).calm = true := by simp [dM, nI]
@[simp] theorem aQq {n kd : Nat} {es : List E} : (dM n kd es).frz = dM n kd es := mX _ aF0
theorem uM {α : Type} {a : α} {xs : List α} : atI (a :: xs) 0 = some a := by have := eD (xs := a :: xs) (k := 0); simpa using this
theorem aB6 {α : Type} {a b : α} {xs : List α} : atI (a :: b :: xs) 1 = some b := by have := eD (xs := a :: b :: xs) (k := 1); simpa using this
theorem aC2 {α : Type} {a b c : α} {xs : List α} : atI (a :: b :: c :: xs) 2 = some c := by have := eD (xs := a :: b :: c :: xs) (k := 2); simpa using this
theorem aQe {α : Type} {a b c d : α} {xs : List α} : atI (a :: b :: c :: d :: xs) 3 = some d := by have := eD (xs := a :: b :: c :: d :: xs) (k := 3); simpa using this
@[simp] theorem aRy {n kd : Nat} {es : List E} {b c : Bool} : kIx (dM n kd es, b) (.int 0, c) = .ok (nI n, b) := by simp [dM, uM]
@[simp] theorem aRz {n kd : Nat} {es : List E} {b c : Bool} : kIx (dM n kd es, b) (.int 1, c) = .ok (nI kd, b) := by simp [dM, aB6]
@[simp] theorem aRx {n kd : Nat} {es : List E} {b c : Bool} : kIx (dM n kd es, b) (.int 2, c) = .ok (.lst false (ME es), b) := by simp [dM, aC2]
@[simp] theorem E_0 {e : E} {b c : Bool} : kIx (e.d, b) (.int 0, c) = .ok (nI e.a, b) := by simp [E.d, uM]
@[simp] theorem E_1 {e : E} {b c : Bool} : kIx (e.d, b) (.int 1, c) = .ok (nI e.k, b) := by simp [E.d, aB6]
@[simp] theorem E_2 {e : E} {b c : Bool} : kIx (e.d, b) (.int 2, c) = .ok (nI e.b, b) := by simp [E.d, aC2]
@[simp] theorem E_3 {e : E} {b c : Bool} : kIx (e.d, b) (.int 3, c) = .ok (.int e.c, b) := by simp [E.d, aQe]
theorem lS {es : List E} {k : Nat} (h : k < es.length) : es[k]? = some (ed es k) := by simp [ed, List.getElem?_eq_getElem h]
theorem eK {es : List E} {k : Nat} (h : k < es.length) : ed es k ∈ es := List.mem_of_getElem? (lS h)
theorem fL {es : List E} {k : Nat} {b c : Bool} (h : k < es.length) : kIx (.lst false (ME es), b) (.int (k : Int), c) = .ok ((ed es k).d, b) := by
 simp [eD, ME, lS h]
theorem kP {o : Bool} {xs : Y0} {k : Nat} {b c : Bool} (h : k < xs.length) : kIx (.lst o (I xs), b) (.int (k : Int), c) = .ok (.int (gt xs k), b) := by
 simp [eD, aJd h]
structure OkM (n kd : Nat) (es : List E) : Prop where
 n1 : 1 ≤ n
 n2 : n ≤ 20
 k1 : 1 ≤ kd
 k2 : kd ≤ 8
 ls : es.length ≤ 18
 a : ∀ e ∈ es, e.a < n
 k : ∀ e ∈ es, e.k < kd
 b : ∀ e ∈ es, e.b < n
 c : ∀ e ∈ es, 0 ≤ e.c ∧ e.c ≤ 1000
 up : es.Pairwise fun x y => ST.ltL x.l y.l = true
theorem zB (i : Int) : Ret mO [.int i] (.bl true) := by
 refine pP ⟨[.val (.int i)], ?_⟩
 simp [qE, entry, iE, mL, zX]
theorem mZ (i a b : Int) : Ret bL [.int i, .int a, .int b] (.bl (decide (a ≤ i) && decide (i ≤ b))) := by
 refine pP ⟨[.val (.int i), .val (.int a), .val (.int b)], ?_⟩
 simp [oB, entry, aZ (zB i)]
 by_cases h : a ≤ i <;> simp [h]
theorem oX {x a b : Int} (h1 : a ≤ x) (h2 : x ≤ b) : Ret bL [.int x, .int a, .int b] (.bl true) := by
 have := mZ x a b
 rwa [decide_eq_true h1, decide_eq_true h2] at this
theorem aNg {x a b : Int} (h : ¬ (a ≤ x ∧ x ≤ b)) : Ret bL [.int x, .int a, .int b] (.bl false) := by
 have := mZ x a b
 have e : (decide (a ≤ x) && decide (x ≤ b)) = false := by
  rw [← Bool.not_eq_true, Bool.and_eq_true, decide_eq_true_eq, decide_eq_true_eq]; exact h
 rwa [e] at this
@[simp] theorem aRv {e : E} {b : Bool} : iE "tuple" (e.d, b) = .ok (.bl true, true) := rfl
@[simp] theorem aRo {n kd : Nat} {es : List E} {b : Bool} : iE "tuple" (dM n kd es, b) = .ok (.bl true, true) := rfl
@[simp] theorem aRq {o : Bool} {ds : List D} {b : Bool} : iE "list" (.lst o ds, b) = .ok (.bl true, true) := rfl
@[simp] theorem aRp {e : E} {b : Bool} : iD [(e.d, b)] = .ok (.int 4, true) := rfl
@[simp] theorem aRt {n kd : Nat} {es : List E} {b : Bool} : iD [(dM n kd es, b)] = .ok (.int 3, true) := rfl
theorem aCc {n kd : Nat} {es : List E} {e : E} (ha : e.a < n) (hk : e.k < kd) (hb : e.b < n) (hc : 0 ≤ e.c ∧ e.c ≤ 1000) : Ret oI [dM n kd es, e.d] (.bl true) := by
 refine pB ?_
 have e1 := aZ (oX (x := (e.a : Int)) (a := 0) (b := (n : Int) - 1) (by omega) (by omega))
 have e2 := aZ (oX (x := (e.b : Int)) (a := 0) (b := (n : Int) - 1) (by omega) (by omega))
 have e3 := aZ (oX (x := (e.k : Int)) (a := 0) (b := (kd : Int) - 1) (by omega) (by omega))
 have e4 := aZ (oX (x := e.c) (a := 0) (b := 1000) hc.1 hc.2)
 simp [tB, entry, dF, fZ, nI, e1, e2, e3, e4]
theorem aK9 {x y : E} (h : ST.ltL x.l y.l = true) {b c : Bool} : aGl (y.d, b) (x.d, c) = .ok (.bl false, true) := by
 show R.ok (D.bl (!ST.ltL x.l y.l), true) = _
 rw [h]; rfl
def kR2 : List (D × Bool) → R (List D)
 | [(.int i, _), (.int j, _)] => if bX i && bX j then .ok (fD i (j - i).toNat) else .bad
 | _ => .bad
@[simp] theorem aQh {g : dC} {ρ : Env} : iR2 g ρ = (g ρ).bind kR2 := by
 unfold iR2
 cases g ρ <;> rfl
theorem aQo {n : Nat} {b c : Bool} (h : n ≤ 1000000) : kR2 [(.int 1, b), (.int (n : Int), c)] = .ok ((List.range (n - 1)).map fun i : Nat => D.int (1 + (i : Int))) := by
 show (if (bX 1 && bX (n : Int)) = true then R.ok (fD 1 ((n : Int) - 1).toNat) else R.bad) = _
 rw [show (bX 1 && bX (n : Int)) = true by rw [tR h]; decide, if_pos rfl, show ((n : Int) - 1).toNat = n - 1 by omega]
 rfl
theorem uY (es : List E) : lM (ME es) = es.zipIdx.map fun p => .tup [.int (p.2 : Nat), p.1.d] := rM
theorem uI {n kd : Nat} {es : List E} (h : OkM n kd es) : Ret jM [dM n kd es] .non := by
 refine pB ?_
 have hl : ¬ ((600 : Int) < (es.length : Int)) := by have := h.ls; omega
 simp -implicitDefEqProofs [nB, entry, dF, fZ, nI, hl, uY]
 refine bR (dI (fun pre ρ => ∃ t u, np t ∧ np u ∧ ρ = [.val (dM n kd es), .val (.lst false (ME es)), t, u]) es.zipIdx ⟨_, _, bE, bE, rfl⟩ ?_) ?_
 ·rintro pre ⟨x, k⟩ post ρ e ⟨t, u, ht, hu, rfl⟩
  have hx : x ∈ es := by
   have : (x, k) ∈ es.zipIdx := by rw [e]; simp
   have := List.mem_zipIdx this
   simp at this
   rw [this.2]; exact List.getElem_mem _
  simp -implicitDefEqProofs [ht, hu, dF, fZ, aZ (aCc (es := es) (h.a x hx) (h.k x hx) (h.b x hx) (h.c x hx))]
 ·rintro ρ ⟨t, u, ht, hu, rfl⟩
  simp -implicitDefEqProofs [aQo (show es.length ≤ 1000000 by have := h.ls; omega)]
  refine nC (dI (fun pre ρ => ∃ t, np t ∧ ρ = [.val (dM n kd es), .val (.lst false (ME es)), t, u]) (List.range (es.length - 1)) ⟨_, ht, rfl⟩ ?_) (fun ρ h => trivial) (fun _ h => h)
  rintro pre i post ρ e ⟨t, ht, rfl⟩
  have hi : i < es.length - 1 := List.mem_range.mp (by rw [e]; simp)
  have e1 : (1 + (i : Int)) = ((i + 1 : Nat) : Int) := by omega
  have e2 : (((i + 1 : Nat) : Int) - 1) = (i : Int) := by omega
  have q1 := fL (es := es) (k := i + 1) (b := false) (c := false) (by omega)
  have q2 := fL (es := es) (k := i) (b := false) (c := true) (by omega)
  have up : ST.ltL (ed es i).l (ed es (i + 1)).l = true := by
   have := List.pairwise_iff_getElem.mp h.up i (i + 1) (by omega) (by omega) (by omega)
   have z1 := lS (es := es) (k := i) (by omega)
   have z2 := lS (es := es) (k := i + 1) (by omega)
   rw [List.getElem?_eq_getElem (by omega)] at z1 z2
   rw [← Option.some.inj z1, ← Option.some.inj z2]; exact this
  rw [e1]
  simp only [xV, aLk, aFu ht, if_true, xW, List.set, aM3, aDf, aNp, aIi, aC0, cN, q1, aNu, aNq, e2, q2, aK9 up, aNr, aEx, aFm]
  exact ⟨_, aS, rfl⟩
end VL.QQ
end
section
namespace VL.QQ
open VL PySem L2 PY
def NN (xs : T0) : List D := xs.map nI
@[simp] theorem aQu : NN [] = [] := rfl
@[simp] theorem aQk (xs : T0) : (NN xs).length = xs.length := by simp [NN]
@[simp] theorem aPw (xs : T0) (x : Nat) : NN xs ++ [.int (x : Int)] = NN (xs ++ [x]) := by simp [NN]
theorem aAc (xs ys : T0) : NN xs ++ NN ys = NN (xs ++ ys) := by simp [NN]
@[simp] theorem aN5 (xs : T0) : D.bK (NN xs) = true := fP (fun _ => rfl) xs
@[simp] theorem aPt (xs : T0) : D.frzs (NN xs) = NN xs := lE (fun _ => rfl) xs
def nt (xs : T0) (k : Nat) : Nat := xs.getD k 0
theorem tK {xs : T0} {k : Nat} (h : k < xs.length) : xs[k]? = some (nt xs k) := by simp [nt, List.getElem?_eq_getElem h]
theorem vK {xs : T0} {k : Nat} (h : k < xs.length) : nt xs k ∈ xs := List.mem_of_getElem? (tK h)
theorem aA6 {o : Bool} {xs : T0} {k : Nat} {b c : Bool} (h : k < xs.length) : kIx (.lst o (NN xs), b) (.int (k : Int), c) = .ok (nI (nt xs k), b) := by
 simp [eD, NN, tK h]
theorem pI {o : Bool} {xs : T0} {x : Nat} {b c : Bool} (h : xs.getLast? = some x) : kIx (.lst o (NN xs), b) (.int (-1), c) = .ok (nI x, b) := by
 simp [aDj, NN, h]
def oD : Option Nat → D
 | none => .non
 | some k => nI k
def OD (ow : Y4) : List D := ow.map oD
@[simp] theorem nH (x : Option Nat) : (oD x).calm = true := by cases x <;> rfl
@[simp] theorem aD1 (xs : Y4) : D.bK (OD xs) = true := fP nH xs
@[simp] theorem aH4 (xs : Y4) : D.frzs (OD xs) = OD xs := lE nH xs
@[simp] theorem aLv (xs : Y4) : (OD xs).length = xs.length := by simp [OD]
theorem wB {o : Bool} {ow : Y4} {v : Nat} {b c : Bool} (h : v < ow.length) : kIx (.lst o (OD ow), b) (.int (v : Int), c) = .ok (oD (og ow v), b) := by
 simp [eD, OD, og, List.getElem?_eq_getElem h]
theorem fB {n kd : Nat} {es : List E} (h : OkM n kd es) : Ret dX [dM n kd es] .non := by
 refine pB ?_
 have e1 := aZ (oX (x := (n : Int)) (a := 1) (b := 200) (by have := h.n1; omega) (by have := h.n2; omega))
 have e2 := aZ (oX (x := (kd : Int)) (a := 1) (b := 8) (by have := h.k1; omega) (by have := h.k2; omega))
 simp -implicitDefEqProofs [kX, entry, dF, fZ, nI, e1, e2, bM (uI h)]
@[simp] theorem l1 : (Str.ofString "a machine has 1 to ").length = 19 := by rfl
@[simp] theorem l2 : (Str.ofString " places").length = 7 := by rfl
@[simp] theorem l3 : (Str.ofString "the price of kind ").length = 18 := by rfl
@[simp] theorem l4 : (Str.ofString " is not from 0 to ").length = 18 := by rfl
@[simp] theorem l5 : (Str.ofString "deed ").length = 5 := by rfl
@[simp] theorem l6 : (Str.ofString " does not begin where the row has come to").length = 41 := by rfl
theorem aGz {n : Nat} {body : aU} {ds : List D} {c : Str} (h : kE (body (entry n ds)) (fun _ => False) (fun _ => False) (fun x => x = c)) : aGo (fnOf n body) ds c := by
 rcases aK6 (P := fun _ => False) h with ⟨d, _, h⟩ | ⟨c', h1, h2⟩
 ·exact h.elim
 ·rw [h2] at h1; exact h1
def prB (kd : Nat) (ps : Y0) : Bool := decide (ps.length = kd) && ps.all fun p => decide (0 ≤ p) && decide (p ≤ 1000)
theorem aHh (xs : Y0) : lM (I xs) = xs.zipIdx.map fun p => .tup [.int (p.2 : Nat), .int p.1] := rM
theorem aFa {α : Type} {xs pre post : List α} {x : α} {k : Nat} {pr po : List (α × Nat)} (e : xs.zipIdx = pr ++ (x, k) :: po) : k = pr.length ∧ k < xs.length ∧ xs[k]? = some x := by
 have h1 : pr.length < xs.zipIdx.length := by rw [e]; simp
 have h2 : xs.zipIdx[pr.length]? = some (x, k) := by rw [e]; simp
 simp only [List.length_zipIdx] at h1
 rw [List.getElem?_zipIdx, List.getElem?_eq_getElem h1] at h2
 simp at h2
 obtain ⟨h2, h3⟩ := h2
 subst h3
 exact ⟨rfl, h1, by rw [List.getElem?_eq_getElem h1, h2]⟩
theorem cH {n kd : Nat} {es : List E} {ps : Y0} (h : OkM n kd es) (hl : ps.length ≤ 1000) : (prB kd ps = true → Ret dN [dM n kd es, .lst false (I ps)] .non) ∧ (prB kd ps = false → aGo dN [dM n kd es, .lst false (I ps)] "BadPrices") := by
 have key : kE (fV (entry 4 [dM n kd es, .lst false (I ps)])) (fun _ => prB kd ps = true) (fun _ => False) (fun c => c = "BadPrices" ∧ prB kd ps = false) := by
  by_cases h1 : ps.length = kd
  ·have h1' : (ps.length : Int) = (kd : Int) := by omega
   simp -implicitDefEqProofs [fV, entry, dF, fZ, nI, bM (fB h), h1', aHh]
   refine lB (xY (Q := fun _ => False) (X := fun c => c = "BadPrices" ∧ prB kd ps = false) (fun pre ρ => (pre.all fun p => decide (0 ≤ p.1) && decide (p.1 ≤ 1000)) = true ∧ ∃ t u, np t ∧ np u ∧ ρ = [.val (dM n kd es), .val (.lst false (I ps)), t, u]) ps.zipIdx ⟨rfl, _, _, bE, bE, rfl⟩ ?_) ?_ (fun _ h => h) fun _ h => h
   ·rintro pre ⟨x, k⟩ post ρ e ⟨ha, t, u, ht, hu, rfl⟩
    obtain ⟨hk1, hk2, hk3⟩ := aFa (pre := []) (post := []) e
    by_cases hx : 0 ≤ x ∧ x ≤ 1000
    ·simp -implicitDefEqProofs [ht, hu, dF, fZ, aZ (oX hx.1 hx.2)]
     refine ⟨?_, hx⟩
     simpa using ha
    ·have hk4 : k ≤ 100000 := by omega
     simp -implicitDefEqProofs [ht, hu, dF, fZ, aZ (aNg hx), hk4]
     unfold prB
     rw [← Bool.not_eq_true]
     intro z
     rw [Bool.and_eq_true, List.all_eq_true] at z
     have := z.2 x (List.mem_of_getElem? hk3)
     rw [Bool.and_eq_true, decide_eq_true_eq, decide_eq_true_eq] at this
     exact hx this
   ·rintro ρ ⟨ha, t, u, ht, hu, rfl⟩
    unfold prB
    rw [decide_eq_true h1, Bool.true_and]
    rw [List.all_eq_true] at ha ⊢
    intro x hx
    obtain ⟨i, hi, e⟩ := List.getElem_of_mem hx
    have := ha (x, i) (by rw [List.mem_zipIdx_iff_getElem?]; rw [List.getElem?_eq_getElem hi, e])
    exact this
  ·have h1' : ¬ (ps.length : Int) = (kd : Int) := by omega
   simp -implicitDefEqProofs [fV, entry, dF, fZ, nI, bM (fB h), h1']
   simp [prB, h1]
 constructor
 ·intro hb
  rcases aK6 (P := fun d => d = .non) (X := fun _ => False) (lB key (fun _ _ => rfl) (fun _ q => q.elim) fun c q => by rw [hb] at q; cases q.2) with ⟨d, h1, rfl⟩ | ⟨c, _, hc⟩
  ·exact h1
  ·exact hc.elim
 ·intro hb
  exact aGz (lB key (fun _ q => by rw [hb] at q; cases q) (fun _ q => q.elim) fun c q => q.1)
def ov (es : List E) (ps : Y0) : Y0 := es.map fun e => e.c - gt ps e.k
theorem gE {n kd : Nat} {es : List E} {ps : Y0} (h : OkM n kd es) (hp : ps.length = kd) : Ret gM [dM n kd es, .lst false (I ps)] (.lst true (I (ov es ps))) := by
 refine pB ?_
 have ec : cB (kA (v2 kIx (aB 0) (vC (.int 2)))) 1 [1] (bA 0) dD (v2 sA (v2 kIx (aB 0) (vC (.int 3))) (v2 kIx (aB 1) (v2 kIx (aB 0) (vC (.int 1))))) [.val (dM n kd es), .val (.lst false (I ps))] = .ok (.lst true (I (ov es ps)), true) := by
  rw [mF [.val (.lst false (I ps))] es E.d (fun e => D.int (e.c - gt ps e.k)) (fun _ => true) (by simp; rfl) (by have := h.ls; omega) (by simp [jJ]) ?_ (.inr fun _ _ => rfl)]
  ·simp [I, ov]
  ·intro e he
   refine ⟨?_, rfl⟩
   simp -implicitDefEqProofs [nI, kP (show e.k < ps.length by rw [hp]; exact h.k e he)]
 simp -implicitDefEqProofs [nR, entry, ec]
theorem kZ {gs : Y0} {row : T0} (h : ∀ x ∈ row, x < gs.length) (hl : row.length ≤ 1000000) : Ret gP [.lst false (I gs), .lst false (NN row)] (.int (row.map (gt gs)).sum) := by
 refine pB ?_
 have ec : cB (kA (aB 1)) 1 [0] (bA 0) dD (v2 kIx (aB 1) (aB 0)) [.val (.lst false (I gs)), .val (.lst false (NN row))] = .ok (.lst true (I (row.map (gt gs))), true) := by
  rw [mF [.val (.lst false (I gs))] row nI (fun x => D.int (gt gs x)) (fun _ => false) (by simp; rfl) hl (by simp [jJ]) ?_ (.inr fun _ _ => rfl)]
  ·simp [I]
  ·intro x hx
   refine ⟨?_, rfl⟩
   simp -implicitDefEqProofs [nI, kP (h x hx)]
 have es : aH3 [(.lst true (I (row.map (gt gs))), true)] = .ok (.int (row.map (gt gs)).sum, true) := by
  show (match bY (I (row.map (gt gs))) with | some ns => R.ok (D.int ns.sum, true) | none => .bad) = _
  rw [vA]
 simp -implicitDefEqProofs [sX, entry, ec, es]
end VL.QQ
end
section
namespace VL.QQ
open VL PySem L2 PY
def stP (es : List E) (r : Option (T0)) (x : Nat) : Option (T0) := r.bind fun ps => if ps.getLast? = some (ed es x).a then some (ps ++ [(ed es x).b]) else none
def goP (es : List E) (row : T0) : Option (T0) := row.foldl (stP es) (some [0])
theorem xG {es : List E} {row : T0} {x : Nat} : goP es (row ++ [x]) = stP es (goP es row) x := by unfold goP; rw [List.foldl_append]; rfl
theorem aA5 {es : List E} : ∀ row : T0, row.foldl (stP es) none = none
 | [] => rfl
 | x :: row => aA5 row
theorem aC3 {es : List E} {pre post : T0} (h : goP es pre = none) : goP es (pre ++ post) = none := by
 unfold goP at h ⊢; rw [List.foldl_append, h, aA5]
theorem wM {es : List E} : ∀ (row : T0) {r : Option (T0)} {ps : T0}, row.foldl (stP es) r = some ps → ∃ qs, r = some qs ∧ ps.length = qs.length + row.length
 | [], r, ps, h => ⟨ps, h, rfl⟩
 | x :: row, r, ps, h => by
  obtain ⟨qs, h1, h2⟩ := wM row (r := stP es r x) h
  cases r with
  | none => cases h1
  | some us =>
   have h1 : (if us.getLast? = some (ed es x).a then some (us ++ [(ed es x).b]) else none) = some qs := h1
   by_cases q : us.getLast? = some (ed es x).a
   ·rw [if_pos q] at h1; cases h1
    exact ⟨us, rfl, by rw [h2]; simp; omega⟩
   ·rw [if_neg q] at h1; cases h1
theorem aA7 {es : List E} (row : T0) {ps : T0} (h : goP es row = some ps) : ps.length = row.length + 1 := by
 obtain ⟨qs, h1, h2⟩ := wM row h
 cases h1; simpa [Nat.add_comm] using h2
theorem aB7 {n kd : Nat} {es : List E} {row : T0} (h : OkM n kd es) (hr : ∀ x ∈ row, x < es.length) (hl : row.length ≤ 1000) :
  kE (aAa (entry 5 [dM n kd es, .lst false (NN row)])) (fun _ => False) (fun d => ∃ ps, goP es row = some ps ∧ d = .lst true (NN ps)) (fun c => c = "BadRow" ∧ goP es row = none) := by
 simp -implicitDefEqProofs [aAa, entry, dF, fZ, bM (fB h)]
 refine aCp (xY (Q := fun d => ∃ ps, goP es row = some ps ∧ d = .lst true (NN ps)) (X := fun c => c = "BadRow" ∧ goP es row = none) (fun pre ρ => ∃ ps t, np t ∧ goP es pre = some ps ∧ ρ = [.val (dM n kd es), .val (.lst false (NN row)), .val (.lst false (ME es)), .val (.lst true (NN ps)), t]) row ⟨[0], _, bE, rfl, rfl⟩ ?_) ?_
 ·rintro pre x post ρ e ⟨ps, t, ht, hg, rfl⟩
  have hx : x < es.length := hr x (by rw [e]; simp)
  have hpl := aA7 pre hg
  have hpre : pre.length ≤ 1000 := by have := congrArg List.length e; simp at this; omega
  obtain ⟨y, hy⟩ : ∃ y, ps.getLast? = some y := by
   cases q : ps.getLast? with
   | none => rw [List.getLast?_eq_none_iff] at q; rw [q] at hpl; simp at hpl
   | some y => exact ⟨y, rfl⟩
  have e1 := aZ (oX (x := (x : Int)) (a := 0) (b := (es.length : Int) - 1) (by omega) (by omega))
  by_cases hq : (ed es x).a = y
  ·have hq' : ((ed es x).a : Int) = (y : Int) := by omega
   have hps : ps.length < 1000000 := by omega
   simp -implicitDefEqProofs [ht, e1, dF, fZ, nI, fL hx, pI hy, hq', hps]
   exact ⟨_, _, aS, (by rw [xG, hg]; show (if ps.getLast? = some (ed es x).a then some (ps ++ [(ed es x).b]) else none) = _; rw [if_pos (by rw [hy, hq])]), rfl, rfl⟩
  ·have hq' : ¬ ((ed es x).a : Int) = (y : Int) := by omega
   have hx' : x ≤ 100000 := by have := h.ls; omega
   simp -implicitDefEqProofs [ht, e1, dF, fZ, nI, fL hx, pI hy, hq', hx']
   rw [e, show pre ++ x :: post = (pre ++ [x]) ++ post by simp]
   refine aC3 ?_
   rw [xG, hg]
   show (if ps.getLast? = some (ed es x).a then some (ps ++ [(ed es x).b]) else none) = none
   rw [if_neg (by rw [hy]; intro z; cases z; exact hq rfl)]
 ·rintro ρ ⟨ps, t, ht, hg, rfl⟩
  simp -implicitDefEqProofs [hg]
theorem aJg {n kd : Nat} {es : List E} {row ps : T0} (h : OkM n kd es) (hr : ∀ x ∈ row, x < es.length) (hl : row.length ≤ 1000) (hg : goP es row = some ps) : Ret zO [dM n kd es, .lst false (NN row)] (.lst true (NN ps)) := by
 rcases aK6 (P := fun d => d = .lst true (NN ps)) (X := fun _ => False) (lB (aB7 h hr hl) (fun _ q => q.elim) (fun d ⟨qs, q1, q2⟩ => by rw [hg] at q1; cases q1; exact q2) fun c q => by rw [hg] at q; cases q.2) with ⟨d, h1, rfl⟩ | ⟨c, _, hc⟩
 ·exact h1
 ·exact hc.elim
def ixP (pre : List (E × Nat)) (p : Nat) : T0 := (pre.filter fun x => x.1.a == p).map (·.2)
def LS (n : Nat) (f : Nat → T0) : List D := (List.range n).map fun p => .lst true (NN (f p))
theorem aLi {n a x : Nat} {f : Nat → T0} : (LS n f).set a (.lst true (NN (f a ++ [x]))) = LS n fun p => if p = a then f a ++ [x] else f p := by
 unfold LS
 refine List.ext_getElem (by simp) fun i h1 h2 => ?_
 rw [List.getElem_set]
 by_cases h : a = i
 ·simp [h]
 ·simp [h, Ne.symm h]
@[simp] theorem aOa {i : Nat} {h f : aQ} {ρ : Env} : gQ i h f ρ = kF (h ρ) fun d _ => match d with
  | .int k => (match f ρ with
   | .ok x => (match (getD ρ i).bind fun d => yD d k x with | some d => .next (putD ρ i d) | none => .bad)
   | .exc _ => .bad | .bad => .bad)
  | _ => .bad := by
 unfold gQ kF
 cases h ρ with
 | ok x => obtain ⟨d, b⟩ := x; cases d <;> rfl
 | exc _ => rfl
 | bad => rfl
theorem aQg {n a x : Nat} {f : Nat → T0} {b : Bool} (ha : a < n) (hl : (f a).length < 1000000) : yD (.lst true (LS n f)) (a : Int) (nI x, b) = some (.lst true (LS n fun p => if p = a then f a ++ [x] else f p)) := by
 have e1 : ixN (LS n f).length (a : Int) = some a := by
  unfold ixN
  rw [if_pos (Int.natCast_nonneg a), if_pos (by simp [LS]; omega)]; simp
 have e2 : (LS n f)[a]? = some (.lst true (NN (f a))) := by simp [LS, ha]
 show (ixN (LS n f).length (a : Int)).bind _ = _
 rw [e1]
 show ((LS n f)[a]?).bind _ = _
 rw [e2]
 show (pD (.lst true (NN (f a))) (nI x, b)).map _ = _
 have e3 : pD (.lst true (NN (f a))) (nI x, b) = some (.lst true (NN (f a ++ [x]))) := by
  cases b <;> simp [hl, nI]
 rw [e3]
 show some (D.lst true ((LS n f).set a (.lst true (NN (f a ++ [x]))))) = _
 rw [aLi]
theorem uN {n kd : Nat} {es : List E} (h : OkM n kd es) : Ret jN [dM n kd es] (.lst true (LS n (ixP es.zipIdx))) := by
 refine pB ?_
 have ec : cB (iR1 (aD (v2 kIx (aB 0) (vC (.int 0))) aM)) 1 [] (bA 0) dD (iX aM) [.val (dM n kd es), .un, .un, .un] = .ok (.lst true (LS n fun _ => []), true) := by
  rw [mF [] (List.range n) (fun i => .int (i : Int)) (fun _ => D.lst true []) (fun _ => true) (by simp -implicitDefEqProofs [nI, eO (show n ≤ 1000000 by have := h.n2; omega)]) (by have := h.n2; simp; omega) rfl ?_ (.inl rfl)]
  ·rfl
  ·intro x _; exact ⟨rfl, rfl⟩
 simp -implicitDefEqProofs [nM, entry, ec, uY]
 refine bR (dI (fun pre ρ => ∃ t u, np t ∧ np u ∧ ρ = [.val (dM n kd es), .val (.lst true (LS n (ixP pre))), t, u]) es.zipIdx ⟨_, _, bE, bE, rfl⟩ ?_) ?_
 ·rintro pre ⟨x, k⟩ post ρ e ⟨t, u, ht, hu, rfl⟩
  obtain ⟨hk1, hk2, hk3⟩ := aFa (pre := []) (post := []) e
  have hx : x ∈ es := List.mem_of_getElem? hk3
  have hlen : (ixP pre x.a).length < 1000000 := by
   have h1 : (ixP pre x.a).length ≤ pre.length := by unfold ixP; rw [List.length_map]; exact List.length_filter_le _ _
   have := h.ls; omega
  have ea := aQg (n := n) (a := x.a) (x := k) (f := ixP pre) (b := false) (h.a x hx) hlen
  simp -implicitDefEqProofs [ht, hu, nI, ea]
  have ef : (fun p => if p = x.a then ixP pre x.a ++ [k] else ixP pre p) = ixP (pre ++ [(x, k)]) := by
   funext p
   by_cases hp : p = x.a
   ·subst hp
    simp [ixP]
   ·simp [ixP, hp, Ne.symm hp]
  rw [ef]
  exact ⟨_, aS, _, aS, rfl, rfl, rfl⟩
 ·rintro ρ ⟨t, u, ht, hu, rfl⟩
  simp
end VL.QQ
end
section
namespace VL.QQ
open VL PySem L2 PY
theorem fN {c : bZ} {b : aU} {P : Env → Prop} {Q : D → Prop} (J : Nat → Env → Prop) (h : ∀ m ρ, J m ρ → (c ρ = .ok false ∧ P ρ) ∨ (c ρ = .ok true ∧ ∃ m', m = m' + 1 ∧ out (b ρ) (J m') Q)) :
  ∀ (N m : Nat) (ρ : Env), J m ρ → m < N → out (cF c b N ρ) P Q
 | 0, m, ρ, _, hm => absurd hm (Nat.not_lt_zero m)
 | N + 1, m, ρ, hj, hm => by
  rcases h m ρ hj with ⟨h1, h2⟩ | ⟨h1, m', e, h2⟩
  ·rw [aGh h1]; exact h2
  ·show out (match c ρ with | .ok true => fT (b ρ) (cF c b N) | .ok false => .next ρ | .exc _ => .bad | .bad => .bad) P Q
   rw [h1]
   show out (fT (b ρ) (cF c b N)) P Q
   cases eb : b ρ with
   | next ρ2 =>
    rw [eb] at h2
    exact fN J h N m' ρ2 h2 (by omega)
   | ret d ρ2 => rw [eb] at h2; exact h2
   | exc _ _ => rw [eb] at h2; exact h2.elim
   | brk _ => rw [eb] at h2; exact h2.elim
   | cont _ => rw [eb] at h2; exact h2.elim
   | bad => rw [eb] at h2; exact h2.elim
@[simp] theorem aLu {i : Nat} {h f : aQ} {ρ : Env} : dU i h f ρ = kF (f ρ) fun d b => kF (h ρ) fun k _ => match k with
  | .int k => (match (getD ρ i).bind fun e => aB9 e k (d, b) with | some e => .next (putD ρ i e) | none => .bad) | _ => .bad := by
 unfold dU kF
 cases f ρ with
 | ok x =>
  cases h ρ with
  | ok y => obtain ⟨y, c⟩ := y; cases y <;> rfl
  | exc _ => rfl
  | bad => rfl
 | exc _ => rfl
 | bad => rfl
@[simp] theorem aQm {i : Nat} {op : Int → Int → Int} {f : aQ} {ρ : Env} : uT i op f ρ = match getD ρ i with
  | some (.int a) => kF (f ρ) fun d _ => (match d with | .int b => if free ρ i then .next (ρ.set i (.val (.int (op a b)))) else .bad | _ => .bad)
  | _ => .bad := by
 unfold uT kF
 cases getD ρ i with
 | none => rfl
 | some d =>
  cases d <;> try rfl
  cases f ρ with
  | ok x => obtain ⟨x, b⟩ := x; cases x <;> rfl
  | exc _ => rfl
  | bad => rfl
theorem aD4 {m k : Nat} (h : k < m) : ixN m (k : Int) = some k := by
 unfold ixN; rw [if_pos (Int.natCast_nonneg k), if_pos (by omega)]; simp
theorem aAm {ow : Y4} {v k : Nat} {b : Bool} (h : v < ow.length) : aB9 (.lst true (OD ow)) (v : Int) (nI k, b) = some (.lst true (OD (ow.set v (some k)))) := by
 show (if aL (nI k, b) = true then (ixN (OD ow).length (v : Int)).map fun j => D.lst true ((OD ow).set j (nI k)) else none) = _
 rw [if_pos (by cases b <;> rfl), aLv, aD4 h]
 show some (D.lst true ((OD ow).set v (nI k))) = _
 rw [OD, OD, List.map_set]; rfl
theorem aJ3 {xs : Y0} {v : Nat} {x : Int} {b : Bool} (h : v < xs.length) : aB9 (.lst true (I xs)) (v : Int) (.int x, b) = some (.lst true (I (xs.set v x))) := by
 show (if aL (.int x, b) = true then (ixN (I xs).length (v : Int)).map fun j => D.lst true ((I xs).set j (.int x)) else none) = _
 rw [if_pos (by cases b <;> rfl), aOx, aD4 h]
 show some (D.lst true ((I xs).set v (.int x))) = _
 rw [I, I, List.map_set]
structure BS (n : Nat) (es : List E) (came : Y4) (pl : T0) (rk : Nat → Nat) : Prop where
 len : came.length = n
 nd : pl.Nodup
 lt : ∀ p ∈ pl, p < n
 iff : ∀ p, p < n → (p ∈ pl ↔ (p = 0 ∨ og came p ≠ none))
 ok : ∀ p k, og came p = some k → k < es.length ∧ (ed es k).b = p ∧ p ≠ 0 ∧ (ed es k).a ∈ pl ∧ rk (ed es k).a < rk p
 rl : ∀ p ∈ pl, rk p < pl.length
 rm : ∀ p, rk p ≤ pl.length
 so : ∀ p ∈ pl, Reach es p
theorem BS.le {n : Nat} {es : List E} {came : Y4} {pl : T0} {rk : Nat → Nat} (h : BS n es came pl rk) : pl.length ≤ n := oJ n pl h.nd h.lt
theorem BS.add {n : Nat} {es : List E} {came : Y4} {pl : T0} {rk : Nat → Nat} (h : BS n es came pl rk) {k : Nat} (hk : k < es.length) (ha : (ed es k).a ∈ pl) (hb : (ed es k).b < n) (h0 : (ed es k).b ≠ 0) (hn : og came (ed es k).b = none) :
  BS n es (came.set (ed es k).b (some k)) (pl ++ [(ed es k).b]) (fun p => if p = (ed es k).b then pl.length else rk p) := by
 generalize eb : (ed es k).b = B at *
 have go : ∀ v, og (came.set B (some k)) v = if v = B then some k else og came v := fun v => yN (by rw [h.len]; exact hb)
 have hB : B ∉ pl := fun z => by
  rcases (h.iff B hb).mp z with q | q
  ·exact h0 q
  ·exact q hn
 have ne : ∀ p ∈ pl, p ≠ B := fun p hp z => hB (z ▸ hp)
 refine ⟨by rw [List.length_set]; exact h.len, ?_, fun p hp => ?_, fun p hp => ?_, fun p k' e => ?_, fun p hp => ?_, fun p => ?_, fun p hp => ?_⟩
 ·refine List.nodup_append.mpr ⟨h.nd, by simp, fun x hx y hy z => ?_⟩
  simp at hy; subst hy; exact ne x hx z
 ·rcases List.mem_append.mp hp with q | q
  ·exact h.lt p q
  ·simp at q; rw [q]; exact hb
 ·rw [go, List.mem_append]
  by_cases q : p = B
  ·simp [q]
  ·rw [if_neg q, h.iff p hp]; simp [q]
 ·rw [go] at e
  by_cases q : p = B
  ·rw [if_pos q] at e; cases e
   subst q
   refine ⟨hk, eb, h0, List.mem_append_left _ ha, ?_⟩
   rw [if_pos rfl, if_neg (ne _ ha)]
   exact h.rl _ ha
  ·rw [if_neg q] at e
   obtain ⟨o1, o2, o3, o4, o5⟩ := h.ok p k' e
   refine ⟨o1, o2, o3, List.mem_append_left _ o4, ?_⟩
   rw [if_neg (ne _ o4), if_neg q]; exact o5
 ·rw [List.length_append]
  show (if p = B then pl.length else rk p) < pl.length + 1
  by_cases q : p = B
  ·rw [if_pos q]; omega
  ·rw [if_neg q]
   have := h.rm p; omega
 ·rw [List.length_append]
  show (if p = B then pl.length else rk p) ≤ pl.length + 1
  have := h.rm p
  split <;> omega
 ·rcases List.mem_append.mp hp with q | q
  ·exact h.so p q
  ·simp at q
   rw [q, ← eb]
   exact .step (eK hk) (h.so _ ha)
theorem aOl {es : List E} {e : E} (he : e ∈ es) : ∃ k, k ∈ ixP es.zipIdx e.a ∧ ed es k = e := by
 obtain ⟨k, hk, hke⟩ := List.getElem_of_mem he
 refine ⟨k, ?_, ?_⟩
 ·unfold ixP
  refine List.mem_map.mpr ⟨(e, k), List.mem_filter.mpr ⟨?_, by simp⟩, rfl⟩
  rw [List.mem_zipIdx_iff_getElem?, List.getElem?_eq_getElem hk, hke]
 ·have := lS hk
  rw [List.getElem?_eq_getElem hk, hke] at this
  exact (Option.some.inj this).symm
theorem aKc {es : List E} {k p : Nat} (h : k ∈ ixP es.zipIdx p) : k < es.length ∧ (ed es k).a = p := by
 unfold ixP at h
 obtain ⟨⟨e, k'⟩, h1, h2⟩ := List.mem_map.mp h
 obtain ⟨h3, h4⟩ := List.mem_filter.mp h1
 have h2 : k' = k := h2
 subst h2
 rw [List.mem_zipIdx_iff_getElem?] at h3
 have h3 : es[k']? = some e := h3
 have hk := (List.getElem?_eq_some_iff.mp h3).1
 refine ⟨hk, ?_⟩
 have := lS hk
 rw [h3] at this
 rw [← Option.some.inj this]
 simpa using h4
structure CameOk (n : Nat) (es : List E) (came : Y4) : Prop where
 len : came.length = n
 ok : ∀ p k, og came p = some k → k < es.length ∧ (ed es k).b = p ∧ p ≠ 0
 rk : ∃ rk : Nat → Nat, (∀ p, rk p ≤ n) ∧ ∀ p k, og came p = some k → rk (ed es k).a < rk p
 re : ∀ p, p < n → ((p = 0 ∨ og came p ≠ none) ↔ Reach es p)
 sr : ∀ p k, og came p = some k → Reach es (ed es k).a
theorem aKf {n p : Nat} {f : Nat → T0} (h : p < n) : (D.frzs (LS n f))[p]? = some (.lst false (NN (f p))) := by
 rw [D.aBm]; simp [LS, h]
def mP : bZ := (aV (v2 kLt (aB 4) (vCB iD (aD (aB 3) aM))))
def qU : aU := (aN (fI (kA (v2 kIx (aB 1) (v2 kIx (aB 3) (aB 4)))) (bA 5) (aN (aY 6 (xOf (v2 kIx (v2 kIx (v2 kIx (aB 0) (vC (.int 2))) (aB 5)) (vC (.int 2))))) (sIf (jH (aV (v2 (kEq true) (aB 6) (vC (.int 0)))) (aV (v2 (kJ false) (v2 kIx (aB 2) (aB 6)) (vC .non)))) (aN (dU 2 (aB 6) (aB 5)) (cG 3 (aB 6))) bI))) (uT 4 (fun i j => i + j) (vC (.int 1))))
theorem tM {n kd : Nat} {es : List E} (h : OkM n kd es) : nY jA [dM n kd es] (fun d => ∃ came, d = .lst true (OD came) ∧ CameOk n es came) := by
 refine eP ?_
 have ec : cB (iR1 (aD (v2 kIx (aB 0) (vC (.int 0))) aM)) 1 [] (bA 0) dD (vC .non) [.val (dM n kd es), .val (.lst true (LS n (ixP es.zipIdx))), .un, .un, .un, .un, .un] = .ok (.lst true (OD (List.replicate n none)), true) := by
  rw [mF [] (List.range n) (fun i => .int (i : Int)) (fun _ => D.non) (fun _ => true) (by simp -implicitDefEqProofs [nI, eO (show n ≤ 1000000 by have := h.n2; omega)]) (by have := h.n2; simp; omega) rfl ?_ (.inl rfl)]
  ·rw [OD, List.map_replicate]
   congr 3
   exact List.eq_replicate_iff.mpr ⟨by simp, by simp [oD]⟩
  ·intro x _; exact ⟨rfl, rfl⟩
 have hn2 := h.n2
 simp -implicitDefEqProofs [sZ, entry, aZ (uN h), ec]
 show out ((cF mP qU fuel _).andThen _) _ _
 refine bR (P' := fun ρ => ∃ came pl rk at' t u, np t ∧ np u ∧ BS n es came pl rk ∧ (∀ e ∈ es, e.a ∈ pl → e.b ∈ pl) ∧ 0 ∈ pl ∧ ρ = [.val (dM n kd es), .val (.lst false (D.frzs (LS n (ixP es.zipIdx)))), .val (.lst true (OD came)), .val (.lst true (NN pl)), .val (.int at'), t, u]) (fN (fun m ρ => ∃ came pl rk, ∃ a : Nat, ∃ t u, np t ∧ np u ∧ BS n es came pl rk ∧ (∀ e ∈ es, e.a ∈ pl.take a → e.b ∈ pl) ∧ a ≤ pl.length ∧ 0 ∈ pl ∧ m = n - a ∧ ρ = [.val (dM n kd es), .val (.lst false (D.frzs (LS n (ixP es.zipIdx)))), .val (.lst true (OD came)), .val (.lst true (NN pl)), .val (nI a), t, u]) ?_ 1000 n _ ?_ (by omega)) ?_
 ·rintro m ρ ⟨came, pl, rk, a, t, u, ht, hu, B, cl, hal, h0, hm, rfl⟩
  by_cases hlt : a < pl.length
  ·refine .inr ⟨by simp [mP, nI, hlt], n - (a + 1), by have := B.le; omega, ?_⟩
   have hp := vK hlt
   have hpn := B.lt _ hp
   have e1 : atI (D.frzs (LS n (ixP es.zipIdx))) ((nt pl a : Nat) : Int) = some (.lst false (NN (ixP es.zipIdx (nt pl a)))) := by rw [eD]; exact aKf hpn
   simp -implicitDefEqProofs [qU, nI, aA6 hlt, e1]
   refine bR (dI (fun pre ρ => ∃ came pl' rk t u, np t ∧ np u ∧ BS n es came pl' rk ∧ (∀ e ∈ es, e.a ∈ pl'.take a → e.b ∈ pl') ∧ a < pl'.length ∧ nt pl' a = nt pl a ∧ 0 ∈ pl' ∧ (∀ x ∈ pre, (ed es x).b ∈ pl') ∧ ρ = [.val (dM n kd es), .val (.lst false (D.frzs (LS n (ixP es.zipIdx)))), .val (.lst true (OD came)), .val (.lst true (NN pl')), .val (nI a), t, u]) (ixP es.zipIdx (nt pl a)) ⟨came, pl, rk, t, u, ht, hu, B, cl, hlt, rfl, h0, by simp, rfl⟩ ?_) ?_
   ·rintro pre x post ρ e ⟨came, pl', rk, t, u, ht, hu, B, cl, hlt', hnt, h0, hpre, rfl⟩
    obtain ⟨hx, hxa⟩ := aKc (show x ∈ ixP es.zipIdx (nt pl a) by rw [e]; simp)
    have hbn := h.b _ (eK hx)
    have ha' : (ed es x).a ∈ pl' := by rw [hxa, ← hnt]; exact vK hlt'
    have hoA := wB (o := true) (b := false) (c := false) (show (ed es x).b < came.length by rw [B.len]; exact hbn)
    by_cases hb0 : (ed es x).b = 0
    ·simp -implicitDefEqProofs [ht, hu, nI, fL hx, hb0]
     refine ⟨came, pl', rk, _, aS, _, aS, B, cl, hlt', hnt, h0, fun y hy => ?_, rfl, rfl, rfl, rfl⟩
     rcases hy with hy | hy
     ·exact hpre y hy
     ·rw [hy, hb0]; exact h0
    ·have hb0' : ¬ ((ed es x).b : Int) = 0 := by omega
     cases ho : og came (ed es x).b with
     | some k =>
      rw [ho] at hoA
      simp -implicitDefEqProofs [ht, hu, nI, fL hx, hb0', hb0, hoA, oD, fK]
      refine ⟨came, pl', rk, _, aS, _, aS, B, cl, hlt', hnt, h0, fun y hy => ?_, rfl, rfl, rfl, rfl⟩
      rcases hy with hy | hy
      ·exact hpre y hy
      ·rw [hy]; exact (B.iff _ hbn).mpr (.inr (by rw [ho]; simp))
     | none =>
      rw [ho] at hoA
      have hpl : pl'.length < 1000000 := by have := B.le; omega
      have B' := B.add hx ha' hbn hb0 ho
      simp -implicitDefEqProofs [ht, hu, nI, fL hx, hb0', hb0, hoA, oD, fK, aAm (show (ed es x).b < came.length by rw [B.len]; exact hbn), hpl]
      refine ⟨_, _, _, _, aS, _, aS, B', fun e he hea => ?_, ?_, ?_, ?_, fun y hy => ?_, rfl, rfl, rfl, rfl⟩
      ·rw [List.take_append_of_le_length (by omega)] at hea
       exact List.mem_append_left _ (cl e he hea)
      ·simp; omega
      ·rw [← hnt]; unfold nt
       rw [List.getD_eq_getElem?_getD, List.getD_eq_getElem?_getD, List.getElem?_append_left hlt']
      ·exact List.mem_append_left _ h0
      ·rcases hy with hy | hy
       ·exact List.mem_append_left _ (hpre y hy)
       ·rw [hy]; simp
   ·rintro ρ ⟨came, pl', rk, t, u, ht, hu, B, cl, hlt', hnt, h0, hpre, rfl⟩
    simp -implicitDefEqProofs [ht, hu, nI]
    refine ⟨came, pl', rk, a + 1, t, ht, u, hu, B, fun e he hea => ?_, by omega, h0, rfl, rfl, rfl, by simp, rfl, rfl⟩
    rw [List.take_succ, List.mem_append] at hea
    rcases hea with hea | hea
    ·exact cl e he hea
    ·rw [tK hlt'] at hea
     simp at hea
     obtain ⟨k, hk1, hk2⟩ := aOl he
     rw [hea, hnt] at hk1
     rw [← hk2]; exact hpre k hk1
  ·refine .inl ⟨by simp [mP, nI]; omega, came, pl, rk, (a : Int), t, u, ht, hu, B, ?_, h0, rfl⟩
   have : a = pl.length := by omega
   subst this
   simpa using cl
 ·refine ⟨_, [0], fun _ => 0, 0, _, _, bE, bE, ⟨by simp, by simp, by simp; exact h.n1, fun p hp => by simp [yX], fun p k e => (by rw [yX] at e; cases e), by simp, by simp, by simp; exact .zero⟩, by simp, by simp, by simp, by simp, rfl⟩
 ·rintro ρ ⟨came, pl, rk, a, t, u, ht, hu, B, cl, h0, rfl⟩
  simp
  refine ⟨came, rfl, B.len, fun p k e => ⟨(B.ok p k e).1, (B.ok p k e).2.1, (B.ok p k e).2.2.1⟩, ⟨rk, fun p => Nat.le_trans (B.rm p) B.le, fun p k e => (B.ok p k e).2.2.2.2⟩, fun p hp => ?_, fun p k e => B.so _ (B.ok p k e).2.2.2.1⟩
  rw [← B.iff p hp]
  refine ⟨B.so p, fun hr => ?_⟩
  clear hp
  induction hr with
  | zero => exact h0
  | step he _ ih => exact cl _ he ih
end VL.QQ
end
section
namespace VL.QQ
open VL PySem L2 PY
def BB (n : Nat) (f : Nat → Bool) : List D := (List.range n).map fun p => .bl (f p)
@[simp] theorem aNd (n : Nat) (f : Nat → Bool) : D.bK (BB n f) = true := fP (fun _ => rfl) _
@[simp] theorem aPg (n : Nat) (f : Nat → Bool) : D.frzs (BB n f) = BB n f := lE (fun _ => rfl) _
theorem aIf {o : Bool} {n p : Nat} {f : Nat → Bool} {b c : Bool} (h : p < n) : kIx (.lst o (BB n f), b) (.int (p : Int), c) = .ok (.bl (f p), b) := by
 simp [eD, BB, h]
theorem aH5 (xs : Y4) : lM (OD xs) = xs.zipIdx.map fun p => .tup [.int (p.2 : Nat), oD p.1] := rM
@[simp] theorem aQn {f g : aQ} {ρ : Env} : vOr f g ρ = (f ρ).bind fun x => match x.1 with | .bl false => g ρ | .bl true => .ok (.bl true, true) | _ => .bad := rfl
theorem aEv (x : Option Nat) : fK (oD x) = x.isNone := by cases x <;> rfl
theorem tN {n kd : Nat} {es : List E} (h : OkM n kd es) : nY lA [dM n kd es] (fun d => ∃ f, d = .lst true (BB n f) ∧ ∀ p, p < n → (f p = true ↔ Reach es p)) := by
 refine eP ?_
 obtain ⟨d, hd, came, rfl, C⟩ := tM h
 have ec : cB (rR (bC jA (aD (aB 0) aM))) 2 [] (dE [0, 1]) dD (vOr (v2 (kEq false) (aB 0) (vC (.int 0))) (v2 (kJ true) (aB 1) (vC .non))) [.val (dM n kd es)] = .ok (.lst true (BB n fun p => decide (p = 0) || (og came p).isSome), true) := by
  rw [aL3 [] came.zipIdx (fun p => .int (p.2 : Nat)) (fun p => oD p.1) (fun p => D.bl (decide (p.2 = 0) || p.1.isSome)) (fun _ => true) (by simp [aZ hd, aH5]) (by have := C.len; have := h.n2; simp; omega) rfl ?_ (.inl rfl)]
  ·congr 3
   unfold BB
   refine List.ext_getElem (by simp [C.len]) fun i h1 h2 => ?_
   simp at h1 h2
   simp [og, List.getElem?_eq_getElem h1]
  ·rintro ⟨x, i⟩ hx
   refine ⟨rfl, nH x, ?_, rfl⟩
   by_cases hi : i = 0
   ·subst hi; simp
   ·have hi' : ¬ (i : Int) = 0 := by omega
    simp [hi, hi', aEv]
 simp -implicitDefEqProofs [tP, entry, bM (fB h), ec]
 refine ⟨_, rfl, fun p hp => ?_⟩
 rw [← C.re p hp]
 simp [Option.isSome_iff_ne_none]
def oM : bZ := (aV (v2 (kJ true) (v2 kIx (aB 2) (aB 1)) (vC .non)))
def tE : aU := (aN (cG 3 (v2 kIx (aB 2) (aB 1))) (aY 1 (xOf (v2 kIx (v2 kIx (v2 kIx (aB 0) (vC (.int 2))) (v2 kIx (aB 2) (aB 1))) (vC (.int 0))))))
@[simp] theorem aRf {i : Nat} {ρ : Env} : aE7 i ρ = match (getD ρ i).bind aCw with | some d => .next (putD ρ i d) | none => .bad := rfl
theorem aHw {xs : T0} (h : xs.length < 1000000) : aCw (.lst true (NN xs)) = some (.lst true (NN xs.reverse)) := by
 show (if (D.bK (NN xs) && decide ((NN xs).length < 1000000)) = true then some (D.lst true (NN xs).reverse) else none) = _
 rw [if_pos (by simp [h])]
 simp [NN]
def iS : bZ := (aV (v2 (kJ true) (v2 kIx (aB 1) (aB 2)) (vC .non)))
def lO : aU := (aN (cG 3 (v2 kIx (aB 1) (aB 2))) (aY 2 (xOf (v2 kIx (v2 kIx (v2 kIx (aB 0) (vC (.int 2))) (v2 kIx (aB 1) (aB 2))) (vC (.int 2))))))
def hG : bZ := (aV (v2 (kEq true) (aB 5) (aB 2)))
def kK : aU := (aN (cG 4 (v2 kIx (aB 1) (aB 5))) (aY 5 (xOf (v2 kIx (v2 kIx (v2 kIx (aB 0) (vC (.int 2))) (v2 kIx (aB 1) (aB 5))) (vC (.int 2))))))
theorem gN {es : List E} {ow : Y4} {v d : Nat} (h : og ow v = some d) : nx es ow v = (ed es d).b := by unfold nx; rw [h]
theorem rY {n kd : Nat} {es : List E} {ow : Y4} {v : Nat} (h : OkM n kd es) (hl : ow.length = n) (ho : ∀ v d, og ow v = some d → d < es.length) (hv : v < n) (hne : ∀ i, og ow (ch es ow v i) ≠ none) (hp : ∃ p, 1 ≤ p ∧ p ≤ n ∧ ch es ow v (n + p) = ch es ow v n) :
  nY iQ [dM n kd es, .lst false (OD ow), .int (v : Int)] (fun d => ∃ p, 1 ≤ p ∧ p ≤ n ∧ d = .lst true (NN (dl es ow (ch es ow v n) p)) ∧ ch es ow (ch es ow v n) p = ch es ow v n) := by
 have lt : ∀ i, ch es ow v i < n := fun i => by
  induction i with
  | zero => exact hv
  | succ i ih =>
   cases e : og ow (ch es ow v i) with
   | none => exact absurd e (hne i)
   | some d => show nx es ow (ch es ow v i) < n; rw [gN e]; exact h.b _ (eK (ho _ d e))
 have hn1 := h.n1
 have hn2 := h.n2
 refine eP ?_
 simp -implicitDefEqProofs [lN, entry, nI, eO (show n ≤ 1000000 by omega)]
 refine bR (dI (fun pre ρ => ∃ t, np t ∧ ρ = [.val (dM n kd es), .val (.lst false (OD ow)), .val (nI (ch es ow v pre.length)), t, .un, .un]) (List.range n) ⟨_, bE, rfl⟩ ?_) ?_
 ·rintro pre i post ρ e ⟨t, ht, rfl⟩
  have hoA := wB (o := false) (b := false) (c := false) (show ch es ow v pre.length < ow.length by rw [hl]; exact lt _)
  cases hq : og ow (ch es ow v pre.length) with
  | none => exact absurd hq (hne _)
  | some d =>
   rw [hq] at hoA
   have e2 : ch es ow v (pre.length + 1) = (ed es d).b := by show nx _ _ _ = _; rw [gN hq]
   simp -implicitDefEqProofs [ht, nI, hoA, oD, fL (ho _ d hq), e2]
 ·rintro ρ ⟨t, ht, rfl⟩
  rw [List.length_range]
  generalize eu : ch es ow v n = u at *
  have un : ∀ i, og ow (ch es ow u i) ≠ none := fun i => by rw [← eu, ← lY]; exact hne _
  have ult : ∀ i, ch es ow u i < n := fun i => by rw [← eu, ← lY]; exact lt _
  obtain ⟨p, hp1, hp2, hp3⟩ := hp
  rw [lY, eu] at hp3
  have hoA : ∀ i, ∃ d, d < es.length ∧ og ow (ch es ow u i) = some d ∧ kIx (.lst false (OD ow), false) (.int ((ch es ow u i : Nat) : Int), false) = .ok (nI d, false) := fun i => by
   have := wB (o := false) (b := false) (c := false) (show ch es ow u i < ow.length by rw [hl]; exact ult i)
   cases hq : og ow (ch es ow u i) with
   | none => exact absurd hq (un i)
   | some d => rw [hq] at this; exact ⟨d, ho _ d hq, rfl, this⟩
  obtain ⟨d0, hd0, hq0, hx0⟩ := hoA 0
  have hx0 : kIx (.lst false (OD ow), false) (.int ((u : Nat) : Int), false) = .ok (nI d0, false) := hx0
  simp -implicitDefEqProofs [ht, nI, hx0, fL hd0]
  show out ((cF hG kK fuel _).andThen _) _ _
  refine bR (P' := fun ρ => ∃ k a b, 1 ≤ k ∧ k ≤ p ∧ ch es ow u k = u ∧ ρ = [.val (dM n kd es), .val (.lst false (OD ow)), a, b, .val (.lst true (NN (dl es ow u k))), .val (nI (ch es ow u k))])
   (fN (fun m ρ => ∃ k, 1 ≤ k ∧ k ≤ p ∧ m = p - k ∧ ρ = [.val (dM n kd es), .val (.lst false (OD ow)), .val (nI u), t, .val (.lst true (NN (dl es ow u k))), .val (nI (ch es ow u k))]) ?_ 1000 (p - 1) _ ⟨1, by omega, hp1, rfl, ?_⟩ (by omega)) ?_
  ·rintro m ρ ⟨k, hk1, hk2, hm, rfl⟩
   by_cases hc : ch es ow u k = u
   ·exact .inl ⟨by simp [hG, nI, hc], k, _, _, hk1, hk2, hc, rfl⟩
   ·have hc' : ¬ ((ch es ow u k : Nat) : Int) = (u : Int) := by omega
    have hkp : k < p := by
     rcases Nat.lt_or_ge k p with q | q
     ·exact q
     ·have : k = p := by omega
      subst this; exact absurd hp3 hc
    obtain ⟨d, hd, hq, hx⟩ := hoA k
    have hll : (dl es ow u k).length < 1000000 := by simp [dl]; omega
    refine .inr ⟨by simp [hG, nI, hc'], p - (k + 1), by omega, ?_⟩
    simp -implicitDefEqProofs [kK, nI, hx, hll, fL hd]
    refine ⟨k + 1, by omega, by omega, rfl, ?_, ?_⟩
    ·rw [nL, hq]; rfl
    ·show _ = ((nx es ow (ch es ow u k) : Nat) : Int); rw [gN hq]
  ·have hq0' : og ow u = some d0 := hq0
   simp [dl, hq0', ch, gN hq0', NN, nI]
  ·rintro ρ ⟨k, a, b, hk1, hk2, hc, rfl⟩
   simp
   exact ⟨k, hk1, by omega, rfl, hc⟩
end VL.QQ
end
section
namespace VL.QQ
open VL PySem L2 PY
@[simp] theorem aPx {c d : D} {ρ : Env} : putD (.pin c :: ρ) 0 d = .pin d :: ρ := rfl
end VL.QQ
end
section
namespace VL.QQ
open VL PySem L2 PY
theorem aEi {α : Type} {bV : Env} {c : bZ} {e : aQ} {φ χ ψ : α → D} {b g : α → Bool} : ∀ (xs : List α) (t u : Slot), np t → np u → (∀ x ∈ xs, (φ x).calm = true ∧ (χ x).calm = true ∧ c (.val (φ x) :: .val (χ x) :: bV) = .ok (g x) ∧ e (.val (φ x) :: .val (χ x) :: bV) = .ok (ψ x, b x) ∧ aL (ψ x, b x) = true) →
  fX (dE [0, 1]) c e (xs.map fun x => .tup [φ x, χ x]) (t :: u :: bV) = .ok ((xs.filter g).map ψ)
 | [], _, _, _, _, _ => rfl
 | x :: xs, t, u, ht, hu, h => by
  obtain ⟨c1, c2, h0, h1, h2⟩ := h x List.mem_cons_self
  have ih := aEi xs (.val (φ x)) (.val (χ x)) aS aS fun y hy => h y (List.mem_cons_of_mem _ hy)
  have hb : dE [0, 1] (.tup [φ x, χ x]) (t :: u :: bV) = some (.val (φ x) :: .val (χ x) :: bV) := by
   simp [c1, c2, ht, hu]
  show (match dE [0, 1] (.tup [φ x, χ x]) (t :: u :: bV) with | none => R.bad | some ρ1 => _) = _
  rw [hb]
  show (c (.val (φ x) :: .val (χ x) :: bV)).bind _ = _
  rw [h0, cN]
  by_cases hg : g x = true
  ·rw [if_pos hg]
   show (e (.val (φ x) :: .val (χ x) :: bV)).bind _ = _
   rw [h1, cN, if_pos h2]
   show (fX (dE [0, 1]) c e (xs.map fun x => .tup [φ x, χ x]) (.val (φ x) :: .val (χ x) :: bV)).bind _ = _
   rw [ih, List.filter_cons_of_pos hg]; rfl
  ·rw [if_neg hg, List.filter_cons_of_neg hg]; exact ih
theorem aHo {α : Type} {it : iT} {js : T0} {c : bZ} {e : aQ} {ρ : Env} (bV : Env) (xs : List α) (φ χ ψ : α → D) (b g : α → Bool) (hi : it ρ = .ok (xs.map fun x => .tup [φ x, χ x])) (hl : xs.length ≤ 1000000) (hc : js.map (jJ ρ) = bV)
  (he : ∀ x ∈ xs, (φ x).calm = true ∧ (χ x).calm = true ∧ c (.val (φ x) :: .val (χ x) :: bV) = .ok (g x) ∧ e (.val (φ x) :: .val (χ x) :: bV) = .ok (ψ x, b x) ∧ aL (ψ x, b x) = true) (hk : ∀ x, isScal (ψ x) = true) : cB it 2 js (dE [0, 1]) c e ρ = .ok (.lst true ((xs.filter g).map ψ), true) := by
 unfold cB
 rw [hi, cN, if_pos (by simpa using hl), hc]
 show (fX (dE [0, 1]) c e (xs.map fun x => .tup [φ x, χ x]) (.un :: .un :: bV)).bind _ = _
 rw [aEi xs .un .un bE bE he, cN, if_pos]
 rw [Bool.or_eq_true]; right; rw [List.all_eq_true]
 intro d hd
 obtain ⟨x, hx, rfl⟩ := List.mem_map.mp hd
 exact hk x
theorem uA {n : Nat} {d : D} : ((List.range n).map fun _ => d) = List.replicate n d := List.eq_replicate_iff.mpr ⟨by simp, by simp⟩
def fS : bZ := (jH (aV (v2 (kJ true) (aB 6) (vC .non))) (aV (v2 kLt (aB 7) (v2 kIx (aB 0) (vC (.int 0))))))
def iN : aU := (aN (aY 6 (lU fH [0, 1, 3, 4, 5])) (uT 7 (fun i j => i + j) (vC (.int 1))))
structure MG (n : Nat) (es : List E) (gs : Y0) (most : Y0) (ow : Y4) (raised : Option Nat) (num : T0) (L rk : Nat → Nat) (cnt r : Nat) : Prop where
 nm : ∀ k, k ∈ num ↔ k < es.length ∧ Reach es (ed es k).a
 bf : BF es gs num n r most ow L rk cnt
 ct : cnt ≤ 20 * 18
 no : raised = none → ∀ d ∈ num, Rel es gs most d
 so : ∀ v, raised = some v → v < n ∧ r = n ∧ L v = n
end VL.QQ
end
section
namespace VL.QQ
open VL PySem L2 PY
def Sm (B : Int) (xs : Y0) : Prop := ∀ x ∈ xs, -B ≤ x ∧ x ≤ B
theorem aDm {B : Int} (hB : 0 ≤ B) : ∀ xs : Y0, Sm B xs → -(B * xs.length) ≤ xs.sum ∧ xs.sum ≤ B * xs.length
 | [], _ => by simp
 | x :: xs, h => by
  have h1 := h x List.mem_cons_self
  have h2 := aDm hB xs fun y hy => h y (List.mem_cons_of_mem _ hy)
  rw [List.sum_cons, List.length_cons]
  have : B * ((xs.length + 1 : Nat) : Int) = B * xs.length + B := by rw [show ((xs.length + 1 : Nat) : Int) = (xs.length : Int) + 1 by omega, Int.mul_add, Int.mul_one]
  rw [this]; omega
theorem aOu {B : Int} {xs : Y0} (hB : 0 ≤ B) (h : Sm B xs) (k : Nat) : -B ≤ gt xs k ∧ gt xs k ≤ B := by
 unfold gt
 rw [List.getD_eq_getElem?_getD]
 cases e : xs[k]? with
 | none => simp; omega
 | some x => exact h x (List.mem_of_getElem? e)
theorem nT {i : Int} (h1 : -(2 ^ 100) < i) (h2 : i < 2 ^ 100) : fits i = true := by
 unfold fits
 rw [Bool.and_eq_true, decide_eq_true_iff, decide_eq_true_iff]
 have e : (2 : Int) ^ 100 < 2 ^ 200 := by decide
 omega
theorem oH {gs : Y0} {row : T0} (hg : Sm 2000 gs) (hl : row.length ≤ 1000) : -2000000 ≤ (row.map (gt gs)).sum ∧ (row.map (gt gs)).sum ≤ 2000000 := by
 have := aDm (B := 2000) (by decide) (row.map (gt gs)) fun x hx => by
  obtain ⟨k, _, rfl⟩ := List.mem_map.mp hx
  exact aOu (by decide) hg k
 rw [List.length_map] at this
 omega
theorem aQ3 {xs : T0} {x : Nat} : atI (NN (x :: xs)) 0 = some (nI x) := uM
inductive Told (n : Nat) (es : List E) : D → Prop
 | row (way ring : T0) (many : Int) : (∀ x ∈ way, x < es.length) → (∀ x ∈ ring, x < es.length) → way.length ≤ 400 → ring.length ≤ 400 → Told n es (.tup [.str "row", .lst false (NN way), .lst false (NN ring), .int many])
 | purse (most : Y0) : most.length = n → Told n es (.tup [.str "purse", .lst false (I most)])
theorem aI6 {n kd : Nat} {es : List E} {ps : Y0} (h : OkM n kd es) (hp : prB kd ps = true) : Sm 2000 (ov es ps) := by
 intro x hx
 obtain ⟨e, he, rfl⟩ := List.mem_map.mp hx
 have h1 := h.c e he
 have h2 : 0 ≤ gt ps e.k ∧ gt ps e.k ≤ 1000 := by
  unfold prB at hp
  rw [Bool.and_eq_true, List.all_eq_true] at hp
  unfold gt
  rw [List.getD_eq_getElem?_getD]
  cases q : ps[e.k]? with
  | none => simp
  | some x =>
   have := hp.2 x (List.mem_of_getElem? q)
   rw [Bool.and_eq_true, decide_eq_true_eq, decide_eq_true_eq] at this
   exact this
 omega
end VL.QQ
end
section
namespace VL.QQ
open VL PySem L2 PY
open Classical in
noncomputable
def rB (es : List E) (p : Nat) : Bool := if Reach es p then true else false
theorem aDp {es : List E} {p : Nat} : rB es p = true ↔ Reach es p := by
 unfold rB
 by_cases h : Reach es p
 ·rw [if_pos h]; simp [h]
 ·rw [if_neg h]; simp [h]
theorem aNj {es : List E} {n p : Nat} {f : Nat → Bool} (hf : ∀ p, p < n → (f p = true ↔ Reach es p)) (hp : p < n) : f p = rB es p := by
 have h1 := hf p hp
 rw [← aDp] at h1
 cases e1 : f p <;> cases e2 : rB es p <;> simp [e1, e2] at h1 <;> rfl
def mn (xs : Y0) : Int := xs.min?.getD 0
theorem aJ0 {o b : Bool} {xs : Y0} (h : xs ≠ []) : aGf [(.lst o (I xs), b)] = .ok (.int (mn xs), true) := by
 show (match (bY (I xs)).bind List.min? with | some m => R.ok (D.int m, true) | none => .bad) = _
 rw [vA]
 show (match xs.min? with | some m => R.ok (D.int m, true) | none => .bad) = _
 unfold mn
 cases e : xs.min? with
 | none => rw [List.min?_eq_none_iff] at e; exact absurd e h
 | some m => rfl
def okD (ps purse : Y0) (e : E) : Bool := !decide (gt purse e.a + gt ps e.k < e.c + gt purse e.b)
noncomputable
def vW (n : Nat) (es : List E) (ps purse : Y0) : Bool := decide (purse.length = n) && (decide (gt purse 0 = 0) && (!decide (mn purse < 0) && es.all fun e => !(rB es e.a) || okD ps purse e))
theorem aNy {o : Bool} {xs : Y0} {b c : Bool} (h : 0 < xs.length) : kIx (.lst o (I xs), b) (.int 0, c) = .ok (.int (gt xs 0), b) := kP (k := 0) h
theorem aJj {n kd : Nat} {es : List E} {ps purse : Y0} (h : OkM n kd es) (hp : prB kd ps = true) (hl : ps.length ≤ 1000) : Ret vD [dM n kd es, .lst false (I ps), .lst false (I purse)] (.bl (vW n es ps purse)) := by
 refine pB ?_
 have hn1 := h.n1
 have hpl : ps.length = kd := by
  unfold prB at hp
  rw [Bool.and_eq_true, decide_eq_true_eq] at hp; exact hp.1
 by_cases h1 : purse.length = n
 ·have h1' : (purse.length : Int) = (n : Int) := by omega
  have x0 := aNy (o := false) (b := false) (c := true) (show 0 < purse.length by omega)
  have xm := aJ0 (o := false) (b := false) (xs := purse) (fun z => by rw [z] at h1; simp at h1; omega)
  by_cases h2 : gt purse 0 = 0
  ·by_cases h3 : mn purse < 0
   ·simp -implicitDefEqProofs [qB, entry, bM ((cH h hl).1 hp), nI, h1', x0, xm, h2, h3, vW, h1]
   ·obtain ⟨d, hd, f, rfl, hf⟩ := tN h
    simp -implicitDefEqProofs [qB, entry, bM ((cH h hl).1 hp), nI, h1', x0, xm, h2, h3, bM hd]
    have ePB : vW n es ps purse = es.all fun e => !(rB es e.a) || okD ps purse e := by simp [vW, h1, h2, h3]
    rw [ePB]
    refine bR (dI (fun pre ρ => ∃ t, np t ∧ (pre.all fun e => !(rB es e.a) || okD ps purse e) = true ∧ ρ = [.val (dM n kd es), .val (.lst false (I ps)), .val (.lst false (I purse)), .val (.lst true (BB n f)), t]) es ⟨_, bE, rfl, rfl⟩ ?_) ?_
    ·rintro pre e post ρ ee ⟨t, ht, ha, rfl⟩
     have he : e ∈ es := by rw [ee]; simp
     have y0 := aIf (o := true) (f := f) (b := false) (c := false) (h.a e he)
     have y1 := kP (o := false) (xs := purse) (b := false) (c := false) (show e.a < purse.length by rw [h1]; exact h.a e he)
     have y2 := kP (o := false) (xs := purse) (b := false) (c := false) (show e.b < purse.length by rw [h1]; exact h.b e he)
     have y3 := kP (o := false) (xs := ps) (b := false) (c := false) (show e.k < ps.length by rw [hpl]; exact h.k e he)
     rw [aNj hf (h.a e he)] at y0
     cases q1 : rB es e.a with
     | false =>
      rw [q1] at y0
      simp -implicitDefEqProofs [ht, nI, y0, dF, fZ, q1]
      simpa using ha
     | true =>
      rw [q1] at y0
      by_cases q2 : gt purse e.a + gt ps e.k < e.c + gt purse e.b
      ·simp -implicitDefEqProofs [ht, nI, y0, y1, y2, y3, dF, fZ, q1, q2]
       exact ⟨e, he, q1, by simp [okD, q2]⟩
      ·simp -implicitDefEqProofs [ht, nI, y0, y1, y2, y3, dF, fZ, q1, q2]
       exact ⟨by simpa using ha, by simp [okD, q2]⟩
    ·rintro ρ ⟨t, ht, ha, rfl⟩
     simp [ha]
  ·simp -implicitDefEqProofs [qB, entry, bM ((cH h hl).1 hp), nI, h1', x0, h2, vW, h1]
 ·have h1' : ¬ (purse.length : Int) = (n : Int) := by omega
  simp -implicitDefEqProofs [qB, entry, bM ((cH h hl).1 hp), nI, h1', vW, h1]
def gn (es : List E) (ps : Y0) (row : T0) : Int := (row.map (gt (ov es ps))).sum
def brB (es : List E) (ps : Y0) (way ring : T0) (many : Int) (pl : T0) : Bool := decide (0 ≤ many) && (decide (nt pl way.length = nt pl (way.length + ring.length)) && decide (0 < gn es ps way + many * gn es ps ring))
theorem aGj {pl : T0} {m : Nat} (h : pl.length = m + 1) : pl.getLast? = some (nt pl m) := by
 rw [List.getLast?_eq_getElem?, h]; exact tK (by omega)
theorem aC4 {n kd : Nat} {es : List E} {ps : Y0} {way ring pl : T0} {many : Int} (h : OkM n kd es) (hp : prB kd ps = true) (hl : ps.length ≤ 1000) (hw : ∀ x ∈ way, x < es.length) (hr : ∀ x ∈ ring, x < es.length) (hwl : way.length ≤ 400) (hrl : ring.length ≤ 400) (f2 : fits many = true)
  (hg : goP es (way ++ ring) = some pl) : Ret nA [dM n kd es, .lst false (I ps), .lst false (NN way), .lst false (NN ring), .int many] (.bl (brB es ps way ring many pl)) := by
 refine pB ?_
 have hpl : ps.length = kd := by
  unfold prB at hp
  rw [Bool.and_eq_true, decide_eq_true_eq] at hp; exact hp.1
 have hol : (ov es ps).length = es.length := by simp [ov]
 have hlen := aA7 _ hg
 rw [List.length_append] at hlen
 have g0 := aJg h (row := way ++ ring) (fun x hx => (List.mem_append.mp hx).elim (hw x) (hr x)) (by rw [List.length_append]; omega) hg
 have y1 := aA6 (o := true) (xs := pl) (b := false) (c := true) (show way.length < pl.length by omega)
 have y2 := pI (o := true) (b := false) (c := true) (aGj hlen)
 have s1 := oH (row := ring) (aI6 h hp) (by omega)
 have f1 : fits ((ring.map (gt (ov es ps))).sum) = true := nT (by omega) (by omega)
 have hsz : way.length + ring.length ≤ 1000000 := by omega
 by_cases h1 : many < 0
 ·have h1' : ¬ 0 ≤ many := by omega
  simp -implicitDefEqProofs [nS, entry, bM ((cH h hl).1 hp), aAc, hsz, bM g0, h1, brB, h1']
 ·have h1' : 0 ≤ many := by omega
  by_cases h2 : nt pl way.length = nt pl (way.length + ring.length)
  ·simp -implicitDefEqProofs [nS, entry, bM ((cH h hl).1 hp), aAc, hsz, bM g0, h1, brB, h1', y1, y2, nI, h2, aZ (gE h hpl), iL (kZ (gs := ov es ps) (row := way) (by rw [hol]; exact hw) (by omega)) rfl, iL (kZ (gs := ov es ps) (row := ring) (by rw [hol]; exact hr) (by omega)) rfl, f1, f2, gn]
   rfl
  ·have h2' : ¬ ((nt pl way.length : Nat) : Int) = ((nt pl (way.length + ring.length) : Nat) : Int) := by omega
   simp -implicitDefEqProofs [nS, entry, bM ((cH h hl).1 hp), aAc, hsz, bM g0, h1, brB, h1', y1, y2, nI, h2, h2']
end VL.QQ
end
section
namespace VL.QQ
open VL PySem L2 PY K10
def aAy (ns : Y0) (k : Nat) : Int := if ns = [] then 0 else gt ns (k % ns.length)
theorem aQj {xs : Y0} : (I xs).isEmpty = decide (xs = []) := by cases xs <;> simp [I]
theorem aOb {xs : Y0} {k : Nat} (h : k < xs.length) : atI (I xs) (k : Int) = some (.int (gt xs k)) := by
 rw [eD, aJd h]
theorem aMb {ns : Y0} {k : Nat} : Ret qW [.lst false (I ns), .int k] (.int (aAy ns k)) := by
 refine pB ?_
 by_cases h : ns = []
 ·subst h
  simp -implicitDefEqProofs [qG, entry, dF, fZ, aAy]
 ·have hl : 0 < ns.length := List.length_pos_iff.mpr h
  have e : ((k : Int) % (ns.length : Nat)) = ((k % ns.length : Nat) : Int) := by simp
  simp -implicitDefEqProofs [qG, entry, dF, fZ, aAy, aQj, h, hl, -Int.natCast_emod]
  rw [e, aOb (Nat.mod_lt _ hl)]
  simp -implicitDefEqProofs
def yP (ns : Y0) (k : Nat) : Int := (aAy ns k + 104729 * ((k : Int) + 1)) % 4294967291
def yU (ns : Y0) (k : Nat) : Int := yP ns k * 48271 % 4294967279
def gW (ns : Y0) (k : Nat) : Int := (yU ns k / 64 * 69621 + yU ns k) % 4294967231
theorem bQ {x : Int} (h : -1000000000000 ≤ x) (h2 : x ≤ 1000000000000) : fits x = true := nT (by omega) (by omega)
theorem pR {ns : Y0} {k : Nat} (hk : k ≤ 1000000) : Ret cU [.lst false (I ns), .int k] (.int (gW ns k)) := by
 refine pB ?_
 have h1 : 0 ≤ yP ns k := Int.emod_nonneg _ (by decide)
 have h1' : yP ns k < 4294967291 := Int.emod_lt_of_pos _ (by decide)
 have h2 : 0 ≤ yU ns k := Int.emod_nonneg _ (by decide)
 have h2' : yU ns k < 4294967279 := Int.emod_lt_of_pos _ (by decide)
 have f0 : fits 104729 = true := bQ (by decide) (by decide)
 have f1 : fits ((k : Int) + 1) = true := bQ (by omega) (by omega)
 have f2 : fits 48271 = true := bQ (by decide) (by decide)
 have f3 : fits 69621 = true := bQ (by decide) (by decide)
 have f4 : fits 64 = true := bQ (by decide) (by decide)
 have f5 : fits (yP ns k) = true := bQ (by omega) (by omega)
 have f6 : fits (yU ns k / 64) = true := bQ (by omega) (by omega)
 unfold yP at f5
 unfold yU yP at f6
 simp -implicitDefEqProofs [aAf, entry, aZ (aMb (ns := ns) (k := k)), f0, f1, f2, f3, f4, f5, f6, gW, yU, yP]
theorem aMc (e : E) : bY [nI e.a, nI e.k, nI e.b, .int e.c] = some e.l := rfl
theorem aAu : ∀ es : List E, kH (ME es) = some (es.map E.l)
 | [] => rfl
 | e :: es => by
  show (match bY [nI e.a, nI e.k, nI e.b, .int e.c], kH (ME es) with | some k, some ks => some (k :: ks) | _, _ => none) = _
  rw [aMc, aAu es]; rfl
def ofL : Y0 → E
 | [a, k, b, c] => ⟨a.toNat, k.toNat, b.toNat, c⟩
 | _ => default
theorem aF4 (e : E) : ofL e.l = e := by
 show (⟨(e.a : Int).toNat, (e.k : Int).toNat, (e.b : Int).toNat, e.c⟩ : E) = e
 simp
theorem xD (k : Y0) : ∀ xs : LI, (pF k xs).length ≤ xs.length + 1
 | [] => Nat.le_refl _
 | x :: xs => by
  unfold pF
  by_cases h1 : ST.ltL k x = true
  ·rw [if_pos h1]; simp
  ·rw [if_neg h1]
   by_cases h2 : k = x
   ·rw [if_pos h2]; simp
   ·rw [if_neg h2]; simp; exact xD k xs
theorem tX : ∀ ks : LI, (iA ks).length ≤ ks.length
 | [] => Nat.le_refl _
 | k :: ks => by
  have h1 := xD k (iA ks)
  have h2 := tX ks
  show (pF k (iA ks)).length ≤ ks.length + 1
  omega
theorem aNf (es : List E) : ∃ es' : List E, (iA (es.map E.l)).map TI = ME es' ∧ (∀ e ∈ es', e ∈ es) ∧ es'.length ≤ es.length ∧ es'.Pairwise fun x y => ST.ltL x.l y.l = true := by
 have hm : ∀ k ∈ iA (es.map E.l), ∃ e ∈ es, e.l = k := fun k hk => by
  obtain ⟨e, he, rfl⟩ := List.mem_map.mp (oP.mp hk)
  exact ⟨e, he, rfl⟩
 refine ⟨(iA (es.map E.l)).map ofL, ?_, fun e he => ?_, ?_, ?_⟩
 ·unfold ME
  rw [List.map_map]
  refine List.map_congr_left fun k hk => ?_
  obtain ⟨e, _, rfl⟩ := hm k hk
  show TI e.l = (ofL e.l).d
  rw [aF4]; rfl
 ·obtain ⟨k, hk, rfl⟩ := List.mem_map.mp he
  obtain ⟨e, he', rfl⟩ := hm k hk
  rw [aF4]; exact he'
 ·rw [List.length_map]; have := tX (es.map E.l); simpa using this
 ·refine List.pairwise_map.mpr (List.Pairwise.imp_of_mem (fun {a b} ha hb h => ?_) (pU (es.map E.l)))
  obtain ⟨e, _, rfl⟩ := hm a ha
  obtain ⟨e', _, rfl⟩ := hm b hb
  rw [aF4, aF4]; exact h
theorem aJz {es : List E} {o b : Bool} (h : es.length ≤ 18) : kSS [(.lst o (ME es), b)] = .ok (.lst true ((iA (es.map E.l)).map TI), true) := by
 show (match kH (ME es) with | some ks => (if (decide (ks.length ≤ 18) && ks.all (fun k => !k.isEmpty)) = true then R.ok (D.lst true ((iA ks).map TI), true) else .bad) | none => .bad) = _
 rw [aAu]
 dsimp only
 rw [if_pos]
 simp [h]
 intro e _; simp [E.l]
theorem aM4 {v : Int} : ∃ x, atI [D.int 0, D.int 1, D.int 2, D.int 3, D.int 5, D.int 9, D.int 1, D.int 0] (v % 8) = some (.int x) ∧ 0 ≤ x ∧ x ≤ 1000 := by
 obtain ⟨k, hk, e⟩ : ∃ k : Nat, k < 8 ∧ v % 8 = (k : Int) := ⟨(v % 8).toNat, by omega, by omega⟩
 rw [e, eD]
 match k, hk with
 | 0, _ => exact ⟨_, rfl, by decide, by decide⟩
 | 1, _ => exact ⟨_, rfl, by decide, by decide⟩
 | 2, _ => exact ⟨_, rfl, by decide, by decide⟩
 | 3, _ => exact ⟨_, rfl, by decide, by decide⟩
 | 4, _ => exact ⟨_, rfl, by decide, by decide⟩
 | 5, _ => exact ⟨_, rfl, by decide, by decide⟩
 | 6, _ => exact ⟨_, rfl, by decide, by decide⟩
 | 7, _ => exact ⟨_, rfl, by decide, by decide⟩
theorem aB2 {v : Int} {m : Nat} (hm : 0 < m) : ∃ k : Nat, k < m ∧ v % (m : Int) = (k : Int) := by
 have h1 := Int.emod_nonneg v (show (m : Int) ≠ 0 by omega)
 have h2 := Int.emod_lt_of_pos v (show (0 : Int) < (m : Int) by omega)
 exact ⟨(v % (m : Int)).toNat, by omega, by omega⟩
@[simp] theorem aPa (es : List E) (e : E) : ME es ++ [e.d] = ME (es ++ [e]) := by simp [ME]
theorem aBu {ns : Y0} : nY iK [.lst false (I ns), .int 0, .int 7] (fun d => ∃ n kd es, d = dM n kd es ∧ OkM n kd es ∧ kd ≤ 3) := by
 refine eP ?_
 have m0 : Ret cU [.lst false (I ns), .int 0] (.int (gW ns 0)) := pR (k := 0) (by omega)
 have m1 : Ret cU [.lst false (I ns), .int 1] (.int (gW ns 1)) := pR (k := 1) (by omega)
 have m2 : Ret cU [.lst false (I ns), .int 2] (.int (gW ns 2)) := pR (k := 2) (by omega)
 obtain ⟨n, hn1, hn7, hn'⟩ : ∃ n : Nat, 1 ≤ n ∧ n ≤ 7 ∧ 1 + gW ns 0 % 7 = (n : Int) := ⟨(1 + gW ns 0 % 7).toNat, by omega, by omega, by omega⟩
 obtain ⟨kd, hk1, hk3, hk'⟩ : ∃ n : Nat, 1 ≤ n ∧ n ≤ 3 ∧ 1 + gW ns 1 % 3 = (n : Int) := ⟨(1 + gW ns 1 % 3).toNat, by omega, by omega, by omega⟩
 obtain ⟨c, hc15, hc⟩ := aB2 (v := gW ns 2) (m := 15) (by omega)
 have hc' : gW ns 2 % 15 = ((c : Nat) : Int) := hc
 have f1 : fits 2 = true := bQ (by decide) (by decide)
 have f2 : fits 7 = true := bQ (by decide) (by decide)
 simp -implicitDefEqProofs [oV, entry, aZ m0, aZ m1, aZ m2, hn', hk', hc', f1, f2, eO (show c ≤ 1000000 by omega)]
 refine bR (dI (fun pre ρ => ∃ es t u w, np t ∧ np u ∧ np w ∧ es.length = pre.length ∧ (∀ e ∈ es, e.a < n ∧ e.k < kd ∧ e.b < n ∧ 0 ≤ e.c ∧ e.c ≤ 1000) ∧ ρ = [.val (.lst false (I ns)), .val (.int 0), .val (.int 7), .val (nI n), .val (nI kd), .val (.lst true (ME es)), t, u, w]) (List.range c) ⟨[], _, _, _, bE, bE, bE, rfl, by simp, rfl⟩ ?_) ?_
 ·rintro pre j post ρ e ⟨es, t, u, w, ht, hu, hw, hlen, hes, rfl⟩
  have hj : j < c := List.mem_range.mp (by rw [e]; simp)
  have hpl : pre.length ≤ c := by have := congrArg List.length e; simp at this; omega
  have mj : Ret cU [.lst false (I ns), .int (3 + (j : Int))] (.int (gW ns (3 + j))) := by
   have := pR (ns := ns) (k := 3 + j) (by omega)
   rwa [show ((3 + j : Nat) : Int) = 3 + (j : Int) by omega] at this
  generalize gW ns (3 + j) = v at mj
  obtain ⟨x, hx, hx1, hx2⟩ := aM4 (v := v / 4096)
  obtain ⟨a, ha1, ha2⟩ := aB2 (v := v) (m := n) (by omega)
  obtain ⟨k, hk1, hk2⟩ := aB2 (v := v / 16) (m := kd) (by omega)
  obtain ⟨b, hb1, hb2⟩ := aB2 (v := v / 64) (m := n) (by omega)
  have f3 : fits 4096 = true := bQ (by decide) (by decide)
  have f4 : fits 16 = true := bQ (by decide) (by decide)
  have f5 : fits 64 = true := bQ (by decide) (by decide)
  have hn0 : 0 < n := by omega
  have hk0 : 0 < kd := by omega
  have hl' : es.length < 1000000 := by omega
  simp -implicitDefEqProofs [ht, hu, hw, nI, aZ mj, hx, f3, f4, f5, hn0, hk0, ha2, hk2, hb2, hl']
  refine ⟨es ++ [⟨a, k, b, x⟩], _, aS, _, aS, _, aS, by simp [hlen], fun e he => ?_, ?_, rfl, rfl, rfl⟩
  ·rcases List.mem_append.mp he with q | q
   ·exact hes e q
   ·simp at q; rw [q]; exact ⟨ha1, hk1, hb1, hx1, hx2⟩
  ·simp [ME, E.d]
 ·rintro ρ ⟨es, t, u, w, ht, hu, hw, hlen, hes, rfl⟩
  obtain ⟨es', q1, q2, q3, q4⟩ := aNf es
  have hl : es.length ≤ 18 := by rw [hlen]; simp; omega
  simp -implicitDefEqProofs [aJz hl, q1]
  exact ⟨n, kd, es', rfl, ⟨hn1, by omega, hk1, by omega, by omega, fun e he => (hes e (q2 e he)).1, fun e he => (hes e (q2 e he)).2.1, fun e he => (hes e (q2 e he)).2.2.1, fun e he => (hes e (q2 e he)).2.2.2, q4⟩, hk3⟩
end VL.QQ
end
section
namespace VL.QQ
open VL PySem L2 PY K10
theorem sQ : ∀ xs : T0, D.kY (NN xs) = true
 | [] => rfl
 | x :: xs => by show (true && D.kY (NN xs)) = true; rw [sQ xs]; rfl
theorem aEu : ∀ xs : T0, PyData.canLayAll0 (D.pys (NN xs)) = true
 | [] => rfl
 | x :: xs => by show (true && PyData.canLayAll0 (D.pys (NN xs))) = true; rw [aEu xs]; rfl
theorem aE6 (x : Nat) : ∀ xs : T0, ((D.pys (NN xs)).any fun y => PyData.eqv y (.int (x : Int))) = decide (x ∈ xs)
 | [] => rfl
 | y :: xs => by
  show (((y : Int) == (x : Int)) || (D.pys (NN xs)).any fun y => PyData.eqv y (.int (x : Int))) = _
  rw [aE6 x xs]
  by_cases h : x = y
  ·subst h; simp
  ·have : ¬ (y : Int) = (x : Int) := by omega
   simp [h, this]
theorem aA0 {neg o b c : Bool} {x : Nat} {xs : T0} : kIn neg (.int (x : Int), b) (.lst o (NN xs), c) = .ok (.bl (if neg then !decide (x ∈ xs) else decide (x ∈ xs)), true) := by
 have e1 : oQ (.int (x : Int)) (NN xs) = true := by
  unfold oQ
  rw [sQ, aEu]
  have : (D.int (x : Int)).py.depth = 0 := rfl
  rw [this, Nat.min_zero]; rfl
 have e2 : inD (.int (x : Int)) (NN xs) = decide (x ∈ xs) := aE6 x xs
 show (if oQ (.int (x : Int)) (NN xs) = true then R.ok (D.bl (if neg then !inD (.int (x : Int)) (NN xs) else inD (.int (x : Int)) (NN xs)), true) else .bad) = _
 rw [if_pos e1, e2]
@[simp] theorem aRm {is : T0} {e : E} {ρ : Env} : dE is e.d ρ = cQ is [.int (e.a : Int), .int (e.k : Int), .int (e.b : Int), .int e.c] ρ := rfl
structure LB (n : Nat) (es : List E) (pl : T0) : Prop where
 nd : pl.Nodup
 lt : ∀ p ∈ pl, p < n
 z : 0 ∈ pl
 so : ∀ p ∈ pl, Reach es p
theorem LB.add {n : Nat} {es : List E} {pl : T0} (h : LB n es pl) {e : E} (he : e ∈ es) (ha : e.a ∈ pl) (hb : e.b < n) (hn : e.b ∉ pl) : LB n es (pl ++ [e.b]) := by
 refine ⟨List.nodup_append.mpr ⟨h.nd, by simp, fun x hx y hy z => ?_⟩, fun p hp => ?_, List.mem_append_left _ h.z, fun p hp => ?_⟩
 ·simp at hy; subst hy; subst z; exact hn hx
 ·rcases List.mem_append.mp hp with q | q
  ·exact h.lt p q
  ·simp at q; rw [q]; exact hb
 ·rcases List.mem_append.mp hp with q | q
  ·exact h.so p q
  ·simp at q; rw [q]; exact .step he (h.so _ ha)
def jU : bZ := (aV (v2 kLt (aB 2) (vCB iD (aD (aB 1) aM))))
def nG : aU := (aN (fI (kA (v2 kIx (aB 0) (vC (.int 2)))) (dE [3, 4, 5, 6]) (sIf (jH (aV (v2 (kEq false) (aB 3) (v2 kIx (aB 1) (aB 2)))) (aV (v2 (kIn true) (aB 5) (aB 1)))) (cG 1 (aB 5)) bI)) (aY 2 (xOf (v2 bU (aB 2) (vC (.int 1))))))
theorem vQ {n kd : Nat} {es : List E} (h : OkM n kd es) : nY iG [dM n kd es] (fun d => ∃ pl, d = .lst true (NN pl) ∧ ∀ p, (p ∈ pl ↔ Reach es p)) := by
 refine eP ?_
 have hn1 := h.n1
 have hn2 := h.n2
 simp -implicitDefEqProofs [oW, entry]
 show out ((cF jU nG fuel _).andThen _) _ _
 refine bR (P' := fun ρ => ∃ pl a t3 t4 t5 t6, LB n es pl ∧ (∀ e ∈ es, e.a ∈ pl → e.b ∈ pl) ∧ ρ = [.val (dM n kd es), .val (.lst true (NN pl)), a, t3, t4, t5, t6])
  (fN (fun m ρ => ∃ pl, ∃ a : Nat, ∃ t3 t4 t5 t6, np t3 ∧ np t4 ∧ np t5 ∧ np t6 ∧ LB n es pl ∧ (∀ e ∈ es, e.a ∈ pl.take a → e.b ∈ pl) ∧ a ≤ pl.length ∧ m = n - a ∧ ρ = [.val (dM n kd es), .val (.lst true (NN pl)), .val (nI a), t3, t4, t5, t6]) ?_ 1000 n _ ?_ (by omega)) ?_
 ·rintro m ρ ⟨pl, a, t3, t4, t5, t6, h3, h4, h5, h6, B, cl, hal, hm, rfl⟩
  have hle := oJ n pl B.nd B.lt
  by_cases hlt : a < pl.length
  ·refine .inr ⟨by simp [jU, nI, hlt], n - (a + 1), by omega, ?_⟩
   simp -implicitDefEqProofs [nG]
   refine bR (dI (fun pre ρ => ∃ pl' t3 t4 t5 t6, np t3 ∧ np t4 ∧ np t5 ∧ np t6 ∧ LB n es pl' ∧ (∀ e ∈ es, e.a ∈ pl'.take a → e.b ∈ pl') ∧ a < pl'.length ∧ nt pl' a = nt pl a ∧ (∀ e ∈ pre, e.a = nt pl a → e.b ∈ pl') ∧ ρ = [.val (dM n kd es), .val (.lst true (NN pl')), .val (nI a), t3, t4, t5, t6]) es ⟨pl, t3, t4, t5, t6, h3, h4, h5, h6, B, cl, hlt, rfl, by simp, rfl⟩ ?_) ?_
   ·rintro pre e post ρ ee ⟨pl', t3, t4, t5, t6, h3, h4, h5, h6, B, cl, hlt', hnt, hpre, rfl⟩
    have he : e ∈ es := by rw [ee]; simp
    have y1 := aA6 (o := true) (xs := pl') (b := false) (c := false) hlt'
    rw [hnt] at y1
    by_cases q1 : e.a = nt pl a
    ·have q1' : (e.a : Int) = ((nt pl a : Nat) : Int) := by omega
     by_cases q2 : e.b ∈ pl'
     ·simp -implicitDefEqProofs [h3, h4, h5, h6, nI, y1, q1', aA0, q2]
      refine ⟨pl', _, aS, _, aS, _, aS, _, aS, B, cl, hlt', hnt, fun e' he' hea => ?_, rfl, rfl, rfl, rfl, rfl⟩
      rcases he' with q | q
      ·exact hpre e' q hea
      ·rw [q]; exact q2
     ·have hpl : pl'.length < 1000000 := by have := oJ n pl' B.nd B.lt; omega
      have B' := B.add he (by rw [q1, ← hnt]; exact vK hlt') (h.b e he) q2
      simp -implicitDefEqProofs [h3, h4, h5, h6, nI, y1, q1', aA0, q2, hpl]
      refine ⟨pl' ++ [e.b], _, aS, _, aS, _, aS, _, aS, B', fun e' he' hea => ?_, by simp; omega, ?_, fun e' he' hea => ?_, rfl, rfl, rfl, rfl, rfl⟩
      ·rw [List.take_append_of_le_length (by omega)] at hea
       exact List.mem_append_left _ (cl e' he' hea)
      ·rw [← hnt]; unfold nt
       rw [List.getD_eq_getElem?_getD, List.getD_eq_getElem?_getD, List.getElem?_append_left hlt']
      ·rcases he' with q | q
       ·exact List.mem_append_left _ (hpre e' q hea)
       ·rw [q]; simp
    ·have q1' : ¬ (e.a : Int) = ((nt pl a : Nat) : Int) := by omega
     simp -implicitDefEqProofs [h3, h4, h5, h6, nI, y1, q1']
     refine ⟨pl', _, aS, _, aS, _, aS, _, aS, B, cl, hlt', hnt, fun e' he' hea => ?_, rfl, rfl, rfl, rfl, rfl⟩
     rcases he' with q | q
     ·exact hpre e' q hea
     ·rw [q] at hea; exact absurd hea q1
   ·rintro ρ ⟨pl', t3, t4, t5, t6, h3, h4, h5, h6, B, cl, hlt', hnt, hpre, rfl⟩
    simp -implicitDefEqProofs [nI]
    refine ⟨pl', a + 1, t3, h3, t4, h4, t5, h5, t6, h6, B, fun e he hea => ?_, by omega, rfl, rfl, by simp, rfl, rfl, rfl, rfl⟩
    rw [List.take_succ, List.mem_append] at hea
    rcases hea with hea | hea
    ·exact cl e he hea
    ·rw [tK hlt'] at hea
     simp at hea
     exact hpre e he (by rw [hea, hnt])
  ·refine .inl ⟨by simp [jU, nI]; omega, pl, _, t3, t4, t5, t6, B, ?_, rfl⟩
   have : a = pl.length := by omega
   subst this
   simpa using cl
 ·exact ⟨[0], 0, _, _, _, _, bE, bE, bE, bE, ⟨by simp, by simp; omega, by simp, by simp; exact .zero⟩, by simp, by simp, rfl, rfl⟩
 ·rintro ρ ⟨pl, a, t3, t4, t5, t6, B, cl, rfl⟩
  simp
  refine ⟨pl, rfl, fun p => ⟨B.so p, fun hr => ?_⟩⟩
  induction hr with
  | zero => exact B.z
  | step he _ ih => exact cl _ he ih
end VL.QQ
end
section
namespace VL.QQ
open VL PySem L2 PY K10
theorem aFn {α : Type} {bV : Env} {c : bZ} {e : aQ} {φ ψ : α → D} {b g : α → Bool} : ∀ (xs : List α) (t : Slot), np t → (∀ x ∈ xs, c (.val (φ x) :: bV) = .ok (g x) ∧ e (.val (φ x) :: bV) = .ok (ψ x, b x) ∧ aL (ψ x, b x) = true) →
  fX (bA 0) c e (xs.map φ) (t :: bV) = .ok ((xs.filter g).map ψ)
 | [], _, _, _ => rfl
 | x :: xs, t, ht, h => by
  obtain ⟨h0, h1, h2⟩ := h x List.mem_cons_self
  have ih := aFn xs (.val (φ x)) aS fun y hy => h y (List.mem_cons_of_mem _ hy)
  have hb : bA 0 (φ x) (t :: bV) = some (.val (φ x) :: bV) := by
   simp [ht]
  show (match bA 0 (φ x) (t :: bV) with | none => R.bad | some ρ1 => _) = _
  rw [hb]
  show (c (.val (φ x) :: bV)).bind _ = _
  rw [h0, cN]
  by_cases hg : g x = true
  ·rw [if_pos hg]
   show (e (.val (φ x) :: bV)).bind _ = _
   rw [h1, cN, if_pos h2]
   show (fX (bA 0) c e (xs.map φ) (.val (φ x) :: bV)).bind _ = _
   rw [ih, List.filter_cons_of_pos hg]; rfl
  ·rw [if_neg hg, List.filter_cons_of_neg hg]; exact ih
theorem aHp {α : Type} {it : iT} {js : T0} {c : bZ} {e : aQ} {ρ : Env} (bV : Env) (xs : List α) (φ ψ : α → D) (b g : α → Bool) (hi : it ρ = .ok (xs.map φ)) (hl : xs.length ≤ 1000000) (hc : js.map (jJ ρ) = bV)
  (he : ∀ x ∈ xs, c (.val (φ x) :: bV) = .ok (g x) ∧ e (.val (φ x) :: bV) = .ok (ψ x, b x) ∧ aL (ψ x, b x) = true) (hk : ∀ x, isScal (ψ x) = true) : cB it 1 js (bA 0) c e ρ = .ok (.lst true ((xs.filter g).map ψ), true) := by
 unfold cB
 rw [hi, cN, if_pos (by simpa using hl), hc]
 show (fX (bA 0) c e (xs.map φ) (.un :: bV)).bind _ = _
 rw [aFn xs .un bE he, cN, if_pos]
 rw [Bool.or_eq_true]; right; rw [List.all_eq_true]
 intro d hd
 obtain ⟨x, hx, rfl⟩ := List.mem_map.mp hd
 exact hk x
theorem aIa {xs : T0} : (NN xs).isEmpty = decide (xs = []) := by cases xs <;> simp [NN]
end VL.QQ
end
section
namespace VL.QQ
open VL PySem L2 PY K10
theorem aHn {es : List E} {ps : Y0} {row : T0} {x : Nat} : gn es ps (row ++ [x]) = gn es ps row + gt (ov es ps) x := by
 unfold gn; rw [List.map_append, List.sum_append]; simp
end VL.QQ
end
section
namespace VL.QQ
open VL PySem L2 PY K10
@[simp] theorem aOs {t : Tg} : (D.ext false t).calm = true := rfl
@[simp] theorem aP4 {t : Tg} : (D.ext false t).frz = .ext false t := rfl
end VL.QQ
end
section
namespace VL.QQ
open VL PySem L2 PY K10
end VL.QQ
end
section
namespace VL.QQ
open VL PySem L2 PY K10
abbrev SS (ns : Y0) : Slot := .val (.lst false (I ns))
@[simp] theorem aPd {o b : Bool} {ds : List D} : tH [(.lst o ds, b)] = if D.bK ds then .ok (.lst true ds, true) else .bad := rfl
theorem eq_str {n : Bool} {x y : Str} {b c : Bool} (hx : (PyData.str x).canLay0 = true) (hy : (PyData.str y).canLay0 = true) : kEq n (.str x, b) (.str y, c) = .ok (.bl (if n then !(x == y) else (x == y)), true) := by
 unfold kEq
 have : zE (.str x) (.str y) = true := by
  show (true && true && ((PyData.str x).canLay0 && (PyData.str y).canLay0 && decide (min (PyData.str x).depth (PyData.str y).depth ≤ 100))) = true
  rw [hx, hy]; rfl
 rw [if_pos this]; rfl
theorem s_row : (PyData.str "row").canLay0 = true := by decide +kernel
theorem aHy : (PyData.str "purse").canLay0 = true := by decide +kernel
theorem aNv {b c : Bool} : kEq false (.str "row", b) (.str "row", c) = .ok (.bl true, true) := by rw [eq_str s_row s_row]; rfl
theorem aN6 {b c : Bool} : kEq false (.str "purse", b) (.str "row", c) = .ok (.bl false, true) := by rw [eq_str aHy s_row]; rfl
end VL.QQ
end
section
namespace VL.QQ
open VL PySem L2 PY
structure BF2 (es : List E) (gs : Y0) (num : T0) (n r : Nat) (most : Y0) (ow : Y4) (L rk : Nat → Nat) (cnt : Nat) : Prop extends BF es gs num n r most ow L rk cnt where
 nn : ∀ v, 0 ≤ gt most v
 zz : ∀ v, og ow v = none → gt most v = 0
section
variable {es : List E} {gs : Y0} {num : T0} {n r : Nat} {most : Y0} {ow : Y4} {L rk : Nat → Nat} {cnt : Nat}
theorem BF2.raise (h : BF2 es gs num n r most ow L rk cnt) {d : Nat} (hd : d ∈ num) (ha : (ed es d).a < n) (hv : gt most (ed es d).a < gt gs d + gt most (ed es d).b) (hl : r ≤ L (ed es d).b + 1) :
  ∃ L' rk', BF2 es gs num n r (most.set (ed es d).a (gt gs d + gt most (ed es d).b)) (ow.set (ed es d).a (some d)) L' rk' (cnt + 1) ∧ L' (ed es d).a = r ∧
   (Rel es gs (most.set (ed es d).a (gt gs d + gt most (ed es d).b)) d ∨ r ≤ L' (ed es d).b) ∧
   ∀ (d' m : Nat), m ≤ r → (Rel es gs most d' ∨ m ≤ L (ed es d').b) → (Rel es gs (most.set (ed es d).a (gt gs d + gt most (ed es d).b)) d' ∨ m ≤ L' (ed es d').b) := by
 obtain ⟨L', rk', B, r1, r2, r3⟩ := h.toBF.raise hd ha hv hl
 have h1 := h.nn (ed es d).a
 refine ⟨L', rk', ⟨B, fun v => ?_, fun v e => ?_⟩, r1, r2, r3⟩
 ·rw [yZ (by rw [h.lm]; exact ha)]
  have := h.nn v
  split <;> omega
 ·rw [yN (by rw [h.lo]; exact ha)] at e
  rw [yZ (by rw [h.lm]; exact ha)]
  by_cases q : v = (ed es d).a
  ·rw [if_pos q] at e; cases e
  ·rw [if_neg q] at e ⊢; exact h.zz v e
theorem aDh {v : Nat} : gt (List.replicate n 0) v = 0 := by
 unfold gt
 rw [List.getD_eq_getElem?_getD, List.getElem?_replicate]
 by_cases h : v < n
 ·rw [if_pos h]; rfl
 ·rw [if_neg h]; rfl
theorem BF2.init {m : Nat} : BF2 es gs num n 0 (List.replicate n 0) (List.replicate n none) (fun _ => 0) (fun _ => 0) m :=
 ⟨BF.init, fun v => by rw [aDh]; exact Int.le_refl _, fun v _ => aDh⟩
theorem BF2.up {r' : Nat} (h : BF2 es gs num n r most ow L rk cnt) (hr : r ≤ r') : BF2 es gs num n r' most ow L rk cnt := ⟨h.toBF.up hr, h.nn, h.zz⟩
end
def Lk (es : List E) : Nat → T0 → Nat → Prop
 | u, [], v => u = v
 | u, d :: ds, v => d < es.length ∧ (ed es d).a = u ∧ Lk es (ed es d).b ds v
theorem Lk.app {es : List E} : ∀ {r1 : T0} {u v w : Nat} {r2 : T0}, Lk es u r1 v → Lk es v r2 w → Lk es u (r1 ++ r2) w
 | [], u, v, w, r2, h1, h2 => by cases h1; exact h2
 | d :: ds, u, v, w, r2, h1, h2 => ⟨h1.1, h1.2.1, h1.2.2.app h2⟩
theorem Lk.snoc {es : List E} {u v d : Nat} {row : T0} (h : Lk es u row v) (hd : d < es.length) (ha : (ed es d).a = v) : Lk es u (row ++ [d]) (ed es d).b := h.app ⟨hd, ha, rfl⟩
theorem Lk.lt {es : List E} : ∀ {row : T0} {u v : Nat}, Lk es u row v → ∀ x ∈ row, x < es.length
 | [], _, _, _, x, hx => by cases hx
 | d :: ds, u, v, h, x, hx => by
  rcases List.mem_cons.mp hx with rfl | hx
  ·exact h.1
  ·exact h.2.2.lt x hx
theorem Lk.go {es : List E} : ∀ {row : T0} {u v : Nat} {pl : T0}, Lk es u row v → pl.getLast? = some u → ∃ more, row.foldl (stP es) (some pl) = some (pl ++ more) ∧ (pl ++ more).getLast? = some v ∧ more.length = row.length
 | [], u, v, pl, h, hl => by cases h; exact ⟨[], by simp, by simpa using hl, rfl⟩
 | d :: ds, u, v, pl, h, hl => by
  obtain ⟨more, e1, e2, e3⟩ := h.2.2.go (pl := pl ++ [(ed es d).b]) (by simp)
  refine ⟨(ed es d).b :: more, ?_, by simpa using e2, by simp [e3]⟩
  show ds.foldl (stP es) (stP es (some pl) d) = _
  have : stP es (some pl) d = some (pl ++ [(ed es d).b]) := by
   show (if pl.getLast? = some (ed es d).a then some (pl ++ [(ed es d).b]) else none) = _
   rw [if_pos (by rw [hl, h.2.1])]
  rw [this, e1]; simp
theorem aA3 {pl : T0} {v m : Nat} (h : pl.getLast? = some v) (hl : pl.length = m + 1) : nt pl m = v := by
 rw [List.getLast?_eq_getElem?, hl, tK (by omega)] at h
 exact Option.some.inj h
theorem aGt {es : List E} {ps : Y0} {way ring : T0} {many : Int} {v : Nat} (hw : Lk es 0 way v) (hr : Lk es v ring v) (hm : 0 ≤ many) (hg : 0 < gn es ps way + many * gn es ps ring) : ∃ pl, goP es (way ++ ring) = some pl ∧ brB es ps way ring many pl = true := by
 obtain ⟨m1, e1, l1, n1⟩ := hw.go (pl := [0]) rfl
 obtain ⟨m2, e2, l2, n2⟩ := hr.go l1
 refine ⟨([0] ++ m1) ++ m2, by unfold goP; rw [List.foldl_append, e1, e2], ?_⟩
 have k1 : nt ([0] ++ m1 ++ m2) way.length = v := by
  have : nt ([0] ++ m1) way.length = v := aA3 l1 (by rw [List.length_append, n1]; simp [Nat.add_comm])
  rw [← this]
  unfold nt
  rw [List.getD_eq_getElem?_getD, List.getD_eq_getElem?_getD, List.getElem?_append_left (by simp [n1])]
 have k2 : nt ([0] ++ m1 ++ m2) (way.length + ring.length) = v := aA3 l2 (by rw [List.length_append, List.length_append, n1, n2]; simp; omega)
 unfold brB
 rw [k1, k2, decide_eq_true hm, decide_eq_true hg]; simp
section
variable {es : List E} {gs : Y0} {num : T0} {n r : Nat} {most : Y0} {ow : Y4} {L rk : Nat → Nat} {cnt : Nat}
theorem aDy (hn : ∀ d ∈ num, d < es.length) (h : BF es gs num n r most ow L rk cnt) {u : Nat} : ∀ k, (∀ i, i < k → og ow (ch es ow u i) ≠ none) → Lk es u (dl es ow u k) (ch es ow u k)
 | 0, _ => rfl
 | k + 1, hne => by
  have ih := aDy hn h (u := u) k fun i hi => hne i (Nat.lt_succ_of_lt hi)
  cases e : og ow (ch es ow u k) with
  | none => exact absurd e (hne k (Nat.lt_succ_self k))
  | some d =>
   obtain ⟨o1, o2, _⟩ := h.on _ d e
   have := ih.snoc (hn d o1) o2
   rw [nL, e]
   show Lk es u (dl es ow u k ++ [d]) (nx es ow (ch es ow u k))
   rw [gN e]; exact this
theorem aA2 (h : BF2 es gs num n r most ow L rk cnt) (hr : ∀ d ∈ num, Rel es gs most d) {u : Nat} : ∀ k, (∀ i, i < k → og ow (ch es ow u i) ≠ none) → gt most u = ((dl es ow u k).map (gt gs)).sum + gt most (ch es ow u k)
 | 0, _ => by simp [dl, ch]
 | k + 1, hne => by
  have ih := aA2 h hr (u := u) k fun i hi => hne i (Nat.lt_succ_of_lt hi)
  cases e : og ow (ch es ow u k) with
  | none => exact absurd e (hne k (Nat.lt_succ_self k))
  | some d =>
   obtain ⟨o1, o2, o3, _⟩ := h.on _ d e
   have := hr d o1
   unfold Rel at this
   rw [o2] at this
   have ec : ch es ow u (k + 1) = (ed es d).b := by show nx es ow _ = _; rw [gN e]
   rw [nL, List.map_append, List.sum_append, e, ec]
   have e1 : (([(some d : Option Nat).getD 0]).map (gt gs)).sum = gt gs d := by simp
   rw [e1]; omega
theorem aEz (hb : ∀ d ∈ num, (ed es d).b < n) (h : BF2 es gs num n r most ow L rk cnt) (hr : ∀ d ∈ num, Rel es gs most d) {u : Nat} (hu : u < n) : ∃ k, k < n ∧ og ow (ch es ow u k) = none ∧ ∀ i, i < k → og ow (ch es ow u i) ≠ none := by
 have lt := wX hb h.toBF hu
 have dec : ∀ i j, i < j → (∀ m, m < j → og ow (ch es ow u m) ≠ none) → rk (ch es ow u j) < rk (ch es ow u i) := by
  intro i j
  induction j with
  | zero => intro hij; omega
  | succ j ih =>
   intro hij hne
   have step : rk (ch es ow u (j + 1)) < rk (ch es ow u j) := by
    cases e : og ow (ch es ow u j) with
    | none => exact absurd e (hne j (Nat.lt_succ_self j))
    | some d =>
     have := aAi h.toBF hr e
     show rk (nx es ow (ch es ow u j)) < _
     rw [gN e]; exact this
   rcases Nat.lt_or_ge i j with q | q
   ·have := ih q fun m hm => hne m (Nat.lt_succ_of_lt hm)
    omega
   ·have : i = j := by omega
    subst this; exact step
 have ex : ∃ k, k < n ∧ og ow (ch es ow u k) = none := by
  refine Classical.byContradiction fun hno => ?_
  have hne : ∀ m, m < n → og ow (ch es ow u m) ≠ none := fun m hm z => hno ⟨m, hm, z⟩
  have nd : ((List.range (n + 1)).map (ch es ow u)).Nodup := by
   refine List.pairwise_map.mpr (List.Pairwise.imp_of_mem (R := (· < ·)) (fun {a b} ha hb' hlt z => ?_) List.pairwise_lt_range)
   have hb'' : b < n + 1 := List.mem_range.mp hb'
   have := dec a b hlt fun m hm => hne m (by omega)
   rw [z] at this; omega
  have := oJ n _ nd fun x hx => by
   obtain ⟨i, _, rfl⟩ := List.mem_map.mp hx
   exact lt i
  simp at this
  omega
 obtain ⟨k, hk, e⟩ := ex
 obtain ⟨k', h1, h2, h3⟩ := ST.exists_first (P := fun k => og ow (ch es ow u k) = none) k e
 exact ⟨k', by omega, h2, h3⟩
end
end VL.QQ
end
section
namespace VL.QQ
open VL PySem L2 PY
theorem sH {n kd r cnt : Nat} {es : List E} {gs : Y0} {num : T0} {most : Y0} {ow : Y4} {L rk : Nat → Nat} (h : OkM n kd es) (hg : gs.length = es.length) (hnum : ∀ d ∈ num, d < es.length)
  (B : BF2 es gs num n (r + 1) most ow L rk cnt) (hr : ∀ d ∈ num, Rel es gs most d ∨ r ≤ L (ed es d).b) :
  ∃ most' ow' L' rk' cnt' raised, fH [dM n kd es, .lst false (I gs), .lst false (NN num), .lst true (I most), .lst true (OD ow)] = .ok (oD raised, [dM n kd es, .lst false (I gs), .lst false (NN num), .lst true (I most'), .lst true (OD ow')]) ∧
   BF2 es gs num n (r + 1) most' ow' L' rk' cnt' ∧ cnt' ≤ cnt + num.length ∧ (∀ d ∈ num, Rel es gs most' d ∨ r + 1 ≤ L' (ed es d).b) ∧ (raised = none → ∀ d ∈ num, Rel es gs most' d) ∧ (∀ v, raised = some v → v < n ∧ L' v = r + 1) := by
 let J : T0 → Env → Prop := fun pre ρ => ∃ most' ow' L' rk' cnt' raised t6 t7 t8, np t6 ∧ np t7 ∧ np t8 ∧ ρ = [.val (dM n kd es), .val (.lst false (I gs)), .val (.lst false (NN num)), .pin (.lst true (I most')), .pin (.lst true (OD ow')), .val (oD raised), t6, t7, t8] ∧
  BF2 es gs num n (r + 1) most' ow' L' rk' cnt' ∧ cnt' ≤ cnt + pre.length ∧ (∀ d ∈ pre, Rel es gs most' d ∨ r + 1 ≤ L' (ed es d).b) ∧ (∀ d ∈ num, Rel es gs most' d ∨ r ≤ L' (ed es d).b) ∧ (raised = none → ∀ d ∈ pre, Rel es gs most' d) ∧ (∀ v, raised = some v → v < n ∧ L' v = r + 1)
 let bd : aU := (aN (aY 7 (xOf (v2 kIx (v2 kIx (aB 0) (vC (.int 2))) (aB 6)))) (aN (aY 8 (xOf (v2 bU (v2 kIx (aB 1) (aB 6)) (v2 kIx (aB 3) (v2 kIx (aB 7) (vC (.int 2))))))) (sIf (aV (v2 kGt (aB 8) (v2 kIx (aB 3) (v2 kIx (aB 7) (vC (.int 0)))))) (aN (dU 3 (v2 kIx (aB 7) (vC (.int 0))) (aB 8)) (aN (dU 4 (v2 kIx (aB 7) (vC (.int 0))) (aB 6)) (aY 5 (xOf (v2 kIx (aB 7) (vC (.int 0))))))) bI)))
 have key : ∃ ρ', forL (bA 6) bd (num.map nI) [.val (dM n kd es), .val (.lst false (I gs)), .val (.lst false (NN num)), .pin (.lst true (I most)), .pin (.lst true (OD ow)), .val .non, .un, .un, .un] = .next ρ' ∧ J num ρ' := by
  refine wL J num num [] _ rfl ?_ ⟨most, ow, L, rk, cnt, none, _, _, _, bE, bE, bE, rfl, B, by simp, by simp, hr, by simp, by simp⟩
  rintro pre d post ρ e ⟨most', ow', L', rk', cnt', raised, t6, t7, t8, h6, h7, h8, rfl, B', hc, hp1, hp2, hn, hs⟩
  have hdn : d ∈ num := by rw [e]; simp
  have hd := hnum d hdn
  have ha := h.a _ (eK hd)
  have hb := h.b _ (eK hd)
  have x1 := kP (o := false) (xs := gs) (b := false) (c := false) (show d < gs.length by rw [hg]; exact hd)
  have x2 := kP (o := true) (xs := most') (b := false) (c := false) (show (ed es d).b < most'.length by rw [B'.lm]; exact hb)
  have x3 := kP (o := true) (xs := most') (b := false) (c := false) (show (ed es d).a < most'.length by rw [B'.lm]; exact ha)
  by_cases hv : gt most' (ed es d).a < gt gs d + gt most' (ed es d).b
  ·obtain ⟨L2, rk2, B2, hL2, hd2, hk2⟩ := B'.raise hdn ha hv (by
    rcases hp2 d hdn with q | q
    ·unfold Rel at q; omega
    ·omega)
   refine ⟨[.val (dM n kd es), .val (.lst false (I gs)), .val (.lst false (NN num)), .pin (.lst true (I most')), .pin (.lst true (OD ow')), .val (oD raised), .val (nI d), t7, t8], [.val (dM n kd es), .val (.lst false (I gs)), .val (.lst false (NN num)), .pin (.lst true (I (most'.set (ed es d).a (gt gs d + gt most' (ed es d).b)))), .pin (.lst true (OD (ow'.set (ed es d).a (some d)))), .val (nI (ed es d).a), .val (nI d), .val (ed es d).d, .val (.int (gt gs d + gt most' (ed es d).b))], by simp [h6], ?_, ?_⟩
   ·simp -implicitDefEqProofs [bd, h7, h8, nI, fL hd, x1, x2, x3, hv, aJ3 (show (ed es d).a < most'.length by rw [B'.lm]; exact ha), aAm (show (ed es d).a < ow'.length by rw [B'.lo]; exact ha)]
   ·refine ⟨_, _, L2, rk2, cnt' + 1, some (ed es d).a, _, _, _, aS, aS, aS, rfl, B2, by simp; omega, fun d' hd' => ?_, fun d' hd' => ?_, (fun z => by cases z), fun v z => by cases z; exact ⟨ha, hL2⟩⟩
    ·rcases List.mem_append.mp hd' with q | q
     ·exact hk2 d' (r + 1) (Nat.le_refl _) (hp1 d' q)
     ·simp at q; subst q; exact hd2
    ·exact hk2 d' r (by omega) (hp2 d' hd')
  ·refine ⟨[.val (dM n kd es), .val (.lst false (I gs)), .val (.lst false (NN num)), .pin (.lst true (I most')), .pin (.lst true (OD ow')), .val (oD raised), .val (nI d), t7, t8], [.val (dM n kd es), .val (.lst false (I gs)), .val (.lst false (NN num)), .pin (.lst true (I most')), .pin (.lst true (OD ow')), .val (oD raised), .val (nI d), .val (ed es d).d, .val (.int (gt gs d + gt most' (ed es d).b))], by simp [h6], ?_, ?_⟩
   ·simp -implicitDefEqProofs [bd, h7, h8, nI, fL hd, x1, x2, x3, hv]
   ·have hrel : Rel es gs most' d := by unfold Rel; omega
    refine ⟨_, _, L', rk', cnt', raised, _, _, _, aS, aS, aS, rfl, B', by simp; omega, fun d' hd' => ?_, hp2, fun z d' hd' => ?_, hs⟩
    ·rcases List.mem_append.mp hd' with q | q
     ·exact hp1 d' q
     ·simp at q; subst q; exact .inl hrel
    ·rcases List.mem_append.mp hd' with q | q
     ·exact hn z d' q
     ·simp at q; subst q; exact hrel
 obtain ⟨ρ', hf, most', ow', L', rk', cnt', raised, t6, t7, t8, h6, h7, h8, rfl, B', hc, hp1, hp2, hn, hs⟩ := key
 refine ⟨most', ow', L', rk', cnt', raised, ?_, B', hc, hp1, hn, hs⟩
 have hb : gI (entry 9 [dM n kd es, .lst false (I gs), .lst false (NN num), .lst true (I most), .lst true (OD ow)]) = .ret (oD raised) [.val (dM n kd es), .val (.lst false (I gs)), .val (.lst false (NN num)), .pin (.lst true (I most')), .pin (.lst true (OD ow')), .un, t6, t7, t8] := by
  simp -implicitDefEqProofs [gI, entry]
  have hf : forL (bA 6) bd (NN num) _ = _ := hf
  rw [hf]
  simp
 show (match gI (entry 9 [dM n kd es, .lst false (I gs), .lst false (NN num), .lst true (I most), .lst true (OD ow)]) with | .ret d ρ' => R.ok (d, outs _ ρ') | .next ρ' => .ok (.non, outs _ ρ') | .exc c _ => .exc c | _ => .bad) = _
 rw [hb]
 simp [outs]
structure MG2 (n : Nat) (es : List E) (gs : Y0) (most : Y0) (ow : Y4) (raised : Option Nat) (num : T0) (L rk : Nat → Nat) (cnt r : Nat) : Prop where
 nm : ∀ k, k ∈ num ↔ k < es.length ∧ Reach es (ed es k).a
 bf : BF2 es gs num n r most ow L rk cnt
 ct : cnt ≤ 20 * 18
 no : raised = none → ∀ d ∈ num, Rel es gs most d
 so : ∀ v, raised = some v → v < n ∧ r = n ∧ L v = n
theorem rS {n kd : Nat} {es : List E} {gs : Y0} (h : OkM n kd es) (hg : gs.length = es.length) :
  nY jX [dM n kd es, .lst false (I gs)] (fun d => ∃ most ow raised num L rk cnt r, d = .tup [.lst false (I most), .lst false (OD ow), oD raised] ∧ MG2 n es gs most ow raised num L rk cnt r) := by
 refine eP ?_
 obtain ⟨d, hd, f, rfl, hf⟩ := tN h
 have hn1 := h.n1
 have hn2 := h.n2
 have hls := h.ls
 let num : T0 := (es.zipIdx.filter fun p => f p.1.a).map (·.2)
 have hnum : ∀ k, k ∈ num ↔ k < es.length ∧ Reach es (ed es k).a := fun k => by
  constructor
  ·intro hk
   obtain ⟨⟨e, k'⟩, h1, h2⟩ := List.mem_map.mp hk
   have h2 : k' = k := h2
   subst h2
   obtain ⟨h3, h4⟩ := List.mem_filter.mp h1
   rw [List.mem_zipIdx_iff_getElem?] at h3
   have h3 : es[k']? = some e := h3
   have hk' := (List.getElem?_eq_some_iff.mp h3).1
   have h5 := lS hk'
   rw [h3] at h5
   rw [← Option.some.inj h5]
   exact ⟨hk', (hf _ (h.a e (List.mem_of_getElem? h3))).mp h4⟩
  ·rintro ⟨hk, hr⟩
   refine List.mem_map.mpr ⟨(ed es k, k), List.mem_filter.mpr ⟨?_, (hf _ (h.a _ (eK hk))).mpr hr⟩, rfl⟩
   rw [List.mem_zipIdx_iff_getElem?]; exact lS hk
 have hnl : num.length ≤ 18 := by
  have : num.length ≤ es.zipIdx.length := by
   show ((es.zipIdx.filter fun p => f p.1.a).map (·.2)).length ≤ _
   rw [List.length_map]; exact List.length_filter_le _ _
  rw [List.length_zipIdx] at this; omega
 have e1 : cB (rR (v2 kIx (aB 0) (vC (.int 2)))) 2 [2] (dE [0, 1]) (eW (v2 kIx (aB 2) (v2 kIx (aB 1) (vC (.int 0))))) (aB 0) [.val (dM n kd es), .val (.lst false (I gs)), .val (.lst true (BB n f)), .un, .un, .un, .un, .un] = .ok (.lst true (NN num), true) := by
  rw [aHo [.val (.lst false (BB n f))] es.zipIdx (fun p => nI p.2) (fun p => p.1.d) (fun p => nI p.2) (fun _ => false) (fun p => f p.1.a) (by simp [uY]) (by simp; omega) (by simp [jJ]) ?_ (fun _ => rfl)]
  ·show _ = R.ok (D.lst true (((es.zipIdx.filter fun p => f p.1.a).map (·.2)).map nI), true)
   rw [List.map_map]; rfl
  ·rintro ⟨e, k⟩ hx
   have he : e ∈ es := by
    rw [List.mem_zipIdx_iff_getElem?] at hx
    exact List.mem_of_getElem? hx
   refine ⟨rfl, rfl, ?_, rfl, rfl⟩
   simp [nI, aIf (h.a e he), dF, fZ]
 have e2 : cB (iR1 (aD (v2 kIx (aB 0) (vC (.int 0))) aM)) 1 [] (bA 0) dD (vC (.int 0)) [.val (dM n kd es), .val (.lst false (I gs)), .val (.lst true (BB n f)), .val (.lst true (NN num)), .un, .un, .un, .un] = .ok (.lst true (I (List.replicate n 0)), true) := by
  rw [mF [] (List.range n) (fun i => .int (i : Int)) (fun _ => D.int 0) (fun _ => true) (by simp -implicitDefEqProofs [nI, eO (show n ≤ 1000000 by omega)]) (by simp; omega) rfl (fun x _ => ⟨rfl, rfl⟩) (.inl rfl)]
  rw [uA, I, List.map_replicate]
 have e3 : cB (iR1 (aD (v2 kIx (aB 0) (vC (.int 0))) aM)) 1 [] (bA 0) dD (vC .non) [.val (dM n kd es), .val (.lst false (I gs)), .val (.lst true (BB n f)), .val (.lst true (NN num)), .val (.lst true (I (List.replicate n 0))), .un, .un, .un] = .ok (.lst true (OD (List.replicate n none)), true) := by
  rw [mF [] (List.range n) (fun i => .int (i : Int)) (fun _ => D.non) (fun _ => true) (by simp -implicitDefEqProofs [nI, eO (show n ≤ 1000000 by omega)]) (by simp; omega) rfl (fun x _ => ⟨rfl, rfl⟩) (.inl rfl)]
  rw [uA, OD, List.map_replicate]; rfl
 simp -implicitDefEqProofs [nO, entry, bM hd, e1, e2, e3]
 show out ((cF fS iN fuel _).andThen _) _ _
 refine bR (P' := fun ρ => ∃ k most ow L rk cnt raised, MG2 n es gs most ow raised num L rk cnt k ∧ ρ = [.val (dM n kd es), .val (.lst false (I gs)), .val (.lst true (BB n f)), .val (.lst false (NN num)), .val (.lst true (I most)), .val (.lst true (OD ow)), .val (oD raised), .val (nI k)])
  (fN (fun m ρ => ∃ k most ow L rk cnt raised, m = n - k ∧ k ≤ n ∧ BF2 es gs num n k most ow L rk cnt ∧ cnt ≤ k * 18 ∧ (∀ d ∈ num, Rel es gs most d ∨ k ≤ L (ed es d).b) ∧ (raised = none → ∀ d ∈ num, Rel es gs most d) ∧ (∀ v, raised = some v → v < n ∧ L v = k) ∧ ρ = [.val (dM n kd es), .val (.lst false (I gs)), .val (.lst true (BB n f)), .val (.lst false (NN num)), .val (.lst true (I most)), .val (.lst true (OD ow)), .val (oD raised), .val (nI k)]) ?_ 1000 n _
   ⟨0, _, _, _, _, 0, some 0, by omega, by omega, BF2.init, by omega, (fun d _ => .inr (Nat.zero_le _)), (fun z => by cases z), (fun v z => by cases z; exact ⟨by omega, rfl⟩), rfl⟩ (by omega)) ?_
 ·rintro m ρ ⟨k, most, ow, L, rk, cnt, raised, hm, hkn, B, hc, hrel, hno, hso, rfl⟩
  cases raised with
  | none => exact .inl ⟨by simp [fS, oD, fK], k, most, ow, L, rk, cnt, none, ⟨hnum, B, by omega, hno, fun v z => by cases z⟩, rfl⟩
  | some v =>
   obtain ⟨hv, hLv⟩ := hso v rfl
   by_cases hkn' : k < n
   ·refine .inr ⟨by simp [fS, oD, fK, nI, hkn'], n - (k + 1), by omega, ?_⟩
    obtain ⟨most', ow', L', rk', cnt', raised', ef, B', hc', hr', hno', hso'⟩ := sH h hg (fun d hd => ((hnum d).mp hd).1) (B.up (Nat.le_succ k)) hrel
    have es6 : aY 6 (lU fH [0, 1, 3, 4, 5]) [.val (dM n kd es), .val (.lst false (I gs)), .val (.lst true (BB n f)), .val (.lst false (NN num)), .val (.lst true (I most)), .val (.lst true (OD ow)), .val (oD (some v)), .val (nI k)] = .next [.val (dM n kd es), .val (.lst false (I gs)), .val (.lst true (BB n f)), .val (.lst false (NN num)), .val (.lst true (I most')), .val (.lst true (OD ow')), .val (oD raised'), .val (nI k)] := by
     have eg : gT [0, 1, 3, 4, 5] [.val (dM n kd es), .val (.lst false (I gs)), .val (.lst true (BB n f)), .val (.lst false (NN num)), .val (.lst true (I most)), .val (.lst true (OD ow)), .val (oD (some v)), .val (nI k)] = some [dM n kd es, .lst false (I gs), .lst false (NN num), .lst true (I most), .lst true (OD ow)] := rfl
     unfold aY lU
     rw [eg]
     dsimp only
     rw [if_pos (show iU [0, 1, 3, 4, 5] = true from rfl), ef]
     simp [cE]
    have eb : iN [.val (dM n kd es), .val (.lst false (I gs)), .val (.lst true (BB n f)), .val (.lst false (NN num)), .val (.lst true (I most)), .val (.lst true (OD ow)), .val (oD (some v)), .val (nI k)] = .next [.val (dM n kd es), .val (.lst false (I gs)), .val (.lst true (BB n f)), .val (.lst false (NN num)), .val (.lst true (I most')), .val (.lst true (OD ow')), .val (oD raised'), .val (nI (k + 1))] := by
     unfold iN
     rw [fG, es6]
     simp -implicitDefEqProofs [nI]
    rw [eb]
    exact ⟨k + 1, most', ow', L', rk', cnt', raised', rfl, by omega, B', by omega, hr', hno', hso', rfl⟩
   ·refine .inl ⟨by simp [fS, oD, fK, nI]; omega, k, most, ow, L, rk, cnt, some v, ⟨hnum, B, by omega, hno, fun v' z => ?_⟩, rfl⟩
    cases z
    exact ⟨hv, by omega, by omega⟩
 ·rintro ρ ⟨k, most, ow, L, rk, cnt, raised, M, rfl⟩
  have ef : (oD raised).frz = oD raised := mX _ (nH raised)
  simp -implicitDefEqProofs only [aL9, List.foldl, aMe, aG2, aA1, aDl, aH4, aLd, aGk, aEa, aFx, aIi, aC0, cN, List.all, aLx, vZ, aBf, aD1, nH, Bool.not_false, Bool.and_self, Bool.and_true, List.map, sT, aE5, ef, aH0, Bool.true_or, if_true, aG3, List.length]
  exact ⟨most, ow, raised, rfl, num, L, rk, cnt, k, M⟩
end VL.QQ
end
section
namespace VL.QQ
open VL PySem L2 PY
theorem aCj {n kd : Nat} {es : List E} {v : Nat} (h : OkM n kd es) (hv : v < n) (hre : Reach es v) : nY qK [dM n kd es, .int (v : Int)] (fun d => ∃ row, d = .lst true (NN row) ∧ Lk es 0 row v ∧ row.length ≤ n) := by
 refine eP ?_
 obtain ⟨d, hd, came, rfl, C⟩ := tM h
 obtain ⟨rk, hrn, hrk⟩ := C.rk
 have hn2 := h.n2
 simp -implicitDefEqProofs [wA, entry, aZ hd]
 show out ((cF oM tE fuel _).andThen _) _ _
 refine bR (P' := fun ρ => ∃ (row : T0) (w : Nat), Lk es 0 row.reverse v ∧ row.length ≤ n ∧ ρ = [.val (dM n kd es), .val (nI w), .val (.lst true (OD came)), .val (.lst true (NN row))])
  (fN (fun m ρ => ∃ (row : T0) (w : Nat), w < n ∧ Reach es w ∧ Lk es w row.reverse v ∧ row.length + rk w ≤ n ∧ rk w ≤ m ∧ ρ = [.val (dM n kd es), .val (nI w), .val (.lst true (OD came)), .val (.lst true (NN row))]) ?_ 1000 (rk v) _ ⟨[], v, hv, hre, rfl, by simpa using hrn v, Nat.le_refl _, rfl⟩ (by have := hrn v; omega)) ?_
 ·rintro m ρ ⟨row, w, hw, hwr, hr, hl, hm, rfl⟩
  have hoA := wB (o := true) (b := false) (c := false) (show w < came.length by rw [C.len]; exact hw)
  cases ho : og came w with
  | none =>
   rw [ho] at hoA
   have hw0 : w = 0 := by
    rcases (C.re w hw).mpr hwr with q | q
    ·exact q
    ·exact absurd ho q
   exact .inl ⟨by simp [oM, nI, hoA, oD, fK], row, w, by rw [← hw0]; exact hr, by omega, rfl⟩
  | some k =>
   rw [ho] at hoA
   have hk := C.ok w k ho
   have hrk' := hrk w k ho
   have hrl : row.length < 1000000 := by omega
   refine .inr ⟨by simp [oM, nI, hoA, oD, fK], m - 1, by omega, ?_⟩
   simp -implicitDefEqProofs [tE, nI, hoA, oD, hrl, fL hk.1]
   refine ⟨row ++ [k], (ed es k).a, h.a _ (eK hk.1), C.sr w k ho, ?_, by simp; omega, by omega, rfl, rfl⟩
   rw [List.reverse_append]
   exact ⟨hk.1, rfl, by rw [hk.2.1]; exact hr⟩
 ·rintro ρ ⟨row, w, hr, hl, rfl⟩
  simp -implicitDefEqProofs [aHw (show row.length < 1000000 by omega)]
  exact ⟨row.reverse, rfl, hr, by simpa using hl⟩
theorem sD {n kd : Nat} {es : List E} {ow : Y4} {rk : Nat → Nat} {cnt : Nat} (h : OkM n kd es) (hl : ow.length = n) (ho : ∀ v d, og ow v = some d → d < es.length ∧ rk (ed es d).b < rk v) (hr : ∀ v, rk v ≤ cnt) (hc : cnt ≤ 990) :
  nY jT [dM n kd es, .lst false (OD ow), .int 0] (fun d => ∃ k, d = .lst true (NN (dl es ow 0 k)) ∧ k ≤ cnt ∧ og ow (ch es ow 0 k) = none ∧ ∀ i, i < k → og ow (ch es ow 0 i) ≠ none) := by
 refine eP ?_
 have hn1 := h.n1
 simp -implicitDefEqProofs [mV, entry]
 show out ((cF iS lO fuel _).andThen _) _ _
 refine bR (P' := fun ρ => ∃ k w, k ≤ cnt ∧ og ow (ch es ow 0 k) = none ∧ (∀ i, i < k → og ow (ch es ow 0 i) ≠ none) ∧ ρ = [.val (dM n kd es), .val (.lst false (OD ow)), w, .val (.lst true (NN (dl es ow 0 k)))])
  (fN (fun m ρ => ∃ k, ch es ow 0 k < n ∧ k + rk (ch es ow 0 k) ≤ cnt ∧ rk (ch es ow 0 k) ≤ m ∧ (∀ i, i < k → og ow (ch es ow 0 i) ≠ none) ∧ ρ = [.val (dM n kd es), .val (.lst false (OD ow)), .val (nI (ch es ow 0 k)), .val (.lst true (NN (dl es ow 0 k)))]) ?_ 1000 (rk 0) _ ⟨0, by show 0 < n; omega, by show 0 + rk 0 ≤ cnt; simpa using hr 0, Nat.le_refl _, by simp, rfl⟩ (by have := hr 0; omega)) ?_
 ·rintro m ρ ⟨k, hw, hlen, hm, hne, rfl⟩
  have hoA := wB (o := false) (b := false) (c := false) (show ch es ow 0 k < ow.length by rw [hl]; exact hw)
  cases hq : og ow (ch es ow 0 k) with
  | none =>
   rw [hq] at hoA
   exact .inl ⟨by simp [iS, nI, hoA, oD, fK], k, _, by omega, hq, hne, rfl⟩
  | some d =>
   rw [hq] at hoA
   have hk := ho _ d hq
   have hll : (dl es ow 0 k).length < 1000000 := by simp [dl]; omega
   have ec : ch es ow 0 (k + 1) = (ed es d).b := by show nx es ow _ = _; rw [gN hq]
   have edl : dl es ow 0 (k + 1) = dl es ow 0 k ++ [d] := by rw [nL, hq]; rfl
   refine .inr ⟨by simp [iS, nI, hoA, oD, fK], m - 1, by omega, ?_⟩
   simp -implicitDefEqProofs [lO, nI, hoA, oD, hll, fL hk.1]
   refine ⟨k + 1, by rw [ec]; exact h.b _ (eK hk.1), by rw [ec]; omega, by rw [ec]; omega, fun i hi => ?_, by rw [ec], by rw [edl]⟩
   rcases Nat.lt_or_ge i k with q | q
   ·exact hne i q
   ·have : i = k := by omega
    subst this; rw [hq]; simp
 ·rintro ρ ⟨k, w, hk, he, hne, rfl⟩
  simp
  exact ⟨k, rfl, hk, he, hne⟩
theorem nV {n kd : Nat} {es : List E} {ps : Y0} {ring : T0} {v : Nat} (h : OkM n kd es) (hs : Sm 2000 (ov es ps)) (hv : v < n) (hvr : Reach es v) (hr : Lk es v ring v) (hne : ring ≠ []) (hl : ring.length ≤ n) (hp : 0 < gn es ps ring) :
  nY fO [dM n kd es, .lst false (I (ov es ps)), .lst false (NN ring)] (fun d => ∃ way many, d = .tup [.str "row", .lst false (NN way), .lst false (NN ring), .int many] ∧ Lk es 0 way v ∧ way.length ≤ n ∧ 0 ≤ many ∧ fits many = true ∧ 0 < gn es ps way + many * gn es ps ring) := by
 have hn2 := h.n2
 have hg : (ov es ps).length = es.length := by simp [ov]
 obtain ⟨x, xs, rfl⟩ : ∃ x xs, ring = x :: xs := by
  cases ring with
  | nil => exact absurd rfl hne
  | cons x xs => exact ⟨x, xs, rfl⟩
 have hx := hr.1
 have hxa : (ed es x).a = v := hr.2.1
 obtain ⟨d, hd, way, rfl, hw1, hw2⟩ := aCj h hv hvr
 have g1 := kZ (gs := ov es ps) (row := way) (by rw [hg]; exact hw1.lt) (by omega)
 have g2 := kZ (gs := ov es ps) (row := x :: xs) (by rw [hg]; exact hr.lt) (by omega)
 have b1 := oH (row := way) hs (by omega)
 have b2 := oH (row := x :: xs) hs (by omega)
 have hp' : 0 < ((x :: xs).map (gt (ov es ps))).sum := hp
 show nY _ _ (fun d => ∃ way many, d = .tup [.str "row", .lst false (NN way), .lst false (NN (x :: xs)), .int many] ∧ Lk es 0 way v ∧ way.length ≤ n ∧ 0 ≤ many ∧ fits many = true ∧ 0 < (way.map (gt (ov es ps))).sum + many * ((x :: xs).map (gt (ov es ps))).sum)
 rw [← hxa] at hd
 have key : ∀ S T : Int, 0 < S → -2000000 ≤ T → T ≤ 2000000 → 0 ≤ (if 0 < -T / S + 1 then -T / S + 1 else 0) ∧ fits (if 0 < -T / S + 1 then -T / S + 1 else 0) = true ∧ 0 < T + (if 0 < -T / S + 1 then -T / S + 1 else 0) * S := by
  intro S T hS h1 h2
  have e1 := Int.mul_ediv_add_emod (-T) S
  have e2 := Int.emod_lt_of_pos (-T) hS
  have e3 := Int.emod_nonneg (-T) (show S ≠ 0 by omega)
  generalize hq : -T / S = q at *
  have hup : q ≤ 2000000 := by
   rw [← hq]
   refine Int.ediv_le_of_le_mul hS ?_
   have : (2000000 : Int) * 1 ≤ 2000000 * S := Int.mul_le_mul_of_nonneg_left (by omega) (by decide)
   omega
  by_cases hpos : 0 < q + 1
  ·rw [if_pos hpos]
   refine ⟨by omega, nT (by omega) (by omega), ?_⟩
   rw [Int.add_mul, Int.one_mul, Int.mul_comm q S]
   omega
  ·rw [if_neg hpos]
   refine ⟨Int.le_refl _, nT (by decide) (by decide), ?_⟩
   have hq1 : q ≤ -1 := by omega
   have : S * q ≤ S * (-1) := Int.mul_le_mul_of_nonneg_left hq1 (by omega)
   omega
 obtain ⟨k1, k2, k3⟩ := key _ _ hp' b1.1 b1.2
 generalize ((x :: xs).map (gt (ov es ps))).sum = S at *
 generalize eT : (way.map (gt (ov es ps))).sum = T at *
 have hf : fits S = true := nT (by omega) (by omega)
 refine eP ?_
 simp -implicitDefEqProofs [iY, entry, aQ3, nI, fL hx, aZ hd, iL g1 rfl, iL g2 rfl, hp', hf, k2i]
 exact ⟨way, _, ⟨rfl, rfl⟩, hw1, hw2, k1, k2, by rw [eT]; exact k3⟩
end VL.QQ
end
section
namespace VL.QQ
open VL PySem L2 PY
inductive Told2 (n : Nat) (es : List E) (ps : Y0) : D → Prop
 | row (way ring : T0) (many : Int) (v : Nat) : Lk es 0 way v → Lk es v ring v → way.length ≤ 400 → ring.length ≤ 400 → 0 ≤ many → fits many = true → 0 < gn es ps way + many * gn es ps ring → Told2 n es ps (.tup [.str "row", .lst false (NN way), .lst false (NN ring), .int many])
 | purse (most : Y0) (ow : Y4) (num : T0) (L rk : Nat → Nat) (cnt r : Nat) : MG2 n es (ov es ps) most ow none num L rk cnt r → gt most 0 = 0 → Told2 n es ps (.tup [.str "purse", .lst false (I most)])
theorem qZ {n kd : Nat} {es : List E} {ps : Y0} (h : OkM n kd es) (hp : prB kd ps = true) (hl : ps.length ≤ 1000) : nY fU [dM n kd es, .lst false (I ps)] (Told2 n es ps) := by
 have hn1 := h.n1
 have hn2 := h.n2
 have hls := h.ls
 have hpl : ps.length = kd := by
  unfold prB at hp
  rw [Bool.and_eq_true, decide_eq_true_eq] at hp; exact hp.1
 have hol : (ov es ps).length = es.length := by simp [ov]
 obtain ⟨d, hd, most, ow, raised, num, L, rk, cnt, r, rfl, M⟩ := rS (gs := ov es ps) h hol
 have B := M.bf
 have hnl : ∀ d ∈ num, d < es.length := fun d hd => ((M.nm d).mp hd).1
 have hon : ∀ v d, og ow v = some d → d < es.length := fun v d e => hnl d (B.on v d e).1
 have hbn : ∀ d ∈ num, (ed es d).b < n := fun d hd => h.b _ (eK (hnl d hd))
 have hz : kIx (.lst false (I most), false) (.int 0, true) = .ok (.int (gt most 0), false) := kP (k := 0) (by rw [B.lm]; omega)
 refine eP ?_
 cases raised with
 | some v =>
  obtain ⟨hv, hrn, hL⟩ := M.so v rfl
  have B' : BF es (ov es ps) num n n most ow L rk cnt := hrn ▸ B.toBF
  obtain ⟨hne, hper⟩ := aGa hbn B' hv hL
  obtain ⟨d2, hd2, p, hp1, hp2, rfl, hcl⟩ := rY h B.lo hon hv hne hper
  have hne' : ∀ i, og ow (ch es ow (ch es ow v n) i) ≠ none := fun i => by rw [← lY]; exact hne _
  have hgain := aBq B.toBF hp1 (fun i _ => hne' i) hcl
  have hlk := aDy hnl B.toBF p fun i _ => hne' i
  rw [hcl] at hlk
  have hlen : (dl es ow (ch es ow v n) p).length = p := by simp [dl]
  have hun : ch es ow v n < n := wX hbn B.toBF hv n
  have hur : Reach es (ch es ow v n) := by
   cases e : og ow (ch es ow v n) with
   | none => exact absurd e (hne n)
   | some d =>
    obtain ⟨o1, o2, _⟩ := B.on _ d e
    have := ((M.nm d).mp o1).2
    rw [o2] at this; exact this
  obtain ⟨d3, hd3, way, many, rfl, hw1, hw2, hm1, hm2, hm3⟩ := nV h (aI6 h hp) hun hur hlk (fun z => by rw [z] at hlen; simp at hlen; omega) (by omega) hgain
  simp -implicitDefEqProofs [fW, entry, bM ((cH h hl).1 hp), aZ (gE h hpl), bM hd, uM, aB6, aC2, oD, fK, aZ hd2, aZ hd3]
  exact .row way _ many _ hw1 hlk (by omega) (by omega) hm1 hm2 hm3
 | none =>
  by_cases hm : 0 < gt most 0
  ·obtain ⟨d2, hd2, k, rfl, hk, he, hne⟩ := sD (ow := ow) (rk := rk) (cnt := cnt) h B.lo (fun v d e => ⟨hon v d e, aAi B.toBF (M.no rfl) e⟩) B.rc (by have := M.ct; omega)
   have hs := aA2 B (M.no rfl) k hne
   rw [B.zz _ he] at hs
   have hlen : (dl es ow 0 k).length = k := by simp [dl]
   simp -implicitDefEqProofs [fW, entry, bM ((cH h hl).1 hp), aZ (gE h hpl), bM hd, uM, aB6, aC2, oD, fK, aZ hd2, hz, hm]
   refine .row (dl es ow 0 k) [] 0 (ch es ow 0 k) (aDy hnl B.toBF k hne) rfl (by have := M.ct; omega) (by simp) (Int.le_refl _) (by decide) ?_
   show 0 < ((dl es ow 0 k).map (gt (ov es ps))).sum + 0 * _
   rw [Int.zero_mul]; omega
  ·simp -implicitDefEqProofs [fW, entry, bM ((cH h hl).1 hp), aZ (gE h hpl), bM hd, uM, aB6, aC2, oD, fK, hz, hm]
   exact .purse most ow num L rk cnt r M (by have := B.nn 0; omega)
theorem uE {es : List E} {ps : Y0} {k : Nat} (h : k < es.length) : gt (ov es ps) k = (ed es k).c - gt ps (ed es k).k := by
 unfold gt ov
 rw [List.getD_eq_getElem?_getD, List.getElem?_map, lS h]; rfl
section
variable {n kd : Nat} {es : List E} {ps : Y0} {most : Y0} {ow : Y4} {num : T0} {L rk : Nat → Nat} {cnt r : Nat}
theorem aIy (h : OkM n kd es) (M : MG2 n es (ov es ps) most ow none num L rk cnt r) {e : E} (he : e ∈ es) (hr : Reach es e.a) : e.c - gt ps e.k + gt most e.b ≤ gt most e.a := by
 obtain ⟨k, hk, hke⟩ := List.getElem_of_mem he
 have ee : ed es k = e := by
  have := lS hk
  rw [List.getElem?_eq_getElem hk, hke] at this
  exact (Option.some.inj this).symm
 have := M.no rfl k ((M.nm k).mpr ⟨hk, by rw [ee]; exact hr⟩)
 unfold Rel at this
 rw [uE hk, ee] at this
 exact this
end
end VL.QQ
end
section
namespace VL.QQ
open VL PySem L2 PY K10
section
variable {n kd : Nat} {es : List E} {ps : Y0} {most : Y0} {ow : Y4} {num : T0} {L rk : Nat → Nat} {cnt r : Nat}
theorem aOd {xs : Y0} (h : ∀ x ∈ xs, 0 ≤ x) : ¬ mn xs < 0 := by
 unfold mn
 cases e : xs.min? with
 | none => simp
 | some m =>
  have := h m (List.min?_mem e)
  simp; omega
theorem aEk (h : OkM n kd es) (M : MG2 n es (ov es ps) most ow none num L rk cnt r) (h0 : gt most 0 = 0) : vW n es ps most = true := by
 have hmn : ¬ mn most < 0 := aOd fun x hx => by
  obtain ⟨i, hi, e⟩ := List.getElem_of_mem hx
  have := M.bf.nn i
  rw [← e]
  have e2 : gt most i = most[i] := by unfold gt; simp [List.getD_eq_getElem?_getD, List.getElem?_eq_getElem hi]
  rw [e2] at this; exact this
 unfold vW
 rw [decide_eq_true M.bf.lm, decide_eq_true h0, decide_eq_false hmn]
 simp only [Bool.true_and, Bool.not_false]
 rw [List.all_eq_true]
 intro e he
 cases q : rB es e.a with
 | false => rfl
 | true =>
  have := aIy h M he (aDp.mp q)
  unfold okD
  rw [decide_eq_false (by omega)]; rfl
theorem zV (M : MG2 n es (ov es ps) most ow none num L rk cnt r) {v : Nat} (hv : ¬ Reach es v) : gt most v = 0 := by
 refine M.bf.zz v ?_
 cases e : og ow v with
 | none => rfl
 | some d =>
  obtain ⟨o1, o2, _⟩ := M.bf.on _ d e
  have := ((M.nm d).mp o1).2
  rw [o2] at this; exact absurd this hv
theorem yF (h : OkM n kd es) (M : MG2 n es (ov es ps) most ow none num L rk cnt r) : ∀ {row : T0} {u v : Nat}, Lk es u row v → Reach es u → gt most v + gn es ps row ≤ gt most u
 | [], u, v, hl, _ => by cases hl; simp [gn]
 | d :: ds, u, v, hl, hr => by
  obtain ⟨h1, h2, h3⟩ := hl
  have hre : Reach es (ed es d).a := by rw [h2]; exact hr
  have e1 := aIy h M (eK h1) hre
  have e2 := yF h M h3 (.step (eK h1) hre)
  have e3 : gn es ps (d :: ds) = gt (ov es ps) d + gn es ps ds := by unfold gn; simp
  rw [e3, uE h1]
  rw [h2] at e1
  omega
end
theorem aJn {ns : Y0} {n kd : Nat} {es : List E} {k0 most : Nat} (h : OkM n kd es) (hk0 : k0 ≤ 200) (hm : most ≤ 100) : nY nQ [.lst false (I ns), .int (k0 : Int), dM n kd es, .int (most : Int)] (fun d => ∃ row v, d = .lst true (NN row) ∧ Lk es 0 row v ∧ v < n ∧ row.length ≤ 100) := by
 refine eP ?_
 have hls := h.ls
 have hn1 := h.n1
 obtain ⟨c, hc1, hc⟩ := aB2 (v := gW ns k0) (m := most + 1) (by omega)
 have hc' : gW ns k0 % ((most : Int) + 1) = ((c : Nat) : Int) := by rw [← hc]; congr 1
 have hm0 : (0 : Int) < (most : Int) + 1 := by omega
 simp -implicitDefEqProofs [aA4, entry, aZ (pR (ns := ns) (k := k0) (by omega)), hm0, hc', eO (show c ≤ 1000000 by omega)]
 refine bR (dI (fun pre ρ => ∃ row, ∃ hr : Nat, ∃ t u, np t ∧ np u ∧ Lk es 0 row hr ∧ hr < n ∧ row.length ≤ pre.length ∧ ρ = [.val (.lst false (I ns)), .val (nI k0), .val (dM n kd es), .val (nI most), .val (.lst true (NN row)), .val (nI hr), t, u]) (List.range c) ⟨[], 0, _, _, bE, bE, rfl, by omega, by simp, rfl⟩ ?_) ?_
 ·rintro pre j post ρ e ⟨row, hr, t, u, ht, hu, hrow, hrn, hlen, rfl⟩
  have hj : j < c := List.mem_range.mp (by rw [e]; simp)
  have hpl : pre.length ≤ c := by have := congrArg List.length e; simp at this; omega
  let ss : T0 := (List.range es.length).filter fun k => decide ((ed es k).a = hr)
  have hss : ∀ x ∈ ss, x < es.length ∧ (ed es x).a = hr := fun x hx => by
   have := List.mem_filter.mp hx
   exact ⟨List.mem_range.mp this.1, of_decide_eq_true this.2⟩
  have ec : cB (iR1 (aD (vCB iD (aD (v2 kIx (aB 2) (vC (.int 2))) aM)) aM)) 1 [5, 2] (bA 0) (aV (v2 (kEq false) (v2 kIx (v2 kIx (v2 kIx (aB 2) (vC (.int 2))) (aB 0)) (vC (.int 0))) (aB 1))) (aB 0) [.val (.lst false (I ns)), .val (nI k0), .val (dM n kd es), .val (nI most), .val (.lst true (NN row)), .val (nI hr), .val (nI j), u] = .ok (.lst true (NN ss), true) := by
   rw [aHp [.val (nI hr), .val (dM n kd es)] (List.range es.length) nI nI (fun _ => false) (fun k => decide ((ed es k).a = hr)) (by simp -implicitDefEqProofs [eO (show es.length ≤ 1000000 by omega)]) (by simp; omega) (by simp [jJ, nI]) ?_ (fun _ => rfl)]
   ·rfl
   ·intro x hx
    have hx' := List.mem_range.mp hx
    refine ⟨?_, rfl, rfl⟩
    simp -implicitDefEqProofs [nI, fL hx']
    by_cases q : (ed es x).a = hr
    ·simp [q]
    ·have q' : ¬ ((ed es x).a : Int) = (hr : Int) := by omega
     simp [q, q']
  have mj : Ret cU [.lst false (I ns), .int ((k0 : Int) + 1 + (j : Int))] (.int (gW ns (k0 + 1 + j))) := by
   have := pR (ns := ns) (k := k0 + 1 + j) (by omega)
   rwa [show ((k0 + 1 + j : Nat) : Int) = (k0 : Int) + 1 + (j : Int) by omega] at this
  by_cases hs : ss = []
  ·have ec' := ec
   simp only [nI] at ec'
   simp -implicitDefEqProofs [ht, hu, nI, ec', dF, fZ, aIa, hs]
   exact ⟨row, hr, _, aS, _, aS, hrow, hrn, by omega, rfl, rfl, rfl, rfl⟩
  ·have hsl : 0 < ss.length := List.length_pos_iff.mpr hs
   obtain ⟨i, hi1, hi2⟩ := aB2 (v := gW ns (k0 + 1 + j)) (m := ss.length) hsl
   have y1 := aA6 (o := true) (xs := ss) (b := false) (c := true) hi1
   obtain ⟨hx, hxa⟩ := hss _ (vK hi1)
   have hrl : row.length < 1000000 := by omega
   have y2 := pI (o := true) (xs := row ++ [nt ss i]) (x := nt ss i) (b := false) (c := true) (by simp)
   have ec' := ec
   simp only [nI] at ec'
   simp -implicitDefEqProofs [ht, hu, nI, ec', dF, fZ, aIa, hs, aZ mj, hsl, hi2, y1, hrl, y2, fL hx]
   exact ⟨row ++ [nt ss i], (ed es (nt ss i)).b, _, aS, _, aS, hrow.snoc hx hxa, h.b _ (eK hx), by simp; omega, rfl, rfl, rfl, rfl⟩
 ·rintro ρ ⟨row, hr, t, u, ht, hu, hrow, hrn, hlen, rfl⟩
  simp
  exact ⟨row, rfl, hr, hrow, hrn, by simp at hlen; omega⟩
end VL.QQ
end
section
namespace VL.QQ
open VL PySem L2 PY K10 K11
theorem pV {a : Int} : ∀ {lv : Y0}, lv.Nodup → (lv.map fun p => if a = p then 1 else 0).sum ≤ 1
 | [], _ => by simp
 | p :: lv, nd => by
  obtain ⟨h1, h2⟩ := List.nodup_cons.mp nd
  rw [List.map_cons, List.sum_cons]
  by_cases q : a = p
  ·rw [if_pos q]
   have : (lv.map fun p => if a = p then 1 else 0).sum = 0 := by
    have e : (lv.map fun p => if a = p then 1 else 0) = lv.map fun _ => 0 := List.map_congr_left fun x hx => if_neg fun z => h1 (by rw [← q, z]; exact hx)
    rw [e]
    clear e h1 h2 nd
    induction lv with
    | nil => rfl
    | cons x xs ih => simpa using ih
   omega
  ·rw [if_neg q]
   have := pV (a := a) h2
   omega
def cA (es : List E) (p : Int) : Nat := (es.filter fun e => decide ((e.a : Int) = p)).length
theorem yK {lv : Y0} (nd : lv.Nodup) : ∀ es : List E, (lv.map (cA es)).sum ≤ es.length
 | [] => by
  have e : lv.map (cA []) = lv.map fun _ => 0 := rfl
  rw [e]
  clear e nd
  induction lv with
  | nil => simp
  | cons x xs ih => simpa using ih
 | e :: es => by
  have ih := yK nd es
  have e1 : (lv.map (cA (e :: es))).sum = (lv.map fun p => if (e.a : Int) = p then 1 else 0).sum + (lv.map (cA es)).sum := by
   clear nd ih
   induction lv with
   | nil => rfl
   | cons p lv ih2 =>
    rw [List.map_cons, List.map_cons, List.map_cons, List.sum_cons, List.sum_cons, List.sum_cons, ih2]
    have : cA (e :: es) p = (if (e.a : Int) = p then 1 else 0) + cA es p := by
     unfold cA
     by_cases q : (e.a : Int) = p
     ·rw [List.filter_cons_of_pos (by simpa using q), if_pos q, List.length_cons]; omega
     ·rw [List.filter_cons_of_neg (by simpa using q), if_neg q]; omega
    rw [this]; omega
  have := pV (a := (e.a : Int)) nd
  rw [List.length_cons]; omega
theorem aG4 {f : Int → Nat} {xs pre post : Y0} (e : xs = pre ++ post) : (pre.map f).sum ≤ (xs.map f).sum := by
 rw [e, List.map_append, List.sum_append]; omega
theorem aOo {xs : Y0} (h : UpI xs) : xs.Nodup := h.imp fun {a b} hab z => by omega
section
variable {n kd : Nat} {es : List E} {ps : Y0} {most : Y0} {ow : Y4} {num : T0} {L rk : Nat → Nat} {cnt r : Nat}
def vR (ps most : Y0) (e : E) : Prop := gt most e.a = e.c - gt ps e.k + gt most e.b
theorem xH : ∀ xs : T0, bY (NN xs) = some (xs.map fun k : Nat => (k : Int))
 | [] => rfl
 | x :: xs => by
  show (bY (NN xs)).map ((x : Int) :: ·) = _
  rw [xH xs]; rfl
theorem aG0 {o b : Bool} {xs : T0} (h : xs.length ≤ 18) : aH2 [(.lst o (NN xs), b)] = .ok (.lst true (I (sortI (xs.map fun k : Nat => (k : Int)))), true) := by
 show (match bY (NN xs) with | some ns => (if ns.length ≤ 18 then R.ok (D.lst true ((sortI ns).map .int), true) else .bad) | none => .bad) = _
 rw [xH]
 dsimp only
 rw [if_pos (by simpa using h)]; rfl
theorem aEw (h : OkM n kd es) (hpl : ps.length = kd) (M : MG2 n es (ov es ps) most ow none num L rk cnt r) {u : Nat} (hu : u < n) : Ret kB [dM n kd es, .lst false (I ps), .lst false (I most), .int (u : Int)] (.bl true) := by
 have B := M.bf
 have hnl : ∀ d ∈ num, d < es.length := fun d hd => ((M.nm d).mp hd).1
 have hbn : ∀ d ∈ num, (ed es d).b < n := fun d hd => h.b _ (eK (hnl d hd))
 have lt := wX hbn B.toBF hu
 obtain ⟨K, hKn, hKe, hKne⟩ := aEz hbn B (M.no rfl) hu
 have hn2 := h.n2
 have hls := h.ls
 refine pB ?_
 have er : zR ((n : Int) + 1) = .ok ((List.range (n + 1)).map fun i : Nat => D.int (i : Int)) := by
  rw [show (n : Int) + 1 = ((n + 1 : Nat) : Int) by omega]; exact eO (by omega)
 simp -implicitDefEqProofs [rN, entry, nI, er]
 refine bR (dI (fun pre ρ => ∃ (ls : Y0) (t5 t6 t7 t8 t9 t10 t11 : Slot), np t5 ∧ np t6 ∧ np t7 ∧ np t8 ∧ np t9 ∧ np t10 ∧ np t11 ∧ pre.length ≤ K ∧ ls.Nodup ∧ (∀ x ∈ ls, ∃ p : Nat, x = (p : Int) ∧ p < n) ∧ ((ch es ow u pre.length : Nat) : Int) ∈ ls ∧
  ρ = [.val (dM n kd es), .val (.lst false (I ps)), .val (.lst false (I most)), .val (nI u), .val (.lst true (I ls)), t5, t6, t7, t8, t9, t10, t11]) (List.range (n + 1)) ⟨[(u : Int)], _, _, _, _, _, _, _, bE, bE, bE, bE, bE, bE, bE, by simp, by simp, by simp; exact ⟨u, rfl, hu⟩, by simp [ch], rfl⟩ ?_) ?_
 ·rintro pre j post ρ e ⟨ls, t5, t6, t7, t8, t9, t10, t11, h5, h6, h7, h8, h9, h10, h11, hK, nd, hlt, hin, rfl⟩
  simp -implicitDefEqProofs [h5, h6]
  refine bR (dI (fun (pre2 : Y0) ρ => ∃ (later : T0) (t7 t8 t9 t10 t11 : Slot), np t7 ∧ np t8 ∧ np t9 ∧ np t10 ∧ np t11 ∧ later.length ≤ (pre2.map (cA es)).sum ∧ (∀ x ∈ later, x < n) ∧ (∀ p ∈ pre2, (∀ q : Nat, p = (q : Int) → gt most q ≠ 0) ∧ ∀ e ∈ es, (e.a : Int) = p → vR ps most e → e.b ∈ later) ∧
   ρ = [.val (dM n kd es), .val (.lst false (I ps)), .val (.lst false (I most)), .val (nI u), .val (.lst false (I ls)), .val (nI j), .val (.lst true (NN later)), t7, t8, t9, t10, t11]) ls ⟨[], t7, t8, t9, t10, t11, h7, h8, h9, h10, h11, by simp, by simp, by simp, rfl⟩ ?_) ?_
  ·rintro pre2 x post2 ρ e2 ⟨later, t7, t8, t9, t10, t11, h7, h8, h9, h10, h11, hll, hlater, hpre, rfl⟩
   obtain ⟨p, rfl, hp⟩ := hlt x (by rw [e2]; simp)
   have y0 := kP (o := false) (xs := most) (b := false) (c := false) (show p < most.length by rw [B.lm]; exact hp)
   by_cases hz : gt most p = 0
   ·simp -implicitDefEqProofs [h7, y0, hz]
   ·simp -implicitDefEqProofs [h7, y0, hz]
    have hsum : ((pre2 ++ [(p : Int)]).map (cA es)).sum = (pre2.map (cA es)).sum + cA es p := by simp
    have htot : ((pre2 ++ [(p : Int)]).map (cA es)).sum ≤ 18 := by
     have := aG4 (f := cA es) (xs := ls) (pre := pre2 ++ [(p : Int)]) (post := post2) (by rw [e2]; simp)
     have := yK nd es
     omega
    refine nC (dI (fun (pre3 : List E) ρ => ∃ (later' : T0) (t8 t9 t10 t11 : Slot), np t8 ∧ np t9 ∧ np t10 ∧ np t11 ∧ later'.length ≤ later.length + cA pre3 p ∧ (∀ x ∈ later, x ∈ later') ∧ (∀ x ∈ later', x < n) ∧ (∀ e ∈ pre3, (e.a : Int) = (p : Int) → vR ps most e → e.b ∈ later') ∧
     ρ = [.val (dM n kd es), .val (.lst false (I ps)), .val (.lst false (I most)), .val (nI u), .val (.lst false (I ls)), .val (nI j), .val (.lst true (NN later')), .val (nI p), t8, t9, t10, t11]) es ⟨later, t8, t9, t10, t11, h8, h9, h10, h11, by simp, fun _ hx => hx, hlater, by simp, rfl⟩ ?_) ?_ (fun _ hx => hx)
    ·rintro pre3 en post3 ρ e3 ⟨later', t8, t9, t10, t11, h8, h9, h10, h11, hl3, hsub, hlt3, htg, rfl⟩
     have he : en ∈ es := by rw [e3]; simp
     have y1 := kP (o := false) (xs := most) (b := false) (c := false) (show en.a < most.length by rw [B.lm]; exact h.a en he)
     have y2 := kP (o := false) (xs := most) (b := false) (c := false) (show en.b < most.length by rw [B.lm]; exact h.b en he)
     have y3 := kP (o := false) (xs := ps) (b := false) (c := false) (show en.k < ps.length by rw [hpl]; exact h.k en he)
     have hcA : cA (pre3 ++ [en]) p = cA pre3 p + if (en.a : Int) = (p : Int) then 1 else 0 := by
      unfold cA
      rw [List.filter_append, List.length_append]
      by_cases q : (en.a : Int) = (p : Int)
      ·rw [if_pos q]; simp [q]
      ·rw [if_neg q]; simp [q]
     by_cases q1 : (en.a : Int) = (p : Int)
     ·by_cases q2 : vR ps most en
      ·have q2' : gt most en.a = en.c - gt ps en.k + gt most en.b := q2
       have hl4 : later'.length < 1000000 := by
        have h1 : cA pre3 p ≤ es.length := by
         unfold cA
         have := List.length_filter_le (fun e : E => decide ((e.a : Int) = (p : Int))) pre3
         have := congrArg List.length e3
         simp at this; omega
        have h2 : (pre2.map (cA es)).sum ≤ 18 := by omega
        omega
       have q3 : ((en.a : Int) = (p : Int)) = True := eq_true q1
       have q4 : (gt most en.a = en.c - gt ps en.k + gt most en.b) = True := eq_true q2'
       simp -implicitDefEqProofs [h8, h9, h10, h11, nI, q3, y1, y2, y3, q4, hl4]
       refine ⟨later' ++ [en.b], _, aS, _, aS, _, aS, _, aS, ?_, fun x hx => List.mem_append_left _ (hsub x hx), fun x hx => ?_, fun e' he' hea htt => ?_, rfl, rfl, rfl, rfl, rfl⟩
       ·rw [hcA, if_pos q1, List.length_append]; simp; omega
       ·rcases List.mem_append.mp hx with z | z
        ·exact hlt3 x z
        ·simp at z; rw [z]; exact h.b en he
       ·rcases he' with z | z
        ·exact List.mem_append_left _ (htg e' z (by omega) htt)
        ·rw [z]; simp
      ·have q4 : (gt most en.a = en.c - gt ps en.k + gt most en.b) = False := eq_false q2
       have q3 : ((en.a : Int) = (p : Int)) = True := eq_true q1
       simp -implicitDefEqProofs [h8, h9, h10, h11, nI, q3, y1, y2, y3, q4]
       refine ⟨later', _, aS, _, aS, _, aS, _, aS, by rw [hcA]; omega, hsub, hlt3, fun e' he' hea htt => ?_, rfl, rfl, rfl, rfl, rfl⟩
       rcases he' with z | z
       ·exact htg e' z (by omega) htt
       ·rw [z] at htt; exact absurd htt q2
     ·have q3 : ((en.a : Int) = (p : Int)) = False := eq_false q1
      simp -implicitDefEqProofs [h8, h9, h10, h11, nI, q3]
      refine ⟨later', _, aS, _, aS, _, aS, _, aS, by rw [hcA]; omega, hsub, hlt3, fun e' he' hea htt => ?_, rfl, rfl, rfl, rfl, rfl⟩
      rcases he' with z | z
      ·exact htg e' z (by omega) htt
      ·rw [z] at hea; exact absurd (by omega) q1
    ·rintro ρ ⟨later', t8, t9, t10, t11, h8, h9, h10, h11, hl3, hsub, hlt3, htg, rfl⟩
     refine ⟨later', _, aS, t8, h8, t9, h9, t10, h10, t11, h11, by omega, hlt3, fun p' hp' => ?_, rfl⟩
     rcases hp' with z | z
     ·exact ⟨(hpre p' z).1, fun e he hea htt => hsub _ ((hpre p' z).2 e he hea htt)⟩
     ·subst z
      refine ⟨fun q hq => ?_, htg⟩
      have : p = q := by omega
      rw [← this]; exact hz
  ·rintro ρ ⟨later, t7, t8, t9, t10, t11, h7, h8, h9, h10, h11, hll, hlater, hpre, rfl⟩
   have h18 : later.length ≤ 18 := by have := yK nd es; omega
   have hx := hpre _ hin
   have hnz := hx.1 _ rfl
   cases eo : og ow (ch es ow u pre.length) with
   | none => exact absurd (B.zz _ eo) hnz
   | some d =>
    obtain ⟨o1, o2, o3, _⟩ := B.on _ d eo
    have hrel := M.no rfl d o1
    unfold Rel at hrel
    have ht : vR ps most (ed es d) := by
     unfold vR
     rw [uE (hnl d o1)] at hrel o3
     rw [← o2] at o3
     omega
    have hmem := hx.2 (ed es d) (eK (hnl d o1)) (by rw [o2]) ht
    have ec : ch es ow u (pre.length + 1) = (ed es d).b := by show nx es ow _ = _; rw [gN eo]
    have hK1 : pre.length + 1 ≤ K := by
     rcases Nat.lt_or_ge pre.length K with z | z
     ·exact z
     ·have : pre.length = K := by omega
      rw [this] at eo; rw [hKe] at eo; cases eo
    simp -implicitDefEqProofs [aG0 h18]
    refine ⟨sortI (later.map fun k : Nat => (k : Int)), _, aS, _, aS, t7, h7, t8, h8, t9, h9, t10, h10, t11, h11, hK1, aOo (rJ _), fun x hx' => ?_, ?_, rfl, rfl, rfl, rfl, rfl, rfl, rfl, rfl⟩
    ·obtain ⟨q, hq, rfl⟩ := List.mem_map.mp (lF.mp hx')
     exact ⟨q, rfl, hlater q hq⟩
    ·rw [ec]; exact lF.mpr (List.mem_map_of_mem hmem)
 ·rintro ρ ⟨ls, t5, t6, t7, t8, t9, t10, t11, h5, h6, h7, h8, h9, h10, h11, hK, nd, hlt, hin, rfl⟩
  simp at hK
  omega
end
end VL.QQ
end
section
namespace VL.QQ
open VL PySem L2 PY K10 K11
def su1 : aU := (aY 1 (xOf (bC iK (aD (aB 0) (aD (vC (.int 0)) (aD (vC (.int 7)) aM))))))
def su2 : aU := (aY 2 (xOf (cB (iR1 (aD (v2 kIx (aB 1) (vC (.int 1))) aM)) 1 [0] (bA 0) dD (v2 kIx (iX (aD (vC (.int 0)) (aD (vC (.int 1)) (aD (vC (.int 2)) (aD (vC (.int 3)) (aD (vC (.int 5)) (aD (vC (.int 9)) aM))))))) (v2 kS (bC cU (aD (aB 1) (aD (v2 bU (vC (.int 30)) (aB 0)) aM))) (vC (.int 6)))))))
def su3 : aU := (mU [2] (aY 3 (dS fU (aD (aB 1) (aD (vCB tH (aD (aB 2) aM)) aM)))))
def su4 : aU := (sIf (kN (dJ (eW (v1 (iE "tuple") (aB 3)))) (aV (v2 (kIn true) (v2 kIx (aB 3) (vC (.int 0))) (rL (aD (vC (.str "purse")) (aD (vC (.str "row")) aM)))))) (cO (xOf (vC (.bl false)))) bI)
def su5 : aU := (sIf (aV (v2 (kEq false) (v2 kIx (aB 3) (vC (.int 0))) (vC (.str "row")))) (aN (gH [4, 5, 6, 7] (xOf (aB 3))) (cO (dS nA (aD (aB 1) (aD (aB 2) (aD (aB 5) (aD (aB 6) (aD (aB 7) aM)))))))) bI)
def su6 : aU := (aY 8 (xOf (v2 kIx (aB 3) (vC (.int 1)))))
def su7 : aU := (sIf (kN (dJ (eW (v1 (iE "list") (aB 8)))) (dJ (eW (bC vD (aD (aB 1) (aD (aB 2) (aD (aB 8) aM))))))) (cO (xOf (vC (.bl false)))) bI)
def su8 : aU := (aY 9 (xOf (bC iG (aD (aB 1) aM))))
@[irreducible] def su9 : aU := (fI (iR1 (aD (v2 kIx (aB 1) (vC (.int 0))) aM)) (bA 10) (aN (sIf (kN (dJ (eW (bC lC (aD (v2 kIx (aB 8) (aB 10)) aM)))) (jH (aV (v2 (kIn true) (aB 10) (aB 9))) (aV (v2 (kEq true) (v2 kIx (aB 8) (aB 10)) (vC (.int 0)))))) (cO (xOf (vC (.bl false)))) bI) (sIf (dJ (eW (bC kB (aD (aB 1) (aD (aB 2) (aD (aB 8) (aD (aB 10) aM))))))) (cO (xOf (vC (.bl false)))) bI)))
def aJs : aU := (fI (iR1 (aD (vC (.int 6)) aM)) (bA 11) (aN (aY 12 (xOf (bC nQ (aD (aB 0) (aD (v2 bU (vC (.int 40)) (v2 jW (vC (.int 12)) (aB 11))) (aD (aB 1) (aD (vC (.int 10)) aM))))))) (aN (aY 13 (xOf (vC (.int 0)))) (aN (aY 14 (xOf (vC (.int 0)))) (aN (mU [12] (fI (kA (aB 12)) (bA 15) (aN (gH [16, 17, 14, 18] (xOf (v2 kIx (v2 kIx (aB 1) (vC (.int 2))) (aB 15)))) (aY 13 (xOf (v2 sA (v2 bU (aB 13) (v2 kIx (aB 2) (aB 17))) (aB 18))))))) (sIf (aV (v2 kLt (aB 13) (v2 kIx (aB 8) (aB 14)))) (cO (xOf (vC (.bl false)))) bI))))))
def aNa : aU := (cO (xOf (vC (.bl true))))
theorem aF6 : K11.b_law = (aN su1 (aN su2 (aN su3 (aN su4 (aN su5 (aN su6 (aN su7 (aN su8 (aN su9 (aN aJs aNa)))))))))) := by unfold su9; rfl
end VL.QQ
end
section
namespace VL.QQ
open VL PySem L2 PY K10 K11
def pk6 (v : Int) : Int := ([0, 1, 2, 3, 5, 9] : Y0).getD v.toNat 0
theorem aI8 {v : Int} : atI [D.int 0, D.int 1, D.int 2, D.int 3, D.int 5, D.int 9] (v % 6) = some (.int (pk6 (v % 6))) ∧ 0 ≤ pk6 (v % 6) ∧ pk6 (v % 6) ≤ 1000 := by
 obtain ⟨k, hk, e⟩ : ∃ k : Nat, k < 6 ∧ v % 6 = (k : Int) := ⟨(v % 6).toNat, by omega, by omega⟩
 rw [e, eD]
 match k, hk with
 | 0, _ => exact ⟨rfl, by decide, by decide⟩
 | 1, _ => exact ⟨rfl, by decide, by decide⟩
 | 2, _ => exact ⟨rfl, by decide, by decide⟩
 | 3, _ => exact ⟨rfl, by decide, by decide⟩
 | 4, _ => exact ⟨rfl, by decide, by decide⟩
 | 5, _ => exact ⟨rfl, by decide, by decide⟩
theorem aQ8 {b c : Bool} : kIn true (.str "row", b) (.tup [.str "purse", .str "row"], c) = .ok (.bl false, true) := by
 show (if oQ (.str "row") [.str "purse", .str "row"] = true then R.ok (D.bl (!inD (.str "row") [.str "purse", .str "row"]), true) else .bad) = _
 rw [if_pos (by decide +kernel), show inD (.str "row") [.str "purse", .str "row"] = true by decide +kernel]; rfl
theorem aQt {b c : Bool} : kIn true (.str "purse", b) (.tup [.str "purse", .str "row"], c) = .ok (.bl false, true) := by
 show (if oQ (.str "purse") [.str "purse", .str "row"] = true then R.ok (D.bl (!inD (.str "purse") [.str "purse", .str "row"]), true) else .bad) = _
 rw [if_pos (by decide +kernel), show inD (.str "purse") [.str "purse", .str "row"] = true by decide +kernel]; rfl
@[simp] theorem aMo {is : T0} {f : aQ} {ρ : Env} : gH is (xOf f) ρ = kF (f ρ) fun d _ => match d with | .tup ds => (match cQ is ds ρ with | some ρ2 => .next ρ2 | none => .bad) | _ => .bad := by
 unfold gH xOf kF
 cases f ρ with
 | ok x => obtain ⟨d, b⟩ := x; cases d <;> rfl
 | exc c => rfl
 | bad => rfl
@[simp] theorem aPp {fn : Fn} {g : dC} {ρ : Env} : cO (dS fn g) ρ = onA (g ρ) fun xs => pA fn (D.frzs (xs.map (·.1))) (xs.all aL) ρ fun d => .ret d ρ := by
 unfold cO dS onA pA
 cases g ρ with
 | ok xs =>
  dsimp only
  cases fn (D.frzs (xs.map (·.1))) with
  | ok y => by_cases hk : (xs.all aL || isScal y.1) = true <;> simp [hk]
  | exc c => rfl
  | bad => rfl
 | exc _ => rfl
 | bad => rfl
theorem tG (i : Int) : Ret lC [.int i] (.bl true) := by
 refine pP ⟨[.val (.int i)], ?_⟩
 simp [uC, entry, iE, mL, zX]
theorem Lk.split {es : List E} : ∀ {r1 : T0} {u v : Nat} {r2 : T0}, Lk es u (r1 ++ r2) v → ∃ w, Lk es u r1 w ∧ Lk es w r2 v
 | [], u, v, r2, h => ⟨u, rfl, h⟩
 | d :: ds, u, v, r2, h => by
  obtain ⟨w, h1, h2⟩ := Lk.split (r1 := ds) h.2.2
  exact ⟨w, ⟨h.1, h.2.1, h1⟩, h2⟩
abbrev MM (n kd : Nat) (es : List E) : Slot := .val (dM n kd es)
abbrev PP (ps : Y0) : Slot := .val (.lst false (I ps))
abbrev FD : D → Prop := fun d => d = .bl true
section
variable {ns : Y0} {n kd : Nat} {es : List E} {ps : Y0} {most : Y0} {ow : Y4} {num : T0} {L rk : Nat → Nat} {cnt r : Nat} {T : D}
abbrev U9 : List Slot := [.un, .un, .un, .un, .un, .un, .un, .un, .un]
theorem gg9 (h : OkM n kd es) (hpl : ps.length = kd) (M : MG2 n es (ov es ps) most ow none num L rk cnt r) {pl : T0} (hpr : ∀ p, p ∈ pl ↔ Reach es p) :
  out (su9 [SS ns, MM n kd es, PP ps, .val T, .un, .un, .un, .un, PP most, .val (.lst true (NN pl)), .un, .un, .un, .un, .un, .un, .un, .un, .un]) (fun ρ => ∃ t, np t ∧ ρ = [SS ns, MM n kd es, PP ps, .val T, .un, .un, .un, .un, PP most, .val (.lst true (NN pl)), t, .un, .un, .un, .un, .un, .un, .un, .un]) FD := by
 have hn2 := h.n2
 simp -implicitDefEqProofs [su9, nI, eO (show n ≤ 1000000 by omega)]
 refine nC (dI (fun pre ρ => ∃ t, np t ∧ ρ = [SS ns, MM n kd es, PP ps, .val T, .un, .un, .un, .un, PP most, .val (.lst true (NN pl)), t, .un, .un, .un, .un, .un, .un, .un, .un]) (List.range n) ⟨_, bE, rfl⟩ ?_) (fun _ hx => hx) (fun _ hx => hx)
 rintro pre p post ρ e ⟨t, ht, rfl⟩
 have hp : p < n := List.mem_range.mp (by rw [e]; simp)
 have y0 := kP (o := false) (xs := most) (b := false) (c := false) (show p < most.length by rw [M.bf.lm]; exact hp)
 have hw := aEw h hpl M hp
 by_cases q : p ∈ pl
 ·simp -implicitDefEqProofs [ht, y0, iL (tG (gt most p)) rfl, dF, fZ, aA0, q, iL hw rfl]
 ·have hz := zV M fun z => q ((hpr p).mpr z)
  rw [hz] at y0
  simp -implicitDefEqProofs [ht, y0, iL (tG 0) rfl, dF, fZ, aA0, q, iL hw rfl]
theorem aQc (h : OkM n kd es) (hpl : ps.length = kd) (M : MG2 n es (ov es ps) most ow none num L rk cnt r) (h0 : gt most 0 = 0) {pl : T0} {t : Slot} :
  out (aJs [SS ns, MM n kd es, PP ps, .val T, .un, .un, .un, .un, PP most, .val (.lst true (NN pl)), t, .un, .un, .un, .un, .un, .un, .un, .un]) (fun ρ => True) FD := by
 have e6 : zR 6 = .ok ((List.range 6).map fun i : Nat => D.int (i : Int)) := eO (n := 6) (by omega)
 simp -implicitDefEqProofs [aJs, e6]
 refine nC (dI (fun pre ρ => ∃ t11 t12 t13 t14 t15 t16 t17 t18, np t11 ∧ np t12 ∧ np t13 ∧ np t14 ∧ np t15 ∧ np t16 ∧ np t17 ∧ np t18 ∧ ρ = [SS ns, MM n kd es, PP ps, .val T, .un, .un, .un, .un, PP most, .val (.lst true (NN pl)), t, t11, t12, t13, t14, t15, t16, t17, t18]) (List.range 6) ⟨_, _, _, _, _, _, _, _, bE, bE, bE, bE, bE, bE, bE, bE, rfl⟩ ?_) (fun _ _ => trivial) (fun _ hx => hx)
 rintro pre k post ρ e ⟨t11, t12, t13, t14, t15, t16, t17, t18, h11, h12, h13, h14, h15, h16, h17, h18, rfl⟩
 have hk : k < 6 := List.mem_range.mp (by rw [e]; simp)
 obtain ⟨d, hd, row, v, rfl, hrow, hvn, hlen⟩ := aJn (ns := ns) (k0 := 40 + 12 * k) (most := 10) h (by omega) (by omega)
 have hd : Ret nQ [.lst false (I ns), .int (40 + 12 * (k : Int)), dM n kd es, .int 10] (.lst true (NN row)) := by
  rw [show ((40 + 12 * k : Nat) : Int) = 40 + 12 * (k : Int) by omega] at hd; exact hd
 have f12 : fits 12 = true := bQ (by decide) (by decide)
 have fk : fits (k : Int) = true := bQ (by omega) (by omega)
 simp -implicitDefEqProofs [h11, h12, h13, h14, f12, fk, aZ hd]
 refine bR (dI (fun (pre2 : T0) ρ => ∃ (w : Nat) (t15 t16 t17 t18 : Slot), np t15 ∧ np t16 ∧ np t17 ∧ np t18 ∧ Lk es 0 pre2 w ∧ ρ = [SS ns, MM n kd es, PP ps, .val T, .un, .un, .un, .un, PP most, .val (.lst true (NN pl)), t, .val (nI k), .val (.lst false (NN row)), .val (.int (-(gn es ps pre2))), .val (nI w), t15, t16, t17, t18]) row ⟨0, t15, t16, t17, t18, h15, h16, h17, h18, rfl, by simp [gn]⟩ ?_) ?_
 ·rintro pre2 x post2 ρ e2 ⟨w, t15, t16, t17, t18, h15, h16, h17, h18, hl2, rfl⟩
  have hlk := hrow
  rw [e2] at hlk
  obtain ⟨w', g1, g2⟩ := hlk.split
  obtain ⟨hx, hxa, _⟩ := g2
  have y3 := kP (o := false) (xs := ps) (b := false) (c := false) (show (ed es x).k < ps.length by rw [hpl]; exact h.k _ (eK hx))
  have hgs : gn es ps (pre2 ++ [x]) = gn es ps pre2 + ((ed es x).c - gt ps (ed es x).k) := by rw [aHn, uE hx]
  simp -implicitDefEqProofs [h15, h16, h17, h18, nI, fL hx, E.d, y3]
  refine ⟨(ed es x).b, _, aS, _, aS, _, aS, _, aS, g1.snoc hx hxa, by rw [hgs]; omega, rfl, rfl, rfl, rfl, rfl⟩
 ·rintro ρ ⟨w, t15, t16, t17, t18, h15, h16, h17, h18, hl2, rfl⟩
  have hle := yF h M hl2 .zero
  rw [h0] at hle
  have hwn : w < n := by
   have hb : ∀ (row : T0) (u w : Nat), u < n → Lk es u row w → w < n := by
    intro row
    induction row with
    | nil => intro u w hu hl; cases hl; exact hu
    | cons d ds ih => intro u w hu hl; exact ih _ _ (h.b _ (eK hl.1)) hl.2.2
   exact hb row 0 w (by have := h.n1; omega) hl2
  have y0 := kP (o := false) (xs := most) (b := false) (c := false) (show w < most.length by rw [M.bf.lm]; exact hwn)
  have hnl : ¬ -(gn es ps row) < gt most w := by omega
  simp -implicitDefEqProofs [y0, hnl, nI]
  exact ⟨_, aS, _, aS, _, aS, _, aS, t15, h15, t16, h16, t17, h17, t18, h18, rfl, rfl, rfl, rfl, rfl, rfl, rfl, rfl⟩
end
end VL.QQ
end
section
namespace VL.QQ
open VL PySem L2 PY K10 K11
theorem ps6 {ns : Y0} {kd : Nat} : prB kd ((List.range kd).map fun k => pk6 (gW ns (30 + k) % 6)) = true := by
 unfold prB
 rw [Bool.and_eq_true]
 refine ⟨by simp, ?_⟩
 rw [List.all_eq_true]
 intro x hx
 obtain ⟨k, _, rfl⟩ := List.mem_map.mp hx
 have := (aI8 (v := gW ns (30 + k))).2
 rw [Bool.and_eq_true, decide_eq_true_eq, decide_eq_true_eq]
 exact this
theorem law_ok2 {ns : Y0} : Ret K11.f_law [.lst false (I ns)] (.bl true) := by
 refine pB ?_
 obtain ⟨dm, hm, n, kd, es, rfl, h, hk3⟩ := aBu (ns := ns)
 have hn1 := h.n1
 have hn2 := h.n2
 have hk1 := h.k1
 generalize eps : ((List.range kd).map fun k => pk6 (gW ns (30 + k) % 6)) = ps
 have hp : prB kd ps = true := by rw [← eps]; exact ps6
 have hpl : ps.length = kd := by rw [← eps]; simp
 have hpl' : ps.length ≤ 1000 := by omega
 obtain ⟨T, hT, hTold⟩ := qZ h hp hpl'
 rw [aF6]
 have e0 : entry 19 [.lst false (I ns)] = [SS ns, .un, .un, .un, .un, .un, .un, .un, .un, .un] ++ U9 := by simp [entry, SS]
 rw [e0]
 have a1 : su1 ([SS ns, .un, .un, .un, .un, .un, .un, .un, .un, .un] ++ U9) = .next ([SS ns, MM n kd es, .un, .un, .un, .un, .un, .un, .un, .un] ++ U9) := by
  simp -implicitDefEqProofs [su1, aZ hm]
 rw [fG, a1, cT]
 have c2 : cB (iR1 (aD (v2 kIx (aB 1) (vC (.int 1))) aM)) 1 [0] (bA 0) dD (v2 kIx (iX (aD (vC (.int 0)) (aD (vC (.int 1)) (aD (vC (.int 2)) (aD (vC (.int 3)) (aD (vC (.int 5)) (aD (vC (.int 9)) aM))))))) (v2 kS (bC cU (aD (aB 1) (aD (v2 bU (vC (.int 30)) (aB 0)) aM))) (vC (.int 6)))) ([SS ns, MM n kd es, .un, .un, .un, .un, .un, .un, .un, .un] ++ U9) = .ok (.lst true (I ps), true) := by
  rw [mF [SS ns] (List.range kd) nI (fun k => D.int (pk6 (gW ns (30 + k) % 6))) (fun _ => true) (by simp -implicitDefEqProofs [nI, eO (show kd ≤ 1000000 by omega)]) (by simp; omega) (by simp [jJ, SS]) ?_ (.inr fun _ _ => rfl)]
  ·rw [← eps]; simp [I]
  ·intro k hk
   have hk' := List.mem_range.mp hk
   have mj : Ret cU [.lst false (I ns), .int (30 + (k : Int))] (.int (gW ns (30 + k))) := by
    have := pR (ns := ns) (k := 30 + k) (by omega)
    rwa [show ((30 + k : Nat) : Int) = 30 + (k : Int) by omega] at this
   refine ⟨?_, rfl⟩
   simp -implicitDefEqProofs [SS, nI, aZ mj, (aI8 (v := gW ns (30 + k))).1]
 have a2 : su2 ([SS ns, MM n kd es, .un, .un, .un, .un, .un, .un, .un, .un] ++ U9) = .next ([SS ns, MM n kd es, .val (.lst true (I ps)), .un, .un, .un, .un, .un, .un, .un] ++ U9) := by
  unfold su2
  rw [aJ7, c2]
  simp -implicitDefEqProofs
 rw [fG, a2, cT]
 have a3 : su3 ([SS ns, MM n kd es, .val (.lst true (I ps)), .un, .un, .un, .un, .un, .un, .un] ++ U9) = .next ([SS ns, MM n kd es, PP ps, .val T, .un, .un, .un, .un, .un, .un] ++ U9) := by
  simp -implicitDefEqProofs [su3, bM hT]
 rw [fG, a3, cT]
 cases hTold with
 | row way ring many v g1 g2 g3 g4 g5 g6 g7 =>
  obtain ⟨pl, hg, hb⟩ := aGt g1 g2 g5 g7
  have hbr := aC4 (ps := ps) h hp hpl' g1.lt g2.lt g3 g4 g6 hg
  rw [hb] at hbr
  simp -implicitDefEqProofs [su4, su5, iE, mL, zX, dF, fZ, uM, aQ8, aNv, bM hbr]
 | purse most ow num L rk cnt r M h0 =>
  have hpay := aJj (purse := most) h hp hpl'
  rw [aEk h M h0] at hpay
  obtain ⟨d, hd, pl, rfl, hpr⟩ := vQ h
  have a4 : su4 ([SS ns, MM n kd es, PP ps, .val (.tup [.str "purse", .lst false (I most)]), .un, .un, .un, .un, .un, .un] ++ U9) = .next ([SS ns, MM n kd es, PP ps, .val (.tup [.str "purse", .lst false (I most)]), .un, .un, .un, .un, .un, .un] ++ U9) := by
   simp -implicitDefEqProofs [su4, iE, mL, zX, dF, fZ, uM, aQt]
  rw [fG, a4, cT]
  have a5 : su5 ([SS ns, MM n kd es, PP ps, .val (.tup [.str "purse", .lst false (I most)]), .un, .un, .un, .un, .un, .un] ++ U9) = .next ([SS ns, MM n kd es, PP ps, .val (.tup [.str "purse", .lst false (I most)]), .un, .un, .un, .un, .un, .un] ++ U9) := by
   simp -implicitDefEqProofs [su5, uM, aN6]
  rw [fG, a5, cT]
  have a6 : su6 ([SS ns, MM n kd es, PP ps, .val (.tup [.str "purse", .lst false (I most)]), .un, .un, .un, .un, .un, .un] ++ U9) = .next ([SS ns, MM n kd es, PP ps, .val (.tup [.str "purse", .lst false (I most)]), .un, .un, .un, .un, PP most, .un] ++ U9) := by
   simp -implicitDefEqProofs [su6, aB6]
  rw [fG, a6, cT]
  have a7 : su7 ([SS ns, MM n kd es, PP ps, .val (.tup [.str "purse", .lst false (I most)]), .un, .un, .un, .un, PP most, .un] ++ U9) = .next ([SS ns, MM n kd es, PP ps, .val (.tup [.str "purse", .lst false (I most)]), .un, .un, .un, .un, PP most, .un] ++ U9) := by
   simp -implicitDefEqProofs [su7, dF, fZ, aZ hpay]
  rw [fG, a7, cT]
  have a8 : su8 ([SS ns, MM n kd es, PP ps, .val (.tup [.str "purse", .lst false (I most)]), .un, .un, .un, .un, PP most, .un] ++ U9) = .next ([SS ns, MM n kd es, PP ps, .val (.tup [.str "purse", .lst false (I most)]), .un, .un, .un, .un, PP most, .val (.lst true (NN pl))] ++ U9) := by
   simp -implicitDefEqProofs [su8, aZ hd]
  rw [fG, a8, cT]
  have q9 := gg9 (ns := ns) (T := .tup [.str "purse", .lst false (I most)]) h hpl M hpr
  rw [fG]
  show out ((su9 [SS ns, MM n kd es, PP ps, .val (.tup [.str "purse", .lst false (I most)]), .un, .un, .un, .un, PP most, .val (.lst true (NN pl)), .un, .un, .un, .un, .un, .un, .un, .un, .un]).andThen _) _ _
  refine bR q9 ?_
  rintro ρ ⟨t, ht, rfl⟩
  have q10 := aQc (ns := ns) (T := .tup [.str "purse", .lst false (I most)]) (pl := pl) (t := t) h hpl M h0
  rw [fG]
  refine bR q10 ?_
  intro ρ _
  simp [aNa]
end VL.QQ
namespace VL.K11
open VL
theorem aO0 {ns : Y0} : ∃ os, f_law [.lst false (ns.map D.int)] = .ok (.bl true, os) := QQ.law_ok2
end VL.K11
end
section
namespace VL.K11
open VL PySem PySem.Spec PyProof.Rows L2 PY K10
abbrev FO (n : Str) (t : Stmt) (kV dc pm : Value) (an : Option Addr) (cd ct : Value) := W.fnOf n n (iI t) (fF t) (aK t) .none kV dc pm an cd ct
theorem all_mk {P : Program} {w : World} {K : W.Frag} {h : Heap} {mg : Y6} {fa : Addr} (X : K.In h) (G : h.Ns mainGlobals mg) (hfa : mg "law" = some (.ref fa))
  {t0 t1 t2 t3 t4 : Tok}
  (a0 : W.nsIn K mainGlobals "is_whole" = some (some (.ref f0))) (l0 : K.lookup f0 = some ⟨oc0, od0, .func (FO "is_whole" (top 6) kV0 dc0 pm0 an0 cd0 ct0), sl0⟩) (c0 : W.codeIn K cd0 "is_whole" = true) (k0 : W.keepIn K (.ref f0) = true)
  (a1 : W.nsIn K mainGlobals "is_between" = some (some (.ref f1))) (l1 : K.lookup f1 = some ⟨oc1, od1, .func (FO "is_between" (top 7) kV1 dc1 pm1 an1 cd1 ct1), sl1⟩) (c1 : W.codeIn K cd1 "is_between" = true) (k1 : W.keepIn K (.ref f1) = true)
  (a2 : W.nsIn K mainGlobals "is_deed" = some (some (.ref f2))) (l2 : K.lookup f2 = some ⟨oc2, od2, .func (FO "is_deed" (top 13) kV2 dc2 pm2 an2 cd2 ct2), sl2⟩) (c2 : W.codeIn K cd2 "is_deed" = true) (k2 : W.keepIn K (.ref f2) = true)
  (a3 : W.nsIn K mainGlobals "look_deeds" = some (some (.ref f3))) (l3 : K.lookup f3 = some ⟨oc3, od3, .func (FO "look_deeds" (top 14) kV3 dc3 pm3 an3 cd3 ct3), sl3⟩) (c3 : W.codeIn K cd3 "look_deeds" = true) (k3 : W.keepIn K (.ref f3) = true)
  (a4 : W.nsIn K mainGlobals "look_machine" = some (some (.ref f4))) (l4 : K.lookup f4 = some ⟨oc4, od4, .func (FO "look_machine" (top 15) kV4 dc4 pm4 an4 cd4 ct4), sl4⟩) (c4 : W.codeIn K cd4 "look_machine" = true) (k4 : W.keepIn K (.ref f4) = true)
  (a5 : W.nsIn K mainGlobals "gone" = some (some (.ref f5))) (l5 : K.lookup f5 = some ⟨oc5, od5, .func (FO "gone" (top 16) kV5 dc5 pm5 an5 cd5 ct5), sl5⟩) (c5 : W.codeIn K cd5 "gone" = true) (k5 : W.keepIn K (.ref f5) = true)
  (a6 : W.nsIn K mainGlobals "deeds_from" = some (some (.ref f6))) (l6 : K.lookup f6 = some ⟨oc6, od6, .func (FO "deeds_from" (top 17) kV6 dc6 pm6 an6 cd6 ct6), sl6⟩) (c6 : W.codeIn K cd6 "deeds_from" = true) (k6 : W.keepIn K (.ref f6) = true)
  (a7 : W.nsIn K mainGlobals "came_by" = some (some (.ref f7))) (l7 : K.lookup f7 = some ⟨oc7, od7, .func (FO "came_by" (top 18) kV7 dc7 pm7 an7 cd7 ct7), sl7⟩) (c7 : W.codeIn K cd7 "came_by" = true) (k7 : W.keepIn K (.ref f7) = true)
  (a8 : W.nsIn K mainGlobals "reached" = some (some (.ref f8))) (l8 : K.lookup f8 = some ⟨oc8, od8, .func (FO "reached" (top 19) kV8 dc8 pm8 an8 cd8 ct8), sl8⟩) (c8 : W.codeIn K cd8 "reached" = true) (k8 : W.keepIn K (.ref f8) = true)
  (a9 : W.nsIn K mainGlobals "gain_of" = some (some (.ref f9))) (l9 : K.lookup f9 = some ⟨oc9, od9, .func (FO "gain_of" (top 21) kV9 dc9 pm9 an9 cd9 ct9), sl9⟩) (c9 : W.codeIn K cd9 "gain_of" = true) (k9 : W.keepIn K (.ref f9) = true)
  (a10 : W.nsIn K mainGlobals "way_to" = some (some (.ref f10))) (l10 : K.lookup f10 = some ⟨oc10, od10, .func (FO "way_to" (top 22) kV10 dc10 pm10 an10 cd10 ct10), sl10⟩) (c10 : W.codeIn K cd10 "way_to" = true) (k10 : W.keepIn K (.ref f10) = true)
  (a11 : W.nsIn K mainGlobals "row_onward" = some (some (.ref f11))) (l11 : K.lookup f11 = some ⟨oc11, od11, .func (FO "row_onward" (top 23) kV11 dc11 pm11 an11 cd11 ct11), sl11⟩) (c11 : W.codeIn K cd11 "row_onward" = true) (k11 : W.keepIn K (.ref f11) = true)
  (a12 : W.nsIn K mainGlobals "ring_onward" = some (some (.ref f12))) (l12 : K.lookup f12 = some ⟨oc12, od12, .func (FO "ring_onward" (top 24) kV12 dc12 pm12 an12 cd12 ct12), sl12⟩) (c12 : W.codeIn K cd12 "ring_onward" = true) (k12 : W.keepIn K (.ref f12) = true)
  (a13 : W.nsIn K mainGlobals "raise_once" = some (some (.ref f13))) (l13 : K.lookup f13 = some ⟨oc13, od13, .func (FO "raise_once" (top 25) kV13 dc13 pm13 an13 cd13 ct13), sl13⟩) (c13 : W.codeIn K cd13 "raise_once" = true) (k13 : W.keepIn K (.ref f13) = true)
  (a14 : W.nsIn K mainGlobals "most_gains" = some (some (.ref f14))) (l14 : K.lookup f14 = some ⟨oc14, od14, .func (FO "most_gains" (top 26) kV14 dc14 pm14 an14 cd14 ct14), sl14⟩) (c14 : W.codeIn K cd14 "most_gains" = true) (k14 : W.keepIn K (.ref f14) = true)
  (a15 : W.nsIn K mainGlobals "look_prices" = some (some (.ref f15))) (l15 : K.lookup f15 = some ⟨oc15, od15, .func (FO "look_prices" (top 29) kV15 dc15 pm15 an15 cd15 ct15), sl15⟩) (c15 : W.codeIn K cd15 "look_prices" = true) (k15 : W.keepIn K (.ref f15) = true)
  (a16 : W.nsIn K mainGlobals "costs_over" = some (some (.ref f16))) (l16 : K.lookup f16 = some ⟨oc16, od16, .func (FO "costs_over" (top 30) kV16 dc16 pm16 an16 cd16 ct16), sl16⟩) (c16 : W.codeIn K cd16 "costs_over" = true) (k16 : W.keepIn K (.ref f16) = true)
  (a17 : W.nsIn K mainGlobals "pays" = some (some (.ref f17))) (l17 : K.lookup f17 = some ⟨oc17, od17, .func (FO "pays" (top 31) kV17 dc17 pm17 an17 cd17 ct17), sl17⟩) (c17 : W.codeIn K cd17 "pays" = true) (k17 : W.keepIn K (.ref f17) = true)
  (a18 : W.nsIn K mainGlobals "breaks" = some (some (.ref f18))) (l18 : K.lookup f18 = some ⟨oc18, od18, .func (FO "breaks" (top 32) kV18 dc18 pm18 an18 cd18 ct18), sl18⟩) (c18 : W.codeIn K cd18 "breaks" = true) (k18 : W.keepIn K (.ref f18) = true)
  (a19 : W.nsIn K mainGlobals "broken_by_ring" = some (some (.ref f19))) (l19 : K.lookup f19 = some ⟨oc19, od19, .func (FO "broken_by_ring" (top 33) kV19 dc19 pm19 an19 cd19 ct19), sl19⟩) (c19 : W.codeIn K cd19 "broken_by_ring" = true) (k19 : W.keepIn K (.ref f19) = true)
  (a20 : W.nsIn K mainGlobals "least_purse" = some (some (.ref f20))) (l20 : K.lookup f20 = some ⟨oc20, od20, .func (FO "least_purse" (top 34) kV20 dc20 pm20 an20 cd20 ct20), sl20⟩) (c20 : W.codeIn K cd20 "least_purse" = true) (k20 : W.keepIn K (.ref f20) = true)
  (a21 : W.nsIn K mainGlobals "_law_cell" = some (some (.ref f21))) (l21 : K.lookup f21 = some ⟨oc21, od21, .func (FO "_law_cell" (top 36) kV21 dc21 pm21 an21 cd21 ct21), sl21⟩) (c21 : W.codeIn K cd21 "_law_cell" = true) (k21 : W.keepIn K (.ref f21) = true)
  (a22 : W.nsIn K mainGlobals "_law_mix" = some (some (.ref f22))) (l22 : K.lookup f22 = some ⟨oc22, od22, .func (FO "_law_mix" (top 37) kV22 dc22 pm22 an22 cd22 ct22), sl22⟩) (c22 : W.codeIn K cd22 "_law_mix" = true) (k22 : W.keepIn K (.ref f22) = true)
  (a23 : W.nsIn K mainGlobals "_law_whole" = some (some (.ref f23))) (l23 : K.lookup f23 = some ⟨oc23, od23, .func (FO "_law_whole" (top 38) kV23 dc23 pm23 an23 cd23 ct23), sl23⟩) (c23 : W.codeIn K cd23 "_law_whole" = true) (k23 : W.keepIn K (.ref f23) = true)
  (a24 : W.nsIn K mainGlobals "_law_machine" = some (some (.ref f24))) (l24 : K.lookup f24 = some ⟨oc24, od24, .func (FO "_law_machine" (top 39) kV24 dc24 pm24 an24 cd24 ct24), sl24⟩) (c24 : W.codeIn K cd24 "_law_machine" = true) (k24 : W.keepIn K (.ref f24) = true)
  (a25 : W.nsIn K mainGlobals "_law_row" = some (some (.ref f25))) (l25 : K.lookup f25 = some ⟨oc25, od25, .func (FO "_law_row" (top 40) kV25 dc25 pm25 an25 cd25 ct25), sl25⟩) (c25 : W.codeIn K cd25 "_law_row" = true) (k25 : W.keepIn K (.ref f25) = true)
  (a26 : W.nsIn K mainGlobals "_law_reached" = some (some (.ref f26))) (l26 : K.lookup f26 = some ⟨oc26, od26, .func (FO "_law_reached" (top 41) kV26 dc26 pm26 an26 cd26 ct26), sl26⟩) (c26 : W.codeIn K cd26 "_law_reached" = true) (k26 : W.keepIn K (.ref f26) = true)
  (a27 : W.nsIn K mainGlobals "_law_wanted" = some (some (.ref f27))) (l27 : K.lookup f27 = some ⟨oc27, od27, .func (FO "_law_wanted" (top 42) kV27 dc27 pm27 an27 cd27 ct27), sl27⟩) (c27 : W.codeIn K cd27 "_law_wanted" = true) (k27 : W.keepIn K (.ref f27) = true)
  (a28 : W.nsIn K mainGlobals "law" = some (some (.ref f28))) (l28 : K.lookup f28 = some ⟨oc28, od28, .func (FO "law" (top 43) kV28 dc28 pm28 an28 cd28 ct28), sl28⟩) (c28 : W.codeIn K cd28 "law" = true) (k28 : W.keepIn K (.ref f28) = true)
  (i0 : W.nsIn K mainGlobals "MOST_PLACES" = some (some (.int 200 t0)))
  (i1 : W.nsIn K mainGlobals "MOST_KINDS" = some (some (.int 8 t1)))
  (i2 : W.nsIn K mainGlobals "MOST_DEEDS" = some (some (.int 600 t2)))
  (i3 : W.nsIn K mainGlobals "MOST_COST" = some (some (.int 1000 t3)))
  (i4 : W.nsIn K mainGlobals "MOST_PRICE" = some (some (.int 1000 t4)))
  (z0 : W.nsIn K mainGlobals "bool" = some none)
  (z1 : W.nsIn K mainGlobals "enumerate" = some none)
  (z2 : W.nsIn K mainGlobals "int" = some none)
  (z3 : W.nsIn K mainGlobals "isinstance" = some none)
  (z4 : W.nsIn K mainGlobals "len" = some none)
  (z5 : W.nsIn K mainGlobals "list" = some none)
  (z6 : W.nsIn K mainGlobals "max" = some none)
  (z7 : W.nsIn K mainGlobals "min" = some none)
  (z8 : W.nsIn K mainGlobals "range" = some none)
  (z9 : W.nsIn K mainGlobals "set" = some none)
  (z10 : W.nsIn K mainGlobals "sorted" = some none)
  (z11 : W.nsIn K mainGlobals "sum" = some none)
  (z12 : W.nsIn K mainGlobals "tuple" = some none)
  {qM qR qC : Addr}
  (xM : W.nsIn K mainGlobals "BadMachine" = some (some (.ref qM))) (yXM : W.excIn K qM bmV "ValueError.__new__" = true)
  (xR : W.nsIn K mainGlobals "BadRow" = some (some (.ref qR))) (yXR : W.excIn K qR bmV "ValueError.__new__" = true)
  (xC : W.nsIn K mainGlobals "BadPrices" = some (some (.ref qC))) (yXC : W.excIn K qC bmV "ValueError.__new__" = true) :
  ∃ fd : FuncData, (∀ (s : Shared) (u : Value), BindsTo s fd ⟨[u], []⟩ [("_law_script", u)]) ∧ ∀ base : Heap, K.In base → base.Ns mainGlobals mg → FnOk P w K mg base (CX1 P w) 9 fa fd ["_law_script"] (spV K 1 f_law) := by
 have T : Txt K mg := ⟨W.mg_none_of X G z0, W.mg_none_of X G z1, W.mg_none_of X G z2, W.mg_none_of X G z3, W.mg_none_of X G z4, W.mg_none_of X G z5, W.mg_none_of X G z6, W.mg_none_of X G z7, W.mg_none_of X G z8, W.mg_none_of X G z9, W.mg_none_of X G z10, W.mg_none_of X G z11, W.mg_none_of X G z12,
  ⟨t0, W.mg_of X G i0⟩, ⟨t1, W.mg_of X G i1⟩, ⟨t2, W.mg_of X G i2⟩, ⟨t3, W.mg_of X G i3⟩, ⟨t4, W.mg_of X G i4⟩,
  bD a0 l0 c0 k0, bD a1 l1 c1 k1, bD a2 l2 c2 k2, bD a3 l3 c3 k3, bD a4 l4 c4 k4, bD a5 l5 c5 k5, bD a6 l6 c6 k6, bD a7 l7 c7 k7, bD a8 l8 c8 k8, bD a9 l9 c9 k9, bD a10 l10 c10 k10, bD a11 l11 c11 k11, bD a12 l12 c12 k12, bD a13 l13 c13 k13, bD a14 l14 c14 k14, bD a15 l15 c15 k15, bD a16 l16 c16 k16, bD a17 l17 c17 k17, bD a18 l18 c18 k18, bD a19 l19 c19 k19, bD a20 l20 c20 k20, bD a21 l21 c21 k21, bD a22 l22 c22 k22, bD a23 l23 c23 k23, bD a24 l24 c24 k24, bD a25 l25 c25 k25, bD a26 l26 c26 k26, bD a27 l27 c27 k27, bD a28 l28 c28 k28, ⟨qM, qR, qC, W.mg_of X G xM, xM, yXM, W.mg_of X G xR, xR, yXR, W.mg_of X G xC, xC, yXC⟩⟩
 obtain ⟨f, fd, e, hb, hF⟩ := aKa (P := P) (w := w) T.d_law X G cY rfl rfl (by decide) (fun _ _ _ _ _ _ us hl => match us, hl with | [_], _ => rfl) (fun base kb nb => aL7 T base kb nb)
 have e := hfa.symm.trans e
 cases e
 exact ⟨fd, fun s u => hb s [u] rfl, hF⟩
theorem walk {l : PySem.W.OpenLaw} {q : Program} {loose : List Str} {XP : (Str → Option Value) → Heap → Prop} {YP : World → Heap → Prop} {d : DefRec} {K : Params → FG} (hn : l.most = some 63) (hdf : d.params.defaults = [])
  (hY : ∀ (w : World) (h : Heap), YP w h → (K w.params).In h)
  (F : ∀ (w : World) (mg : Y6) (fa : Addr) (h : Heap), (K w.params).In h → h.Ns mainGlobals mg → mg d.name = some (.ref fa) →
   ∃ fd : FuncData, (∀ (s : Shared) (u : Value), BindsTo s fd ⟨[u], []⟩ [("_law_script", u)]) ∧ ∀ base : Heap, (K w.params).In base → base.Ns mainGlobals mg → FnOk l.prog w (K w.params) mg base (CX1 l.prog w) 9 fa fd ["_law_script"] (spV (K w.params) 1 f_law))
  (hK : ∀ p : Params, nE (K p) = true) : PySem.W.WalkO q loose XP YP l.row.toRowW d [] (fun f vs => PySem.call f vs) :=
 L2.walk_of (n := 63) (k := 9) (x := "_law_script") (CX := fun w => CX1 l.prog w) (sp := fun w => spV (K w.params) 1 f_law) hn (by decide) hdf ⟨rfl, by decide, by decide⟩ hY F (fun w H a ns hl _ hS => aF2 (hK w.params) aO0 hS) fun _ _ _ _ _ z => aEj z
end VL.K11
namespace PySem.W.Fast
def tw9985442008008959636:=()
def tw12586579082273118835:=()
def tw8100294212424214809:=()
def tw16121863103970884138:=()
def tw8807245082975068513:=()
def tw11219449753741403075:=()
def tw4041673220548557129:=()
def tw3372402090356360559:=()
def tw6036478158639147210:=()
def tw13696503460309659139:=()
def tw3949217272447995056:=()
def tw13465356108952768161:=()
def tw12621584209369375245:=()
def tw6704226178379112659:=()
def tw2402175464651093915:=()
def tw2241163277546300637:=()
def tw16936402601687507498:=()
def tw11049639828227374538:=()
def tw5756319766207579785:=()
def tw10917862338727183464:=()
def tw11584243910341261193:=()
def tw4222332461991297288:=()
def tw8485671776359919539:=()
def tw16445291870413988433:=()
def tw9443063453940546483:=()
def tw3919901594066427596:=()
def tw13667980033956945271:=()
def tw17027971911642219720:=()
def tw12725695237948772233:=()
def tw10717437005600399254:=()
def tw1596383235409813069:=()
def tw14852397629122032799:=()
def tw2314146972546935288:=()
def tw17364118494897720881:=()
def tw1029249647646890244:=()
def tw16494319446612083292:=()
def tw13747737718199083235:=()
def tw4165505043896618115:=()
def tw11868789778860774993:=()
def tw6633140171103778671:=()
def tw6586713932186381258:=()
def tw13697317599717992853:=()
def tw18415350582947837109:=()
def tw6129881439712485589:=()
end PySem.W.Fast
open PySem PySem.W PyProof.Rows
set_option maxRecDepth 100000 in
set_option maxHeartbeats 0 in
theorem PySem.Challenge.cw_pursehall_k11_whole_least_purse_holds : PySem.Challenge.rw_pursehall_k11_whole_least_purse.Holds := by
 w_on; o_law; k_head; (case hw => w_witness2)
 k_fill
 refine VL.K11.walk (l := PySem.Challenge.rw_pursehall_k11_whole_least_purse) rfl rfl (fun w h Y => PySem.W.kIn_of Y) ?F ?hNL
 case F =>
  intro w mg fa h KX G hmg
  refine' VL.K11.all_mk KX G hmg ?a0 ?l0 ?c0 ?k0 ?a1 ?l1 ?c1 ?k1 ?a2 ?l2 ?c2 ?k2 ?a3 ?l3 ?c3 ?k3 ?a4 ?l4 ?c4 ?k4 ?a5 ?l5 ?c5 ?k5 ?a6 ?l6 ?c6 ?k6 ?a7 ?l7 ?c7 ?k7 ?a8 ?l8 ?c8 ?k8 ?a9 ?l9 ?c9 ?k9 ?a10 ?l10 ?c10 ?k10 ?a11 ?l11 ?c11 ?k11 ?a12 ?l12 ?c12 ?k12 ?a13 ?l13 ?c13 ?k13 ?a14 ?l14 ?c14 ?k14 ?a15 ?l15 ?c15 ?k15 ?a16 ?l16 ?c16 ?k16 ?a17 ?l17 ?c17 ?k17 ?a18 ?l18 ?c18 ?k18 ?a19 ?l19 ?c19 ?k19 ?a20 ?l20 ?c20 ?k20 ?a21 ?l21 ?c21 ?k21 ?a22 ?l22 ?c22 ?k22 ?a23 ?l23 ?c23 ?k23 ?a24 ?l24 ?c24 ?k24 ?a25 ?l25 ?c25 ?k25 ?a26 ?l26 ?c26 ?k26 ?a27 ?l27 ?c27 ?k27 ?a28 ?l28 ?c28 ?k28 ?i0 ?i1 ?i2 ?i3 ?i4 ?z0 ?z1 ?z2 ?z3 ?z4 ?z5 ?z6 ?z7 ?z8 ?z9 ?z10 ?z11 ?z12 ?xM ?yXM ?xR ?yXR ?xC ?yXC
  any_goals first | k_is | k_exc | kts_exm | kit_is
 case hNL => intro p; rfl
end
